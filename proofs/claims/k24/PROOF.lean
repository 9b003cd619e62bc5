import PyProof.Rows.All
import Wide.All
import OpenK.AllK
import Wide.FinOn
import Lean
import PyProof.EqAt
import PyProof.EqKinds
import PyProof.TupleCall
import PySem.Challenge.RW_spotlook_k24_corners_and_walls_looked_at
open Array renaming getElem?_eq_getElem->Fd,length_toList->Fn,getElem?_toList->Fp,getElem?_eq_some_iff->GB,getElem?_eq_none->Hz
open Bool renaming false_ne_true->F4,false_eq_true->F5,not_true->Gx,and_eq_true->GF,decide_and->HY
open False renaming elim->Iv
open ForInStep renaming yield->Hv
open Int renaming mul_pos->Fj,sign->Fo,mul_neg_of_neg_of_pos->Fw,mul_neg_of_pos_of_neg->Fx,lt_trichotomy->FJ,mul_pos_of_neg_of_neg->FP,sign_eq_neg_one_of_neg->FU,fdiv_eq_ediv_of_nonneg->Gi,sign_eq_one_of_pos->Gm,le_of_lt->Gn,toNat_natCast->Hb,mul_eq_zero->He,ofNat->Iu
open LawfulMonad renaming pure_bind->GG
open List renaming length_map->E6,getElem?_eq_getElem->E7,getElem?_map->E9,map_cons->EW,mem_of_getElem?->EZ,getElem?_eq_some_iff->F0,size_toArray->Fe,mem_append_right->Ff,range->Fg,length_cons->Fi,mem_append->Fl,mem_map->Fm,replicate->Fv,find?_cons->FA,mem_cons_of_mem->FH,map_append->FI,getElem?_append_right->FL,mem_cons->FN,getElem?_append_left->FO,pairwise_iff_getElem->FY,getElem_mem->G6,mem_cons_self->G9,length_append->Ga,length_nil->Gb,mem_filter->Ge,mem_range->Gg,toArray->Gk,lookup_cons->Gw,append_nil->GC,take_of_length_le->GH,replicate_succ->GI,map_nil->GR,zip_cons_cons->GV,getElem_of_mem->Hc,all_eq_true->Hj,map->Hl,take_succ->Hn,nodup_cons->Hu,map_map->Hy,any_cons->HF,sum_cons->HH,length_take->HJ,forIn_cons->HZ,flatten_cons->Ie,pairwise_map->Ih,forIn_nil->Ip
open Nat renaming le_refl->E8,lt_of_lt_of_le->Fh,ne_of_lt->Fs,zero_le->FQ,le_trans->Gp,lt_succ_of_lt->Hq,lt_trichotomy->Hr,lt_irrefl->HD,gcd->HW
open Option renaming getD_some->Hk,map_eq_some_iff->HC
open PyProof.Rows renaming IntsAre->Gv
open PySem renaming wpAny_bind->cc,Value->E1,Shared->E3,wpAny_pure->E4,wpAny->EX,model->F6,wpAny_mono->F7,Program->F8,sizeLine->Fb,starEach->Fc,World->Fy,Params->Fz,compareOp->FC,foldedSetIterable->FD,SetTable->FE,wpAny_loadPart'->FF,Around->FK,wpAny_newObj_type->FR,mem_of_lookup->FV,wpAny_holding->FX,cLine->G0,bootBuiltins->G5,codeAny_builtin->Gf,DictEntry->Gr,wpAny_truthy_bool->Gs,wpAny_call_entry->Gy,wpAny_seqItems->GA,wpAny_setState_of->GJ,backTo->GK,wpAny_standAt->GL,plainId_quiet->GN,Builtin->GQ,sysModules->GU,cellsFrom->GX,wpAny_callSpecial?_slot->GY,Spec->GZ,letOwnedTupleGo->Hd,rawInt->Hf,codeAny->Hh,binaryOp->Hi,wpAny_typeNameOfWhole_keyiter->Hm,wpAny_pyNext_tuple_item->Ho,NameKind->Hx,keywordEach->HE,swapsWith->HI,Scope->HN,pyNext->HP,wpAny_pyIter_tuple->HQ,wpAny_tryCatch->HR,wpAny_passesOwn->HX,mainGlobals->Ia,sizeLine_eq->Ib,codeAny_mono->Ic,behindInMarks->Ii,assignEach->Ij,attributeBase->Ik,PyData->Im,assign->Io,wpAny_setField->Ir,Keyword->Iw,FuncData->Iy,Paired->Iz
open PySem.Around renaming under_plainId->Gd
open PySem.Builtin.Tuple renaming tupleCompareSizes->Hg
open PySem.Challenge renaming pw_spotlook_k24_corners_and_walls_looked_at->Fq
open PySem.F renaming slot_dict_keyiterator_next->GS,plain_max_loop->HK,plain_min_loop->HL,slot_tuple_iterator_next->HS
open PySem.Heap renaming get?_push_of_some->E5,get?_push_size->EY,lt_size->F9,get?_update_other->FT,get?_update_self->G7,size_push->Gj,SameBut->GO
open PySem.Heap.SameBut renaming update->FW
open PySem.NameKind renaming free->HG
open PySem.Obj renaming data_mapFields->GW
open PySem.PassesOwn renaming never->Ft
open PySem.PyData renaming eqv->FG,eqvAll->G8,canLayAll0->H0,depthAll->I0,canLay0->Iq
open PySem.SeqAt renaming shaped->GD,canLay_of_shaped->Ha
open PySem.SetTable renaming insertAt->Hs
open PySem.Str renaming ofString->Gz
open PySem.Value renaming ref->FZ,none->Gu,type->Ht,bool->HM
open PySem.W renaming Frag->E2,BT->Fu,fnOf->GP
open Rat renaming intCast_mul->Gq,intCast_sub->Hw,mul_pos->Ig
open True renaming intro->Il
local macro_rules | `(↑$n:num) => `(nat_lit $n)
set_option Elab.async false
set_option linter.all false
set_option maxRecDepth 100000
set_option maxHeartbeats 4000000
theorem nbL{n m:Nat}(h:Nat.ble n m=true):n<=m:=Nat.le_of_ble_eq_true h
namespace L2
open PySem PySem.Spec PyProof.Rows
abbrev Key:=Sum Int Str
def kS:Key->E1->Bool
 |.inl k,v=>Value.isInt k v
 |.inr x,v=>Value.isStrOf x v
def Ea(w:Fy):Key->Int
 |.inl k=>hashInt k
 |.inr x=>hashStr w x
theorem a9:∀{k:Key} {v:E1},kS k v=true->(∃i t,k=Sum.inl i/\v=Value.int i t)\/(∃x t,k=Sum.inr x/\v=Value.str x t)
 |.inl i,v,h=>by
  obtain⟨t,e⟩:=Value.isInt_shape (k:=i) (v:=v) h
  exact .inl ⟨i,t,rfl,e⟩
 |.inr x,v,h=>by
  obtain⟨t,e⟩:=Value.isStrOf_shape (x:=x) (v:=v) h
  exact .inr ⟨x,t,rfl,e⟩
theorem sL(i:Int)(t:Tok):kS (.inl i) (.int i t)=true:=by simp[kS,Value.isInt]
theorem sR(x:Str)(t:Tok):kS (.inr x) (.str x t)=true:=by simp[kS,Value.isStrOf]
theorem A5(a b:Int):decide ((Sum.inl a:Key)=Sum.inl b)=(a==b):=by
 by_cases e:a=b
 ·subst e;simp
 ·have h:¬(Sum.inl a:Key)=Sum.inl b:=fun q=>e (Sum.inl.inj q);rw[decide_eq_false h];exact(beq_eq_false_iff_ne.mpr e).symm
theorem Ca(a b:Str):decide ((Sum.inr a:Key)=Sum.inr b)=decide (a=b):=by
 by_cases e:a=b
 ·subst e;simp
 ·have h:¬(Sum.inr a:Key)=Sum.inr b:=fun q=>e (Sum.inr.inj q);rw[decide_eq_false h,decide_eq_false e]
theorem Au(a:Int)(b:Str):decide ((Sum.inl a:Key)=Sum.inr b)=false:=decide_eq_false (fun q=>nomatch q)
theorem B8(a:Str)(b:Int):decide ((Sum.inr a:Key)=Sum.inl b)=false:=decide_eq_false (fun q=>nomatch q)
def bA(prog:F8)(w:Fy):PySem.KeyKind prog w Key where
 is:=kS
 hash:=Ea w
 inj:=fun v a b ha hb=>by
  rcases a9 ha with⟨i,t,rfl,rfl⟩|⟨x,t,rfl,rfl⟩
  ·rcases a9 hb with⟨j,u,rfl,e⟩|⟨y,u,rfl,e⟩
   ·injection e with e1 _;rw[e1]
   ·exact nomatch e
  ·rcases a9 hb with⟨j,u,rfl,e⟩|⟨y,u,rfl,e⟩
   ·exact nomatch e
   ·injection e with e1 _;rw[e1]
 byValue:=fun k v h=>by
  rcases a9 h with⟨i,t,rfl,rfl⟩|⟨x,t,rfl,rfl⟩<;>rfl
 pyHash:=fun hv h=>by
  rcases a9 hv with⟨i,t,rfl,rfl⟩|⟨x,t,rfl,rfl⟩
  ·exact wpAny_pyHash_int h
  ·exact wpAny_pyHash_str h
 eqBool:=fun hu hv h=>by
  rcases a9 hu with⟨i,t,rfl,rfl⟩|⟨x,t,rfl,rfl⟩
  ·rcases a9 hv with⟨j,u,rfl,rfl⟩|⟨y,u,rfl,rfl⟩
   ·rw[A5]at h;exact wpAny_eqBool_int h
   ·rw[Au]at h;exact SeqAt.EqAt.int_str i t y u _ _ _ _ h
  ·rcases a9 hv with⟨j,u,rfl,rfl⟩|⟨y,u,rfl,rfl⟩
   ·rw[B8]at h;exact SeqAt.EqAt.str_int x t j u _ _ _ _ h
   ·rw[Ca]at h;exact wpAny_eqBool_str h
 «strs»:=fun k x t v h=>by
  rcases a9 h with⟨i,u,rfl,e⟩|⟨y,u,rfl,e⟩
  ·exact nomatch e
  ·injection e with e1 _
   subst e1
   cases v<;>rfl
theorem oN(prog:F8)(w:Fy)(i:Int)(t:Tok):(bA prog w).is (.inl i) (.int i t)=true:=sL i t
theorem nU(prog:F8)(w:Fy)(x:Str)(t:Tok):(bA prog w).is (.inr x) (.str x t)=true:=sR x t
inductive V where
 |non|bl (b:Bool)|int (i:Int)|str (x:Str)|byt (b:Array UInt8)|flt (b:UInt64)|ref (a:Addr)|ty (n:String)
 deriving DecidableEq
def RelV:V->E1->Prop
 |.non,u=>u=Gu
 |.bl b,u=>u=HM b
 |.int i,u=>∃t,u=Value.int i t
 |.str x,u=>∃t,u=Value.str x t
 |.byt b,u=>∃t,u=Value.bytes b t
 |.flt b,u=>∃t,u=Value.float b t
 |.ref a,u=>u=FZ a
 |.ty n,u=>u=Ht n
abbrev Vals:List V->List E1->Prop:=Iz RelV
theorem Vals.length{xs:List V}{us:List E1}(r:Vals xs us):xs.length=us.length:=Paired.length r
theorem Vals.get:∀{xs:List V} {us:List E1} {i:Nat} {x:V},Vals xs us->xs[i]?=some x->∃u,us[i]?=some u/\RelV x u
 |_,_,_,_,.nil,e=>by simp at e
 |_,_,0,_,.cons r _,e=>by simp at e;subst e;exact⟨_,rfl,r⟩
 |_,_,i+1,x,.cons _ t,e=>by
  obtain⟨u,h1,h2⟩:=Vals.get (i:=i) (x:=x) t (by simpa using e)
  exact⟨u,by simpa using h1,h2⟩
theorem Vals.set{x:V}{u:E1}(r:RelV x u):∀{xs:List V} {us:List E1} (i:Nat),Vals xs us->Vals (xs.set i x) (us.set i u)
 |_,_,_,.nil=>.nil
 |_,_,0,.cons _ t=>.cons r t
 |_,_,i+1,.cons q t=>.cons q (Vals.set r i t)
theorem Vals.append:∀{xs ys:List V} {us ws:List E1},Vals xs us->Vals ys ws->Vals (xs++ys) (us++ws)
 |_,_,_,_,.nil,s=>s
 |_,_,_,_,.cons r t,s=>.cons r (Vals.append t s)
theorem Vals.take:∀{xs:List V} {us:List E1} (n:Nat),Vals xs us->Vals (xs.take n) (us.take n)
 |_,_,0,_=>.nil
 |_,_,_+1,.nil=>.nil
 |_,_,n+1,.cons r t=>.cons r (Vals.take n t)
theorem Vals.drop:∀{xs:List V} {us:List E1} (n:Nat),Vals xs us->Vals (xs.drop n) (us.drop n)
 |_,_,0,r=>r
 |_,_,_+1,.nil=>.nil
 |_,_,n+1,.cons _ t=>Vals.drop n t
def sS:Option V->Option E1->Prop
 |some v,some u=>RelV v u
 |none,none=>True
 |_,_=>False
def KV{κ:Type}:List (κ×V)->List (κ×E1)->Prop:=Iz fun(p:κ×V) (q:κ×E1)=>p.1=q.1/\RelV p.2 q.2
def kV:Key->V
 |.inl i=>.int i
 |.inr x=>.str x
inductive HO where
 |lst (xs:List V)
 |tup (xs:List V)
 |dK (kvs:List (Key×V))|dT (kvs:List (List Key×V))
 |set (S:Int->Bool) (n:Nat)
 |ins (C dx:Addr) (fs:List (Str×V))
 |own (x:Addr)
 |xd (fs:List (Str×V))
 |met (f x:Addr)
 |rng (lo hi:Int)
 |frz (o:Obj) (u:HO)
 |tbl (ps:Array E1)
 |ext (φ:Heap->Prop)
abbrev Hp:=Addr->Option HO
def upd(H:Hp)(a:Addr)(o:HO):Hp:=fun b=>if b=a then some o else H b
theorem aM{H:Hp}{a:Addr}{o:HO}:upd H a o a=some o:=by unfold upd;rw[if_pos rfl]
theorem aK{H:Hp}{a b:Addr}{o:HO}(h:b≠a):upd H a o b=H b:=by unfold upd;rw[if_neg h]
theorem Dm{H:Hp}{a b:Addr}{o u:HO}(h:H a=some o)(h':H b=some u)(d:o≠u):a≠b:=by intro e;subst e;rw[h]at h';exact d (Option.some.inj h')
theorem c7{H:Hp}{a b:Addr}{o:HO}(h:H a=some o)(h':H b=none):a≠b:=by intro e;subst e;rw[h]at h';cases h'
section
variable(P:F8)(w:Fy)
def NoD(h:Heap)(a:Addr):Prop:=∃o,h.get? a=some o/\o.dict=none
theorem NoD.new(h:Heap)(u:Array E1):NoD (h.push { cls:=.type "tuple",data:=.seq u }) h.objs.size:=⟨_,EY _ rfl,rfl⟩
def bz(H:Hp)(h:Heap)(a:Addr):HO->Prop
 |.lst xs=>xs.length<=Fb/\∃(its:List E1) (n:Nat),Vals xs its/\h.get? a=some { cls:=.type "list",data:=.seq its.toArray n }
 |.tup xs=>xs.length<=Fb/\∃its:List E1,Vals xs its/\IsTup h a its.toArray/\NoD h a
 |.dK kvs=>kvs.length<=Fb/\(a==GU)=false/\∃vs,KV kvs vs/\h.DictOf (bA P w) a vs
 |.dT kvs=>kvs.length<=Fb/\(a==GU)=false/\∃xs:List (List Key×Addr×E1),
  Iz (fun(p:List Key×V) (q:List Key×Addr×E1)=>p.1=q.1/\H q.2.1=some (.tup (p.1.map kV))/\RelV p.2 q.2.2) kvs xs/\
  ∃o es ep,h.get? a=some o/\o.ExactDict/\o.data=.dict es ep/\es.toList=xs.map (entryOfKey (tupleKind (bA P w)))/\(xs.map (·.1)).Nodup
 |.set S n=>h.SetOf (intKind P w) a S n
 |.ins C dx fs=>H dx=some (.own a)/\fs.length<=1000/\dx≠a/\h.get? a=some (PySem.W.instObj C dx)/\
  ∃mA,h.Ns1 dx mA/\(∀f,sS (fs.lookup f) (mA f))/\PySem.Within mA (fs.map (·.1))
 |.own _=>∃o,h.get? a=some o
 |.xd fs=>∃mA,h.Ns1 a mA/\∀f,sS (fs.lookup f) (mA f)
 |.rng lo hi=>∃t u v,h.get? a=some { cls:=.type "range",data:=.fields #[.int lo t,.int hi u,.int 1 v] }
 |.frz o u=>h.get? a=some o/\bz H h a u
 |.tbl ps=>h.get? a=some { cls:=.none,data:=.fields ps }
 |.met f x=>h.get? a=some (PySem.W.methodObj (.ref f) (.ref x))
 |.ext φ=>φ h/\(∃o,h.get? a=some o)/\∀h1 h2:Heap,φ h1->(∀o,h1.get? a=some o->h2.get? a=some o)->φ h2
def HOk(H:Hp)(h:Heap):Prop:=∀a o,H a=some o->bz P w H h a o
end
section
variable{P:F8}{w:Fy}{H H':Hp}{h h':Heap}{a:Addr}{o:HO}
theorem bz.lt(x:bz P w H h a o):a<h.objs.size:=by
 cases o with
 |lst xs=>obtain⟨_,_,_,_,e⟩:=x;exact F9 e
 |tup xs=>obtain⟨_,_,_,p,_⟩:=x;exact p.lt
 |dK kvs=>obtain⟨_,_,_,_,o,_,_,e,_⟩:=x;exact F9 e
 |dT kvs=>obtain⟨_,_,_,_,o,_,_,e,_⟩:=x;exact F9 e
 |set S n=>obtain⟨o,_,_,_,e,_⟩:=x;exact F9 e
 |ins C dx fs=>obtain⟨_,_,_,e,_⟩:=x;exact F9 e
 |own y=>obtain⟨_,e⟩:=x;exact F9 e
 |xd fs=>obtain⟨_,⟨_,_,_,e,_⟩,_⟩:=x;exact F9 e
 |rng lo hi=>obtain⟨_,_,_,e⟩:=x;exact F9 e
 |frz ob u=>obtain⟨e,_⟩:=x;exact F9 e
 |tbl ps=>exact F9 (show h.get? a=some _ from x)
 |met f y=>exact F9 (show h.get? a=some _ from x)
 |ext φ=>obtain⟨_,⟨_,e⟩,_⟩:=x;exact F9 e
theorem Paired.BZ{α β:Type}{F G:α->β->Prop}:∀{l₁:List α} {l₂:List β},Iz F l₁ l₂->(∀a b,F a b->G a b)->Iz G l₁ l₂
 |_,_,.nil,_=>.nil
 |_,_,.cons r t,f=>.cons (f _ _ r) (Paired.BZ t f)
theorem bz.fW(x:bz P w H h a o)(k:∀b u,(b=a\/H b=some (.own a))->h.get? b=some u->h'.get? b=some u) (ho:∀b,H b=some (.own a)->H' b=some (.own a)) (ht:∀b xs,H b=some (.tup xs)->H' b=some (.tup xs)):bz P w H' h' a o:=by
 induction o with
 |lst xs=>obtain⟨z,its,n,r,e⟩:=x;exact⟨z,its,n,r,k _ _ (.inl rfl) e⟩
 |tup xs=>obtain⟨z,its,r,⟨ob,e,c⟩,o2,e2,d2⟩:=x;exact⟨z,its,r,⟨ob,k _ _ (.inl rfl) e,c⟩,o2,k _ _ (.inl rfl) e2,d2⟩
 |dK kvs=>obtain⟨z,y,vs,r,ob,es,ep,e,c⟩:=x;exact⟨z,y,vs,r,ob,es,ep,k _ _ (.inl rfl) e,c⟩
 |dT kvs=>
  obtain⟨z,y,xs,r,ob,es,ep,e,c⟩:=x
  exact⟨z,y,xs,Paired.BZ r fun p q z=>⟨z.1,ht _ _ z.2.1,z.2.2⟩,ob,es,ep,k _ _ (.inl rfl) e,c⟩
 |set S n=>obtain⟨ob,es,ep,t,e,c⟩:=x;exact⟨ob,es,ep,t,k _ _ (.inl rfl) e,c⟩
 |ins C dx fs=>
  obtain⟨d,z,ne,e,mA,⟨od,es,ep,e2,c⟩,r⟩:=x
  exact⟨ho _ d,z,ne,k _ _ (.inl rfl) e,mA,⟨od,es,ep,k _ _ (.inr d) e2,c⟩,r⟩
 |own y=>obtain⟨ob,e⟩:=x;exact⟨ob,k _ _ (.inl rfl) e⟩
 |xd fs=>obtain⟨mA,⟨od,es,ep,e,c⟩,r⟩:=x;exact⟨mA,⟨od,es,ep,k _ _ (.inl rfl) e,c⟩,r⟩
 |rng lo hi=>obtain⟨t,u,v,e⟩:=x;exact⟨t,u,v,k _ _ (.inl rfl) e⟩
 |frz ob u ih=>obtain⟨e,q⟩:=x;exact⟨k _ _ (.inl rfl) e,ih q⟩
 |tbl ps=>
  have e:h.get? a=some { cls:=.none,data:=.fields ps }:=x
  show h'.get? a=some { cls:=.none,data:=.fields ps }
  exact k a _ (.inl rfl) e
 |met f y=>
  have e:h.get? a=some (PySem.W.methodObj (.ref f) (.ref y)):=x
  show h'.get? a=some (PySem.W.methodObj (.ref f) (.ref y))
  exact k a _ (.inl rfl) e
 |ext φ=>obtain⟨p,⟨o,e⟩,st⟩:=x;exact⟨st _ _ p fun o q=>k _ _ (.inl rfl) q,⟨o,k _ _ (.inl rfl) e⟩,st⟩
theorem HOk.lt(x:HOk P w H h)(e:H a=some o):a<h.objs.size:=(x a o e).lt
theorem HOk.fresh(x:HOk P w H h)(e:h.objs.size<=a):H a=none:=by
 cases q:H a with
 |none=>rfl
 |some u=>exact absurd (Fh (x.lt q) e) (HD _)
theorem HOk.kept(x:HOk P w H h)(k:∀b u,h.get? b=some u->h'.get? b=some u):HOk P w H h':=fun a o e=>(x a o e).fW (fun b u _ q=>k b u q) (fun _ q=>q) fun _ _ q=>q
theorem HOk.laid(x:HOk P w H h)(k:∀b u,h.get? b=some u->h'.get? b=some u)(hp:h.objs.size<=a)(new:bz P w (upd H a o) h' a o):HOk P w (upd H a o) h':=fun b u e=>by
 have hn:=x.fresh hp;by_cases hb:b=a
 ·subst hb;rw[aM]at e;cases e;exact new
 ·rw[aK hb]at e;exact(x b u e).fW (fun c v _ q=>k c v q) (fun c q=>by rw[aK (c7 q hn)];exact q) fun c xs q=>by rw[aK (c7 q hn)];exact q
end
def Rd(H:Hp)(a:Addr)(u:HO):Prop:=H a=some u\/∃o,H a=some (.frz o u)
theorem Rd.ok{P:F8}{w:Fy}{H:Hp}{h:Heap}{a:Addr}{u:HO}(r:Rd H a u)(x:HOk P w H h):bz P w H h a u:=by
 rcases r with r|⟨o,r⟩
 ·exact x a u r
 ·obtain⟨_,q⟩:=x a _ r;exact q
def Mut:Option HO->Prop
 |some (.lst _)=>True
 |some (.dK _)=>True
 |some (.dT _)=>True
 |some (.set _ _)=>True
 |some (.ins _ _ _)=>True
 |some (.ext _)=>True
 |_=>False
section
variable{P:F8}{w:Fy}{H:Hp}{h h':Heap}{x e:Addr}{o':HO}
theorem HOk.write(ok:HOk P w H h)(mu:Mut (H x))(he:e=x\/H e=some (.own x))(k:∀b u,b≠e->h.get? b=some u->h'.get? b=some u)(heo:∃u,h'.get? e=some u)
 (new:bz P w (upd H x o') h' x o'):HOk P w (upd H x o') h':=fun b u q=>by
 have nown:∀c y,H c=some (.own y)->c≠x:=fun c y r z=>by subst z;rw[r]at mu;exact mu
 have ntup:∀c xs,H c=some (.tup xs)->c≠x:=fun c xs r z=>by subst z;rw[r]at mu;exact mu
 by_cases hb:b=x
 ·subst hb;rw[aM]at q;cases q;exact new
 ·rw[aK hb]at q
  by_cases hbe:b=e
  ·have q':H b=some (.own x):=by
    rcases he with z|z
    ·exact absurd (hbe.trans z) hb
    ·rw[hbe];exact z
   rw[q]at q';cases q'
   obtain⟨v,hv⟩:=heo
   exact⟨v,by rw[hbe];exact hv⟩
  ·refine(ok b u q).fW (fun c v hc r=>k c v ?_ r) (fun c r=>by rw[aK (nown c b r)];exact r) fun c xs r=>by rw[aK (ntup c xs r)];exact r
   rcases hc with rfl|hc
   ·exact hbe
   ·rintro rfl
    rcases he with z|z
    ·exact nown c b hc z
    ·rw[hc]at z;cases z;exact hb rfl
end
structure Un(fs ex:List Addr)(H H':Hp)(h h':Heap):Prop where
 keep:∀b o,h.get? b=some o->H b=none->b∉fs->b∉ex->h'.get? b=some o
 slot:∀b o,h.get? b=some o->H b=none->b∈fs->b∉ex->∃sl,h'.get? b=some { o with slots:=sl }
 free:∀b o,h.get? b=some o->H b=none->b∉ex->H' b=none
 there:∀b o,h.get? b=some o->b∉ex->∃o',h'.get? b=some o'
 tups:∀b xs,H b=some (.tup xs)->H' b=some (.tup xs)
 frzs:∀b o u,H b=some (.frz o u)->H' b=some (.frz o u)
 tbls:∀b ps,H b=some (.tbl ps)->∃more,H' b=some (.tbl (ps++more))
section
variable{fs fs' ex ex':List Addr}{H H1 H2:Hp}{h h1 h2 h':Heap}{a x e:Addr}{o:HO}
theorem Un.any(u:Un fs ex H H1 h h1){b:Addr}{ob:Obj}(q:h.get? b=some ob)(n:H b=none)(hx:b∉ex):∃sl,h1.get? b=some { ob with slots:=sl }:=by
 by_cases hb:b∈fs
 ·exact u.slot b ob q n hb hx
 ·exact⟨ob.slots,u.keep b ob q n hb hx⟩
theorem Un.kept(k:∀b u,h.get? b=some u->h'.get? b=some u):Un fs ex H H h h':=⟨fun b ob q _ _ _=>k b ob q,fun b ob q _ _ _=>⟨ob.slots,k b ob q⟩,fun _ _ _ n _=>n,fun b ob q _=>⟨ob,k b ob q⟩,fun _ _ q=>q,fun _ _ _ q=>q,fun _ ps q=>⟨#[],by rw[q];simp⟩⟩
theorem Un.refl:Un fs ex H H h h:=Un.kept fun _ _ q=>q
theorem Un.laid(k:∀b u,h.get? b=some u->h'.get? b=some u)(hp:h.objs.size<=a)(hn:H a=none):Un fs ex H (upd H a o) h h' where
 keep:=fun b u q _ _ _=>k b u q
 slot:=fun b u q _ _ _=>⟨u.slots,k b u q⟩
 free:=fun b u q n _=>by rw[aK (Fs (Fh (F9 q) hp))];exact n
 there:=fun b u q _=>⟨u,k b u q⟩
 tups:=fun b xs q=>by rw[aK (c7 q hn)];exact q
 frzs:=fun b u xs q=>by rw[aK (c7 q hn)];exact q
 tbls:=fun b ps q=>⟨#[],by rw[aK (c7 q hn),q];simp⟩
theorem Un.write(mu:Mut (H x))(he:e=x\/H e=some (.own x))(k:∀b u,b≠e->h.get? b=some u->h'.get? b=some u)(heo:∃u,h'.get? e=some u):Un fs ex H (upd H x o) h h':=by
 have hx:∀b,H b=none->b≠x:=fun b n z=>by subst z;rw[n]at mu;exact mu
 have hb:∀b,H b=none->b≠e:=fun b n z=>by
  subst z;rcases he with r|r
  ·exact hx b n r
  ·rw[n]at r;cases r
 have hm:∀b u,H b=some u->¬Mut (some u)->b≠x:=fun b u q nm z=>by subst z;rw[q]at mu;exact nm mu
 refine⟨fun b u q n _ _=>k b u (hb b n) q,fun b u q n _ _=>⟨u.slots,k b u (hb b n) q⟩,fun b u q n _=>by rw[aK (hx b n)];exact n,fun b u q _=>?_,fun b xs q=>by rw[aK (hm b _ q fun z=>z)];exact q,fun b u xs q=>by rw[aK (hm b _ q fun z=>z)];exact q,fun b ps q=>⟨#[],by rw[aK (hm b _ q fun z=>z),q];simp⟩⟩;by_cases hbe:b=e
 ·subst hbe;exact heo
 ·exact⟨u,k b u hbe q⟩
end
def trk(h:Heap)(H:Hp):List Addr:=(Fg h.objs.size).filter fun a=>(H a).isSome
def mP(h:Heap)(H:Hp):Heap:=PySem.W.hideAll h (trk h H)
theorem sk(h:Heap)(H:Hp):(mP h H).objs.size=h.objs.size:=PySem.W.hideAll_size _ _
theorem vD{h:Heap}{H:Hp}{b:Addr}{o:Obj}(e:h.get? b=some o)(n:H b=none):(mP h H).get? b=some o:=
 PySem.W.hideAll_get _ e fun hm=>by
  have q:(H b).isSome=true:=(Ge.mp hm).2
  rw[n]at q;simp at q
theorem xD{h:Heap}{H:Hp}{b:Addr}{o:Obj}(e:(mP h H).get? b=some o):h.get? b=some o/\H b=none:=by
 have e':h.get? b=some o:=PySem.W.of_hideAll (trk h H) e;refine⟨e',?_⟩;cases q:H b with
 |none=>rfl
 |some x=>
  have hm:b∈trk h H:=Ge.mpr ⟨Gg.mpr (F9 e'),by simp[q]⟩
  have z:(mP h H).get? b=none:=PySem.W.hideAll_none (trk h H) hm
  rw[z]at e;cases e
structure Mod(K:E2)(mg:Str->Option E1)(base:Heap):Prop where
 kin:K.In base
 glob:base.Ns Ia mg
 blt:∃mb,base.Ns builtinsNs mb/\∀x:Str,x≠"__name__"->mb x=G5 x
 nolimit:base.NoLimit
structure Cx where
 prog:F8
 w:Fy
 K:E2
 mg:Str->Option E1
 base:Heap
 A:FK
 N:List Str
 s₀:E3
 H₀:Hp
 env:Env
 outer:List Env
 stack:List Env
 ex:List Addr
 fn:Str->Bool
 calm:Bool
 pn:List (Addr×Obj)
 xe:E1->E3->Prop
def frs(l:List Env):List Addr:=l.filterMap (·.frame)
abbrev Cx.fs(X:Cx):List Addr:=frs X.outer
def Vis(sc:HN)(x:Str):Prop:=sc.names.lookup x=some .local\/sc.names.lookup x=some .cell\/sc.names.lookup x=some .free
def Loc(sc:HN)(x:Str):Prop:=sc.names.lookup x=some .local\/sc.names.lookup x=some .cell
def Look(env:Env)(h:Heap)(m:Str->Option E1)(x:Str)(u:E1):Prop:=
 (env.kindOf x=some .local/\m x=some u)\/((env.kindOf x=some .cell\/env.kindOf x=some .free)/\∃c,env.cells.lookup x=some c/\h.IsCell c (some u))
structure Cx.Ok(X:Cx):Prop where
 mod:Mod X.K X.mg X.base
 kind:X.env.scope.kind=.function
 glob:X.env.globals=Ia
 blt:X.env.builtins=builtinsNs
 above:X.s₀.heap.objs.size<=X.env.locals
 inj:∀x y c,X.env.cells.lookup x=some c->X.env.cells.lookup y=some c->x=y
 has:∀x,(X.env.kindOf x=some .cell\/X.env.kindOf x=some .free)->∃c,X.env.cells.lookup x=some c
 cab:∀x c,X.fn x=true->X.env.cells.lookup x=some c->X.s₀.heap.objs.size<=c
 hd:X.calm=true->X.A.handled=none
 frames:X.A.frames=some X.stack
 stk:X.stack=X.outer\/(X.stack=X.env::X.outer/\X.env.frame=some X.env.locals)
 exf:∀b∈X.ex,b≠X.env.locals/\∀x c,X.env.cells.lookup x=some c->c≠b
 bs:∀b o,X.base.get? b=some o->X.s₀.heap.get? b=some o/\X.H₀ b=none
 bsz:X.base.objs.size<=X.s₀.heap.objs.size
 noex:∀b o,X.base.get? b=some o->b∉X.ex
 exfs:∀b∈X.ex,b∉X.fs
 jV:X.s₀.heap.FunFrames X.base X.outer
 frf:∀b∈X.fs,X.H₀ b=none
structure Inv(X:Cx)(pins:List (Addr×Obj))(σ:List (Option V))(H:Hp)(s:E3):Prop where
 ok:X.Ok
 os:s.os=X.s₀.os
 bare:AllBare s.gens
 base:Un X.fs X.ex X.H₀ H X.s₀.heap s.heap
 loc:∃m,s.heap.Ns X.env.locals m/\∀(i:Nat) (x:Str) (v:V),X.N[i]?=some x->σ[i]?=some (some v)->Vis X.env.scope x->∃u,RelV v u/\Look X.env s.heap m x u
 cell:∀x c,X.env.cells.lookup x=some c->∃v,s.heap.IsCell c v
 free:H X.env.locals=none
 freeC:∀x c,X.env.cells.lookup x=some c->H c=none
 pin:∀p∈X.pn++pins,s.heap.get? p.1=some p.2/\H p.1=none/\p.1≠X.env.locals/\p.1∉X.fs/\∀v,p.2.data≠.cell v
 hok:HOk X.prog X.w H s.heap
 len:σ.length=X.N.length
section
variable{X:Cx}{pins:List (Addr×Obj)}{σ:List (Option V)}{H H':Hp}{s:E3}{h':Heap}
theorem Cx.Ok.EN(ok:X.Ok){b:Addr}{o:Obj}(e:X.base.get? b=some o):b∉X.fs:=fun hb=>by have:=(ok.jV.mem hb).1;rw[e]at this;cases this
theorem Inv.bs(I:Inv X pins σ H s):∀b o,X.base.get? b=some o->s.heap.get? b=some o/\H b=none:=fun b o e=>⟨I.base.keep b o (I.ok.bs b o e).1 (I.ok.bs b o e).2 (I.ok.EN e) (I.ok.noex b o e),I.base.free b o (I.ok.bs b o e).1 (I.ok.bs b o e).2 (I.ok.noex b o e)⟩
theorem Inv.bk(I:Inv X pins σ H s):∀b o,X.base.get? b=some o->s.heap.get? b=some o:=fun b o e=>(I.bs b o e).1
theorem Inv.mod(I:Inv X pins σ H s):Mod X.K X.mg X.base:=I.ok.mod
theorem Inv.kIn(I:Inv X pins σ H s):X.K.In s.heap:=I.ok.mod.kin.keeps I.bk
theorem Inv.lt(I:Inv X pins σ H s):X.env.locals<s.heap.objs.size:=let⟨_,hn,_⟩:=I.loc;hn.lt
theorem Inv.sz(I:Inv X pins σ H s):X.s₀.heap.objs.size<=s.heap.objs.size:=Gp I.ok.above (Nat.le_of_lt I.lt)
theorem Inv.EH(I:Inv X pins σ H s){a:Addr}(h:s.heap.objs.size<=a):a∉X.fs:=fun hb=>by obtain⟨_,o,ho,_⟩:=I.ok.jV.mem hb;exact absurd (Fh (F9 ho) (Gp I.sz h)) (HD _)
theorem Inv.cne(I:Inv X pins σ H s):∀x c,X.env.cells.lookup x=some c->c≠X.env.locals:=fun x c e z=>by obtain⟨v,o,ho,hd⟩:=I.cell x c e;obtain⟨m,⟨o',es,ep,ho',hd',_⟩,_⟩:=I.loc;rw[z,ho']at ho;cases ho;rw[hd']at hd;cases hd
theorem Inv.jV(I:Inv X pins σ H s):s.heap.FunFrames X.base X.outer:=by
 have all:∀(l:List Env),(∀b∈frs l,b∈X.fs)->X.s₀.heap.FunFrames X.base l->s.heap.FunFrames X.base l:=by
  intro l
  induction l with
  |nil=>intro _ _;trivial
  |cons env r ih=>
   intro hs hl
   obtain⟨hk,⟨L,o,hf,hn,ho,hd⟩,hr⟩:=hl
   have hL:L∈X.fs:=hs L (by unfold frs;rw[List.filterMap_cons,hf];exact G9)
   obtain⟨sl,e⟩:=I.base.slot L o ho (I.ok.frf L hL) hL fun z=>I.ok.exfs L z hL
   exact⟨hk,⟨L,_,hf,hn,e,hd⟩,ih (fun b hb=>hs b (by unfold frs;rw[List.filterMap_cons,hf];exact FH _ hb)) hr⟩
 exact all X.outer (fun _ hb=>hb) I.ok.jV
theorem Inv.stack(I:Inv X pins σ H s):s.heap.FunFrames X.base X.stack:=by
 rcases I.ok.stk with e|⟨e,hf⟩
 ·rw[e];exact I.jV
 ·rw[e];obtain⟨m,hn,_⟩:=I.loc;refine .cons (by rw[I.ok.kind];decide) hf hn ?_ I.jV;exact Heap.get?_none_of_le (Gp I.ok.bsz I.ok.above)
theorem Inv.pg(I:Inv X pins σ H s):∀b∈frs X.stack,b∈X.env.locals::X.fs:=fun b hb=>by
 rcases I.ok.stk with e|⟨e,hf⟩
 ·rw[e]at hb;exact FH _ hb
 ·rw[e]at hb;unfold frs at hb;rw[List.filterMap_cons,hf]at hb;exact hb
theorem Inv.rp(I:Inv X pins σ H s):∀b∈frs X.stack,H b=none:=fun b hb=>by
 rcases FN.mp (I.pg b hb)with e|hb
 ·rw[e];exact I.free
 ·obtain⟨_,o,ho,_⟩:=I.ok.jV.mem hb;exact I.base.free b o ho (I.ok.frf b hb) fun z=>I.ok.exfs b z hb
theorem Inv.step{g':Array GenState}{t':Nat}{d':Drawn}{ch:List Addr}(I:Inv X pins σ H s)
 (hch:∀b∈ch,(b∈X.ex\/X.s₀.heap.objs.size<=b)/\b≠X.env.locals/\(∀x c,X.env.cells.lookup x=some c->c≠b)/\∀p∈X.pn++pins,p.1≠b)
 (keep:∀b o,b≠X.env.locals->b∉X.fs->b∉ch->s.heap.get? b=some o->H b=none->h'.get? b=some o)
 (slot:∀b o,b≠X.env.locals->b∈X.fs->b∉ch->s.heap.get? b=some o->H b=none->∃sl,h'.get? b=some { o with slots:=sl }) (free:∀b o,b∉ch->s.heap.get? b=some o->H b=none->H' b=none)
 (there:∀b o,b∉ch->s.heap.get? b=some o->∃o',h'.get? b=some o')
 (tups:∀b xs,H b=some (.tup xs)->H' b=some (.tup xs)) (frzs:∀b o u,H b=some (.frz o u)->H' b=some (.frz o u)) (tbls:∀b ps,H b=some (.tbl ps)->∃more,H' b=some (.tbl (ps++more)))
 (ns:∀m,s.heap.Ns X.env.locals m->h'.Ns X.env.locals m) (hok:HOk X.prog X.w H' h') (hg:AllBare g') :
 Inv X pins σ H' { s with heap:=h',gens:=g',drawn:=d',toks:=t' }:=by
 have neL:∀b o,X.s₀.heap.get? b=some o->b≠X.env.locals:=fun b o e=>Fs (Fh (F9 e) I.ok.above)
 have neC:∀b o,X.s₀.heap.get? b=some o->b∉X.ex->b∉ch:=fun b o e hx hb=>by
  rcases(hch b hb).1 with z|z
  ·exact hx z
  ·exact absurd (Fh (F9 e) z) (HD _)
 have cellK:∀x c,X.env.cells.lookup x=some c->∀v,s.heap.IsCell c v->h'.IsCell c v:=fun x c e v zz1_0=>by
  obtain⟨o,ho,hd⟩:=zz1_0
  have nch:c∉ch:=fun z=>(hch c z).2.2.1 x c e rfl
  by_cases hc:c∈X.fs
  ·obtain⟨sl,q⟩:=slot c o (I.cne x c e) hc nch ho (I.freeC x c e)
   exact⟨_,q,hd⟩
  ·exact⟨o,keep c o (I.cne x c e) hc nch ho (I.freeC x c e),hd⟩
 refine⟨I.ok,I.os,hg,⟨fun b o e n hb hx=>?_,fun b o e n hb hx=>?_,fun b o e n hx=>?_,fun b o e hx=>?_,fun b xs e=>tups b xs (I.base.tups b xs e),fun b o xs e=>frzs b o xs (I.base.frzs b o xs e),fun b ps e=>?_⟩,?_,fun x c e=>?_,?_,fun x c e=>?_,fun p hp=>?_,hok,I.len⟩
 ·exact keep b o (neL b o e) hb (neC b o e hx) (I.base.keep b o e n hb hx) (I.base.free b o e n hx)
 ·obtain⟨sl,e1⟩:=I.base.slot b o e n hb hx
  obtain⟨sl',e2⟩:=slot b _ (neL b o e) hb (neC b o e hx) e1 (I.base.free b o e n hx)
  exact⟨sl',e2⟩
 ·obtain⟨o',e1⟩:=I.base.there b o e hx
  exact free b o' (neC b o e hx) e1 (I.base.free b o e n hx)
 ·obtain⟨o',e1⟩:=I.base.there b o e hx
  exact there b o' (neC b o e hx) e1
 ·obtain⟨m1,e1⟩:=I.base.tbls b ps e
  obtain⟨m2,e2⟩:=tbls b _ e1
  exact⟨m1++m2,by rw[e2,Array.append_assoc]⟩
 ·obtain⟨m,hn,hl⟩:=I.loc
  refine⟨m,ns m hn,fun i x v e1 e2 e3=>?_⟩
  obtain⟨u,r,l⟩:=hl i x v e1 e2 e3
  refine⟨u,r,?_⟩
  rcases l with l|⟨k,c,e,z⟩
  ·exact .inl l
  ·exact .inr ⟨k,c,e,cellK x c e _ z⟩
 ·obtain⟨v,z⟩:=I.cell x c e
  exact⟨v,cellK x c e v z⟩
 ·obtain⟨m,⟨o,_,_,ho,_⟩,_⟩:=I.loc
  exact free _ o (fun z=>(hch _ z).2.1 rfl) ho I.free
 ·obtain⟨v,o,ho,hd⟩:=I.cell x c e
  exact free c o (fun z=>(hch c z).2.2.1 x c e rfl) ho (I.freeC x c e)
 ·obtain⟨e,n,ne,nf,d⟩:=I.pin p hp
  have nch:p.1∉ch:=fun z=>(hch p.1 z).2.2.2 p hp rfl
  exact⟨keep p.1 p.2 ne nf nch e n,free p.1 p.2 nch e n,ne,nf,d⟩
theorem Inv.un{t':Nat}(I:Inv X pins σ H s)(u:Un X.fs [] H H' s.heap h')(hok:HOk X.prog X.w H' h'):Inv X pins σ H' { s with heap:=h',toks:=t' }:=by
 obtain⟨m,⟨o,es,ep,ho,r⟩,_⟩:=id I.loc;obtain⟨sl,hL⟩:=u.any ho I.free (by simp)
 exact I.step (g':=s.gens) (d':=s.drawn) (ch:=[]) (fun _ z=>nomatch z) (fun b o _ hb _ e n=>u.keep b o e n hb (by simp)) (fun b o _ hb _ e n=>u.slot b o e n hb (by simp)) (fun b o _ e n=>u.free b o e n (by simp)) (fun b o _ e=>u.there b o e (by simp)) u.tups u.frzs u.tbls (fun m' hm=>by
  obtain⟨o',es',ep',ho',r'⟩:=hm
  rw[ho]at ho';cases ho'
  exact⟨_,es',ep',hL,r'⟩) hok I.bare
theorem Inv.call{g':Array GenState}{t':Nat}{d':Drawn}{ch:List Addr}(I:Inv X pins σ H s)(u:Un (frs X.stack) ch H H' s.heap h')(hok:HOk X.prog X.w H' h')(hg:AllBare g') (hch:∀b∈ch,(b∈X.ex\/X.s₀.heap.objs.size<=b)/\b≠X.env.locals/\(∀x c,X.env.cells.lookup x=some c->c≠b)/\∀p∈X.pn++pins,p.1≠b) : Inv X pins σ H' { s with heap:=h',gens:=g',drawn:=d',toks:=t' }:=by
 obtain⟨m,⟨o,es,ep,ho,r⟩,_⟩:=id I.loc;obtain⟨sl,hL⟩:=u.any ho I.free fun z=>(hch _ z).2.1 rfl
 exact I.step (ch:=ch) hch (fun b o hL hb hc e n=>u.keep b o e n (fun z=>(FN.mp (I.pg b z)).elim hL hb) hc) (fun b o _ _ hc e n=>u.any e n hc) (fun b o hc e n=>u.free b o e n hc) (fun b o hc e=>u.there b o e hc) u.tups u.frzs u.tbls (fun m' hm=>by
  obtain⟨o',es',ep',ho',r'⟩:=hm
  rw[ho]at ho';cases ho'
  exact⟨_,es',ep',hL,r'⟩) hok hg
theorem Inv.turned{t':Nat}{it:Addr}(I:Inv X pins σ H s)(k:∀b o,b≠it->s.heap.get? b=some o->h'.get? b=some o)(hn:H it=none)(hL:it≠X.env.locals)
 (h1:it∈X.ex\/X.s₀.heap.objs.size<=it) (h2:∀x c,X.env.cells.lookup x=some c->c≠it) (h3:∀p∈X.pn++pins,p.1≠it):Inv X pins σ H { s with heap:=h',toks:=t' }:=by
 have nit:∀b u,H b=some u->b≠it:=fun b u e z=>by rw[z,hn]at e;cases e
 refine I.step (g':=s.gens) (d':=s.drawn) (ch:=[it]) (fun b hb=>?_) (fun b o _ _ hc e _=>k b o (fun z=>hc (by simp[z])) e) (fun b o _ _ hc e _=>⟨o.slots,k b o (fun z=>hc (by simp[z])) e⟩) (fun _ _ _ _ n=>n)
  (fun b o hc e=>⟨o,k b o (fun z=>hc (by simp[z])) e⟩) (fun _ _ e=>e) (fun _ _ _ e=>e) (fun b ps e=>⟨#[],by rw[e];simp⟩) (fun m hm=>?_) (fun b u e=>?_) I.bare
 ·have e:b=it:=by simpa using hb
  subst e
  exact⟨h1,hL,h2,h3⟩
 ·obtain⟨o,es,ep,ho,r⟩:=hm
  exact⟨o,es,ep,k _ o (Ne.symm hL) ho,r⟩
 ·refine(I.hok b u e).fW (fun c v hc q=>k c v ?_ q) (fun _ q=>q) fun _ _ q=>q
  rcases hc with z|z
  ·rw[z];exact nit b u e
  ·exact nit c _ z
theorem Inv.tok(I:Inv X pins σ H s)(t:Nat):Inv X pins σ H { s with toks:=t }:=I.un (h':=s.heap) (t':=t) Un.refl I.hok
theorem Inv.kept{t':Nat}(I:Inv X pins σ H s)(k:∀b u,s.heap.get? b=some u->h'.get? b=some u):Inv X pins σ H { s with heap:=h',toks:=t' }:=I.un (Un.kept k) (I.hok.kept k)
theorem Inv.laid{a:Addr}{o:HO}{t':Nat}(I:Inv X pins σ H s)(k:∀b u,s.heap.get? b=some u->h'.get? b=some u)(hp:s.heap.objs.size<=a)(new:bz X.prog X.w (upd H a o) h' a o) : Inv X pins σ (upd H a o) { s with heap:=h',toks:=t' }:=I.un (Un.laid k hp (I.hok.fresh hp)) (I.hok.laid k hp new)
theorem Inv.write{x e:Addr}{o:HO}{t':Nat}(I:Inv X pins σ H s)(mu:Mut (H x))(he:e=x\/H e=some (.own x))(k:∀b u,b≠e->s.heap.get? b=some u->h'.get? b=some u)(heo:∃u,h'.get? e=some u) (new:bz X.prog X.w (upd H x o) h' x o):Inv X pins σ (upd H x o) { s with heap:=h',toks:=t' }:=I.un (Un.write mu he k heo) (I.hok.write mu he k heo new)
theorem Inv.rL{pins':List (Addr×Obj)}(I:Inv X pins σ H s)(h:∀p∈pins',s.heap.get? p.1=some p.2/\H p.1=none/\p.1≠X.env.locals/\p.1∉X.fs/\∀v,p.2.data≠.cell v):Inv X pins' σ H s:=⟨I.ok,I.os,I.bare,I.base,I.loc,I.cell,I.free,I.freeC,fun p hp=>(Fl.mp hp).elim (fun z=>I.pin p (List.mem_append_left _ z)) (h p),I.hok,I.len⟩
theorem oh{N:List Str}(hN:N.Nodup){i j:Nat}{x:Str}(a:N[i]?=some x)(b:N[j]?=some x):i=j:=by obtain⟨h1,e1⟩:=F0.mp a;obtain⟨h2,e2⟩:=F0.mp b;exact(List.getElem_inj hN).mp (e1.trans e2.symm)
theorem ij{M:Model}{A:FK}{E:E1->E3->Prop}{i:Nat}{x:Str}{v:V}{u:E1}{Q:Unit->E3->Prop}(I:Inv X pins σ H s)(hN:X.N.Nodup)(hi:X.N[i]?=some x)(hx:Loc X.env.scope x)(r:RelV v u)
 (h:∀s',Inv X pins (σ.set i (some v)) H s'->(∃a,GO a s.heap s'.heap/\(a=X.env.locals\/X.env.cells.lookup x=some a))->Q () s') (hf:X.fn x=true\/X.env.scope.names.lookup x=some .local:=by first|exact .inl rfl|exact .inr rfl|assumption):EX M A (storeName X.env x u) Q E s:=by
 obtain⟨m,hn,hl⟩:=id I.loc
 have hcls:(X.env.scope.kind==.class||(X.env.scope.kind==.module&&X.env.locals != X.env.globals))=false:=by rw[I.ok.kind];rfl
 have hiσ:i<σ.length:=by rw[I.len];exact(F0.mp hi).1
 have cne:=I.cne
 have tracked:∀{a:Addr} {h':Heap},(∃o,s.heap.get? a=some o/\H a=none)->GO a s.heap h'->HOk X.prog X.w H h':=fun{a h'} ha hs b ob e=>by
  obtain⟨_,_,hfree⟩:=ha
  refine(I.hok b ob e).fW (fun c w' hc q=>(hs.2 c ?_).trans q) (fun _ q=>q) fun _ _ q=>q
  rintro rfl
  rcases hc with rfl|hc
  ·rw[hfree]at e;cases e
  ·rw[hfree]at hc;cases hc
 rcases hx with hk|hk
 ·refine wpAny_storeName_local hk hn (fun h' hn' hs=>?_) hcls
  obtain⟨oL,_,_,hoL,_⟩:=id hn
  refine h _ ⟨I.ok,I.os,I.bare,⟨fun b o e n hb hx=>?_,fun b o e n hb hx=>?_,I.base.free,fun b o e hx=>?_,I.base.tups,I.base.frzs,I.base.tbls⟩,⟨_,hn',fun j y v' e1 e2 e3=>?_⟩,fun y c e=>?_,I.free,I.freeC,fun p hp=>?_,tracked ⟨oL,hoL,I.free⟩ hs,by simpa using I.len⟩ ⟨_,hs,.inl rfl⟩
  ·exact(hs.2 b (Fs (Fh (F9 e) I.ok.above))).trans (I.base.keep b o e n hb hx)
  ·obtain⟨sl,e1⟩:=I.base.slot b o e n hb hx
   exact⟨sl,(hs.2 b (Fs (Fh (F9 e) I.ok.above))).trans e1⟩
  ·obtain⟨o',e1⟩:=I.base.there b o e hx
   exact⟨o',(hs.2 b (Fs (Fh (F9 e) I.ok.above))).trans e1⟩
  ·by_cases hj:j=i
   ·subst hj
    rw[hi]at e1;cases e1
    rw[List.getElem?_set_self hiσ]at e2
    cases e2
    exact⟨u,r,.inl ⟨hk,by simp⟩⟩
   ·rw[List.getElem?_set_ne (Ne.symm hj)]at e2
    obtain⟨u',r',q⟩:=hl j y v' e1 e2 e3
    refine⟨u',r',?_⟩
    rcases q with⟨k,e⟩|⟨k,c,e,z⟩
    ·refine .inl ⟨k,?_⟩
     have:y≠x:=fun e=>hj (oh hN e1 (e▸hi))
     simp[this,e]
    ·exact .inr ⟨k,c,e,z.sameBut hs (cne y c e)⟩
  ·obtain⟨w',z⟩:=I.cell y c e
   exact⟨w',z.sameBut hs (cne y c e)⟩
  ·obtain⟨e,n,ne,nf,d⟩:=I.pin p hp
   exact⟨(hs.2 p.1 ne).trans e,n,ne,nf,d⟩
 ·have hfn:X.fn x=true:=by
   rcases hf with z|z
   ·exact z
   ·rw[z]at hk;cases hk
  obtain⟨c,hc⟩:=I.ok.has x (.inl hk)
  obtain⟨w',z⟩:=I.cell x c hc
  refine wpAny_storeName_cell I.ok.kind hk hc z (fun h' hc' hs=>?_)
  obtain⟨oc,hoc,hocd⟩:=id z
  refine h { s with heap:=h' } ⟨I.ok,I.os,I.bare,⟨fun b o e n hb hx=>?_,fun b o e n hb hx=>?_,I.base.free,fun b o e hx=>?_,I.base.tups,I.base.frzs,I.base.tbls⟩,⟨m,hn.sameBut hs (Ne.symm (cne x c hc)),fun j y v' e1 e2 e3=>?_⟩,fun y c' e=>?_,I.free,I.freeC,fun p hp=>?_,tracked ⟨oc,hoc,I.freeC x c hc⟩ hs,by simpa using I.len⟩ ⟨c,hs,.inr hc⟩
  ·exact(hs.2 b (Fs (Fh (F9 e) (I.ok.cab x c hfn hc)))).trans (I.base.keep b o e n hb hx)
  ·obtain⟨sl,e1⟩:=I.base.slot b o e n hb hx
   exact⟨sl,(hs.2 b (Fs (Fh (F9 e) (I.ok.cab x c hfn hc)))).trans e1⟩
  ·obtain⟨o',e1⟩:=I.base.there b o e hx
   exact⟨o',(hs.2 b (Fs (Fh (F9 e) (I.ok.cab x c hfn hc)))).trans e1⟩
  ·by_cases hj:j=i
   ·subst hj
    rw[hi]at e1;cases e1
    rw[List.getElem?_set_self hiσ]at e2
    cases e2
    exact⟨u,r,.inr ⟨.inl hk,c,hc,hc'⟩⟩
   ·rw[List.getElem?_set_ne (Ne.symm hj)]at e2
    obtain⟨u',r',q⟩:=hl j y v' e1 e2 e3
    refine⟨u',r',?_⟩
    rcases q with q|⟨k,c',e,z'⟩
    ·exact .inl q
    ·refine .inr ⟨k,c',e,z'.sameBut hs ?_⟩
     rintro rfl
     exact hj (oh hN e1 (I.ok.inj _ _ _ e hc▸hi))
  ·by_cases hcc:c'=c
   ·subst hcc;exact⟨_,hc'⟩
   ·obtain⟨w2,z2⟩:=I.cell y c' e
    exact⟨w2,z2.sameBut hs hcc⟩
  ·obtain⟨e,n,ne,nf,d⟩:=I.pin p hp
   refine⟨(hs.2 p.1 ?_).trans e,n,ne,nf,d⟩
   intro q
   rw[q,hoc]at e
   have q':oc=p.2:=Option.some.inj e
   exact d w' (by rw[<-q'];exact hocd)
theorem d9{M:Model}{A:FK}{E:E1->E3->Prop}{i:Nat}{x:Str}{v:V}{u:E1}{Q:Unit->E3->Prop}(I:Inv X pins σ H s)(hN:X.N.Nodup)(hi:X.N[i]?=some x)(hx:Loc X.env.scope x)(r:RelV v u) (h:∀s',Inv X pins (σ.set i (some v)) H s'->Q () s') (hf:X.fn x=true\/X.env.scope.names.lookup x=some .local:=by first|exact .inl rfl|exact .inr rfl|assumption):EX M A (storeName X.env x u) Q E s:=ij I hN hi hx r (fun s' I' _=>h s' I') hf
theorem Inv.vP{s':E3}{ch:List Addr}(I:Inv X pins σ H s)(ho:s'.os=s.os)(u:Un (frs X.stack) ch H H' s.heap s'.heap)(hok:HOk X.prog X.w H' s'.heap)(hg:AllBare s'.gens)
 (hch:∀b∈ch,(b∈X.ex\/X.s₀.heap.objs.size<=b)/\b≠X.env.locals/\(∀x c,X.env.cells.lookup x=some c->c≠b)/\∀p∈X.pn++pins,p.1≠b):Inv X pins σ H' s':=by
 obtain⟨h',g',d',t',o'⟩:=s'
 have e:o'=s.os:=ho
 subst e
 exact I.call (g':=g') (t':=t') (d':=d') u hok hg hch
end
abbrev XK:=E1->Option Addr->Hp->Prop
abbrev St:=List (Option V)
abbrev VK:=V->Hp->Prop
abbrev TE:=St->Hp->VK->Prop
abbrev TT:=St->Hp->(Bool->Hp->Prop)->Prop
abbrev TA:=St->Hp->(List V->Hp->Prop)->Prop
structure Ends where
 nx:St->Hp->Prop
 rt:VK
 bk:St->Hp->Prop:=fun _ _=>False
 ct:St->Hp->Prop:=fun _ _=>False
abbrev TS:=Ends->St->Hp->Prop
def EP(X:Cx)(pins:List (Addr×Obj))(σ:St)(Q:VK)(u:E1)(s':E3):Prop:=∃v H',Inv X pins σ H' s'/\RelV v u/\Q v H'
def TP(X:Cx)(pins:List (Addr×Obj))(σ:St)(Q:Bool->Hp->Prop)(b:Bool)(s':E3):Prop:=∃H',Inv X pins σ H' s'/\Q b H'
def AP(X:Cx)(pins:List (Addr×Obj))(σ:St)(Q:List V->Hp->Prop)(us:List E1)(s':E3):Prop:=∃vs H',Inv X pins σ H' s'/\Vals vs us/\Q vs H'
def SP(X:Cx)(pins:List (Addr×Obj))(D:Ends)(f:Flow)(s':E3):Prop:=
 match f with
 |.next=>∃σ' H',Inv X pins σ' H' s'/\D.nx σ' H'
 |.brk=>∃σ' H',Inv X pins σ' H' s'/\D.bk σ' H'
 |.cont=>∃σ' H',Inv X pins σ' H' s'/\D.ct σ' H'
 |.ret u=>∃v σ' H',Inv X pins σ' H' s'/\RelV v u/\D.rt v H'
def PE(X:Cx)(e:Expr)(t:TE):Prop:=
 ∀(pins:List (Addr×Obj)) (s:E3) (σ:St) (H:Hp) (Q:VK),Inv X pins σ H s->t σ H Q->EX (F6 X.prog X.w) X.A (eval e X.env) (EP X pins σ Q) X.xe s
def PT(X:Cx)(e:Expr)(t:TT):Prop:=
 ∀(pins:List (Addr×Obj)) (s:E3) (σ:St) (H:Hp) (Q:Bool->Hp->Prop),Inv X pins σ H s->t σ H Q->EX (F6 X.prog X.w) X.A (isTrue e X.env (eval e X.env)) (TP X pins σ Q) X.xe s
def PW(X:Cx)(e:Expr)(t:TT):Prop:=
 ∀(whole:Sem E1) (pins:List (Addr×Obj)) (s:E3) (σ:St) (H:Hp) (Q:Bool->Hp->Prop),Inv X pins σ H s->t σ H Q->EX (F6 X.prog X.w) X.A (isTrue e X.env whole) (TP X pins σ Q) X.xe s
theorem PW.pt{X:Cx}{e:Expr}{t:TT}(h:PW X e t):PT X e t:=h _
def PA(X:Cx)(es:List Expr)(t:TA):Prop:=
 ∀(pos:Pos) (pins:List (Addr×Obj)) (s:E3) (σ:St) (H:Hp) (Q:List V->Hp->Prop),Inv X pins σ H s->t σ H Q->EX (F6 X.prog X.w) X.A (spliced (GK pos (Fc es X.env))) (AP X pins σ Q) X.xe s
def PS(X:Cx)(st:Stmt)(t:TS):Prop:=
 ∀(pins:List (Addr×Obj)) (s:E3) (σ:St) (H:Hp) (D:Ends),Inv X pins σ H s->t D σ H->EX (F6 X.prog X.w) X.A (exec st X.env) (SP X pins D) X.xe s
def PSs(X:Cx)(st:List Stmt)(t:TS):Prop:=
 ∀(pins:List (Addr×Obj)) (s:E3) (σ:St) (H:Hp) (D:Ends),Inv X pins σ H s->t D σ H->EX (F6 X.prog X.w) X.A (execs st X.env) (SP X pins D) X.xe s
theorem thn{α:Type}{t:Sem α}{Q Q':α->E3->Prop}{M:Model}{A:FK}{E:E1->E3->Prop}{s:E3}(h:EX M A t Q E s)(hQ:∀a s,Q a s->Q' a s):EX M A t Q' E s:=F7 h hQ fun _ _ x=>x
section
variable{X:Cx}
def EL(i:Nat):TE:=fun σ H Q=>∃v,σ[i]?=some (some v)/\Q v H
def tC(v:V):TE:=fun _ H Q=>Q v H
theorem BF{i:Nat}{x:Str}{pos:Pos}(hN:X.N[i]?=some x)(hv:Vis X.env.scope x)(hd:(x==("__debug__":Str))=false:=by decide)(hcd:(x==("__classdict__":Str))=false:=by decide):PE X (.Name x pos) (EL i):=by
 intro pins s σ H Q I h;obtain⟨v,e,h⟩:=h;obtain⟨m,hn,hl⟩:=I.loc;obtain⟨u,r,l⟩:=hl i x v hN e hv;have fin:EP X pins σ Q u s:=⟨v,H,I,r,h⟩;rcases l with⟨hk,hm⟩|⟨hk,c,hc,hcell⟩
 ·exact wpAny_Name (wpAny_loadName_local I.ok.kind hk hn hm fin) hd
 ·rcases hk with hk|hk
  ·exact wpAny_Name (wpAny_loadName_cell I.ok.kind hk hc hcell fin) hd
  ·exact wpAny_Name (wpAny_loadName_free I.ok.kind hk hc hcell fin hcd) hd
theorem wx{i j pos}:PE X (.Constant (.int i) j pos) (tC (.int i)):=fun _ _ _ H _ I h=>wpAny_Constant_int ⟨.int i,H,I.tok _,⟨_,rfl⟩,h⟩
theorem CV{b j pos}:PE X (.Constant (.bool b) j pos) (tC (.bl b)):=fun _ _ _ H _ I h=>Constant_bool ⟨.bl b,H,I,rfl,h⟩
theorem Am{j pos}:PE X (.Constant .none j pos) (tC .non):=fun _ _ _ H _ I h=>Constant_none ⟨.non,H,I,rfl,h⟩
theorem Bh{x j pos}:PE X (.Constant (.str x) j pos) (tC (.str x)):=fun _ _ _ H _ I h=>Calls.Constant_str ⟨.str x,H,I.tok _,⟨_,rfl⟩,h⟩
def Gl(X:Cx)(x:Str):Prop:=X.env.kindOf x=some .globalImplicit
theorem xO{E:E1->E3->Prop}{pins:List (Addr×Obj)}{s:E3}{σ:St}{H:Hp}{x:Str}{u:E1}{pos:Pos}{Q:E1->E3->Prop}(I:Inv X pins σ H s)(hg:Gl X x)(hm:X.mg x=some u)(h:Q u s) (hd:(x==("__debug__":Str))=false:=by decide):EX (F6 X.prog X.w) X.A (eval (.Name x pos) X.env) Q E s:=Calls.Name_function_global I.ok.kind hg (Calls.loadGlobal_global (by rw[I.ok.glob];exact I.mod.glob.keeps I.bk) hm h) hd
theorem gT{E:E1->E3->Prop}{pins:List (Addr×Obj)}{s:E3}{σ:St}{H:Hp}{x:Str}{u:E1}{pos:Pos}{Q:E1->E3->Prop}(I:Inv X pins σ H s)(hg:Gl X x)(hm:X.mg x=none)(hv:G5 x=some u)(h:Q u s) (hn:x≠"__name__":=by decide) (hd:(x==("__debug__":Str))=false:=by decide):EX (F6 X.prog X.w) X.A (eval (.Name x pos) X.env) Q E s:=by obtain⟨mb,h1,h2⟩:=I.mod.blt;exact Calls.Name_function_global I.ok.kind hg (Calls.loadGlobal_builtin (by rw[I.ok.glob];exact I.mod.glob.keeps I.bk) hm (by rw[I.ok.blt];exact h1.keeps I.bk) ((h2 x hn).trans hv) h) hd
theorem yl{x:Str}{v:V}{u:E1}{pos:Pos}(hg:Gl X x)(hm:X.mg x=none)(hv:G5 x=some u)(r:RelV v u)(hn:x≠"__name__":=by decide)(hd:(x==("__debug__":Str))=false:=by decide):PE X (.Name x pos) (tC v):=fun _ _ _ H _ I h=>gT I hg hm hv ⟨v,H,I,r,h⟩ hn hd
variable{a b:Expr}{ta tb:TE}{pos:Pos}
def PC(X:Cx)(op:CmpOp)(a b:Expr)(t:TE):Prop:=
 ∀(pins:List (Addr×Obj)) (s:E3) (σ:St) (H:Hp) (Q:VK),Inv X pins σ H s->t σ H Q->
  EX (F6 X.prog X.w) X.A (eval a X.env) (fun v s₁=>EX (F6 X.prog X.w) X.A (eval b X.env) (fun u s₂=>EX (F6 X.prog X.w) X.A (FC op v u) (EP X pins σ Q) X.xe s₂) X.xe s₁) X.xe s
def tB(t:TE):TT:=fun σ H Q=>t σ H fun x H1=>∃c,x=.bl c/\Q c H1
theorem Ad{op:CmpOp}{t:TE}(h:PC X op a b t)(h1:Ii op b=false:=by first|exact nobehind _ (by decide) (by decide)|rfl):PT X (.Compare a [op] [b] pos) (tB t):=by intro pins s σ H Q I hw;refine wpAny_isTrue_Compare1 (thn (h pins s σ H _ I hw) fun v s1 h1=>thn h1 fun u s2 h2=>thn h2 fun c s3 zz6_0=>?_) h1;obtain⟨x,H1,I1,r1,q1⟩:=zz6_0;obtain⟨d,rfl,q⟩:=q1;cases r1;exact Gs ⟨H1,I1,q⟩
theorem Be{e:Expr}{t:TE}(h:PE X e t)(he:∀whole,isTrue e X.env whole=(do let v <-whole;standAt e.pos;holding [v] (truthy v)):=by intro _;rfl):PT X e (tB t):=by intro pins s σ H Q I hw;refine isTrue_plain (thn (h pins s σ H _ I hw) fun v s1 zz7_0=>?_) (he _);obtain⟨x,H1,I1,r1,q1⟩:=zz7_0;obtain⟨d,rfl,q⟩:=q1;cases r1;exact Gs ⟨H1,I1,q⟩
variable{tA tB':TT}{rest:List Expr}
def Ef(t u:TT):TT:=fun σ H Q=>t σ H fun c H1=>if c=true then u σ H1 Q else Q false H1
def tOr(t u:TT):TT:=fun σ H Q=>t σ H fun c H1=>if c=true then Q true H1 else u σ H1 Q
def Eb(t:TT):TT:=fun σ H Q=>t σ H fun c H1=>Q (!c) H1
theorem xk(ha:PT X a tA):PW X (.BoolOp .And [a] pos) tA:=by
 intro wh pins s σ H Q I h;refine isTrue_and (thn (ha pins s σ H Q I h) fun c s1 e=>?_);cases c with
 |true=>exact isTrue_and_nil e
 |false=>exact e
theorem AG(ha:PT X a tA):PW X (.BoolOp .Or [a] pos) tA:=by
 intro wh pins s σ H Q I h;refine isTrue_or (thn (ha pins s σ H Q I h) fun c s1 e=>?_);cases c with
 |false=>exact isTrue_or_nil e
 |true=>exact e
theorem A7(ha:PT X a tA)(hb:PW X (.BoolOp .And (b::rest) pos) tB'):PW X (.BoolOp .And (a::b::rest) pos) (Ef tA tB'):=by
 intro wh pins s σ H Q I h;refine isTrue_and (thn (ha pins s σ H _ I h) fun c s1 zz8_0=>?_);obtain⟨H1,I1,q1⟩:=zz8_0;cases c with
 |true=>exact hb wh pins s1 σ H1 Q I1 q1
 |false=>exact⟨H1,I1,q1⟩
theorem Cz(ha:PT X a tA)(hb:PW X (.BoolOp .Or (b::rest) pos) tB'):PW X (.BoolOp .Or (a::b::rest) pos) (tOr tA tB'):=by
 intro wh pins s σ H Q I h;refine isTrue_or (thn (ha pins s σ H _ I h) fun c s1 zz9_0=>?_);obtain⟨H1,I1,q1⟩:=zz9_0;cases c with
 |true=>exact⟨H1,I1,q1⟩
 |false=>exact hb wh pins s1 σ H1 Q I1 q1
theorem BM(ha:PT X a tA):PT X (.UnaryOp .Not a pos) (Eb tA):=by intro pins s σ H Q I h;exact isTrue_not (ha pins s σ H (fun c H1=>Q (!c) H1) I h)
def CA(ta tb:TE):TE:=fun σ H Q=>ta σ H fun x H1=>∃c,x=.bl c/\if c=true then tb σ H1 Q else Q (.bl false) H1
def Et(ta tb:TE):TE:=fun σ H Q=>ta σ H fun x H1=>∃c,x=.bl c/\if c=true then Q (.bl true) H1 else tb σ H1 Q
def C6(ta:TE):TE:=fun σ H Q=>ta σ H fun x H1=>∃c,x=.bl c/\Q (.bl (!c)) H1
theorem AX{op}{t:TE}(h:PE X a t):PE X (.BoolOp op [a] pos) t:=fun pins s σ H Q I hw=>BoolOp_one (h pins s σ H Q I hw)
theorem AJ(ha:PE X a ta)(hb:PE X (.BoolOp .And (b::rest) pos) tb):PE X (.BoolOp .And (a::b::rest) pos) (CA ta tb):=by
 intro pins s σ H Q I h;refine BoolOp_and (thn (ha pins s σ H _ I h) fun v s1 zz10_0=>?_);obtain⟨x,H1,I1,r1,q1⟩:=zz10_0;obtain⟨c,rfl,q1⟩:=q1;cases r1;refine Gs ?_;cases c with
 |true=>exact hb pins s1 σ H1 Q I1 q1
 |false=>exact⟨.bl false,H1,I1,rfl,q1⟩
theorem Cn(ha:PE X a ta)(hb:PE X (.BoolOp .Or (b::rest) pos) tb):PE X (.BoolOp .Or (a::b::rest) pos) (Et ta tb):=by
 intro pins s σ H Q I h;refine BoolOp_or (thn (ha pins s σ H _ I h) fun v s1 zz11_0=>?_);obtain⟨x,H1,I1,r1,q1⟩:=zz11_0;obtain⟨c,rfl,q1⟩:=q1;cases r1;refine Gs ?_;cases c with
 |false=>exact hb pins s1 σ H1 Q I1 q1
 |true=>exact⟨.bl true,H1,I1,rfl,q1⟩
theorem A6(ha:PE X a ta):PE X (.UnaryOp .Not a pos) (C6 ta):=by intro pins s σ H Q I h;refine UnaryOp_ (thn (ha pins s σ H _ I h) fun v s1 zz12_0=>?_);obtain⟨x,H1,I1,r1,q1⟩:=zz12_0;obtain⟨c,rfl,q1⟩:=q1;cases r1;exact not_of (Gs ⟨.bl (!c),H1,I1,rfl,q1⟩)
def tIf(t:TT)(ta tb:TE):TE:=fun σ H Q=>t σ H fun c H1=>if c=true then ta σ H1 Q else tb σ H1 Q
theorem vL{c:Expr}(hc:PT X c tA)(ha:PE X a ta)(hb:PE X b tb):PE X (.IfExp c a b pos) (tIf tA ta tb):=by
 intro pins s σ H Q I h;refine wpAny_IfExp (thn (hc pins s σ H _ I h) fun d s1 zz13_0=>?_);obtain⟨H1,I1,q1⟩:=zz13_0;cases d with
 |true=>exact ha pins s1 σ H1 Q I1 q1
 |false=>exact hb pins s1 σ H1 Q I1 q1
end
def SqL(K:E2)(H:Hp)(a:Addr)(xs:List V):Prop:=
 Rd H a (.lst xs)\/
  ∃(o:Obj) (its:Array E1) (n:Nat),K.lookup a=some o/\o.cls=.type "list"/\o.dict=none/\o.data=.seq its n/\its.size<=Fb/\Vals xs its.toList
def SqT(K:E2)(H:Hp)(a:Addr)(xs:List V):Prop:=
 Rd H a (.tup xs)\/
  ∃(o:Obj) (its:Array E1) (n:Nat),K.lookup a=some o/\(o.cls=.type "tuple"/\o.dict=none)/\o.data=.seq its n/\its.size<=Fb/\Vals xs its.toList
def EV:E1->Option V
 |.none=>some .non
 |.bool b=>some (.bl b)
 |.int i _=>some (.int i)
 |.str x _=>some (.str x)
 |.bytes b _=>some (.byt b)
 |.float b _=>some (.flt b)
 |.ref a=>some (.ref a)
 |.type n=>some (.ty n)
 |_=>none
theorem RelV.abs{x:V}{u:E1}(r:RelV x u):EV u=some x:=by
 cases x with
 |non=>cases r;rfl
 |bl _=>cases r;rfl
 |int _=>obtain⟨t,rfl⟩:=r;rfl
 |str _=>obtain⟨t,rfl⟩:=r;rfl
 |byt _=>obtain⟨t,rfl⟩:=r;rfl
 |flt _=>obtain⟨t,rfl⟩:=r;rfl
 |ref _=>cases r;rfl
 |ty _=>cases r;rfl
theorem RelV.inj{x y:V}{u:E1}(r:RelV x u)(q:RelV y u):x=y:=Option.some.inj (r.abs.symm.trans q.abs)
theorem Vals.inj:∀{xs ys:List V} {us:List E1},Vals xs us->Vals ys us->xs=ys
 |_,_,_,.nil,.nil=>rfl
 |_,_,_,.cons r t,.cons r' t'=>by rw[r.inj r',Vals.inj t t']
section
variable{X:Cx}{pins:List (Addr×Obj)}{σ:St}{H:Hp}{s:E3}{a:Addr}{xs ys:List V}
theorem SqL.of{K:E2}(h:H a=some (.lst xs)):SqL K H a xs:=.inl (.inl h)
theorem SqT.of{K:E2}(h:H a=some (.tup xs)):SqT K H a xs:=.inl (.inl h)
theorem Inv.list(I:Inv X pins σ H s)(h:SqL X.K H a xs):∃its:List E1,Vals xs its/\PlainL s.heap a its.toArray/\xs.length<=Fb:=by
 rcases h with h|⟨o,its,n,hk,hc,hd,hs,hz,r⟩
 ·obtain⟨z,its,n,r,e⟩:=h.ok I.hok;exact⟨its,r,⟨_,n,e,rfl,rfl,rfl⟩,z⟩
 ·refine⟨its.toList,r,⟨o,n,I.kIn a o hk,hc,hd,by simpa using hs⟩,?_⟩;have e:=r.length;simp only[Fn]at e;omega
theorem Inv.tuple(I:Inv X pins σ H s)(h:SqT X.K H a xs):∃its:List E1,Vals xs its/\IsTup s.heap a its.toArray/\xs.length<=Fb:=by
 rcases h with h|⟨o,its,n,hk,hc,hs,hz,r⟩
 ·obtain⟨z,its,r,p,_⟩:=h.ok I.hok;exact⟨its,r,p,z⟩
 ·refine⟨its.toList,r,⟨o,I.kIn a o hk,hc.1,n,by simpa using hs⟩,?_⟩;have e:=r.length;simp only[Fn]at e;omega
theorem Inv.BV(I:Inv X pins σ H s)(h:SqT X.K H a xs):NoD s.heap a:=by
 rcases h with h|⟨o,its,n,hk,hc,hs,hz,r⟩
 ·obtain⟨z,its,r,_,p⟩:=h.ok I.hok;exact p
 ·exact⟨o,I.kIn a o hk,hc.2⟩
theorem Inv.m5(I:Inv X pins σ H s)(h:SqL X.K H a xs)(h':SqL X.K H a ys):xs=ys:=by
 obtain⟨its,r,⟨o,n,e,_,_,d⟩,_⟩:=I.list h;obtain⟨its',r',⟨o',n',e',_,_,d'⟩,_⟩:=I.list h';rw[e]at e';cases e';rw[d]at d';injection d' with d1 _;have:its=its':=by simpa using congrArg Array.toList d1
 subst this;exact r.inj r'
theorem Inv.lM(I:Inv X pins σ H s)(h:SqT X.K H a xs)(h':SqT X.K H a ys):xs=ys:=by
 obtain⟨its,r,⟨o,e,_,n,d⟩,_⟩:=I.tuple h;obtain⟨its',r',⟨o',e',_,n',d'⟩,_⟩:=I.tuple h';rw[e]at e';cases e';rw[d]at d';injection d' with d1 _;have:its=its':=by simpa using congrArg Array.toList d1
 subst this;exact r.inj r'
end
abbrev Cx.kj(X:Cx)(E:E1->E3->Prop):Cx:={ X with xe:=E }
abbrev Cx.nox(X:Cx):Cx:=X.kj fun _ _=>False
theorem Cx.Ok.kj{X:Cx}(ok:X.Ok)(E:E1->E3->Prop):(X.kj E).Ok:=⟨ok.mod,ok.kind,ok.glob,ok.blt,ok.above,ok.inj,ok.has,ok.cab,ok.hd,ok.frames,ok.stk,ok.exf,ok.bs,ok.bsz,ok.noex,ok.exfs,ok.jV,ok.frf⟩
theorem Cx.Ok.eT{X:Cx}{E:E1->E3->Prop}(ok:(X.kj E).Ok):X.Ok:=⟨ok.mod,ok.kind,ok.glob,ok.blt,ok.above,ok.inj,ok.has,ok.cab,ok.hd,ok.frames,ok.stk,ok.exf,ok.bs,ok.bsz,ok.noex,ok.exfs,ok.jV,ok.frf⟩
section
variable{X:Cx}{pins:List (Addr×Obj)}{σ:St}{H:Hp}{s:E3}{E:E1->E3->Prop}
theorem Inv.kj(I:Inv X pins σ H s)(E:E1->E3->Prop):Inv (X.kj E) pins σ H s:=⟨I.ok.kj E,I.os,I.bare,I.base,I.loc,I.cell,I.free,I.freeC,I.pin,I.hok,I.len⟩
theorem Inv.eT(I:Inv (X.kj E) pins σ H s):Inv X pins σ H s:=⟨I.ok.eT,I.os,I.bare,I.base,I.loc,I.cell,I.free,I.freeC,I.pin,I.hok,I.len⟩
theorem SP.eT{D:Ends}{f:Flow}{s':E3}(h:SP (X.kj E) pins D f s'):SP X pins D f s':=by
 cases f with
 |next=>obtain⟨σ',H',I,q⟩:=h;exact⟨σ',H',I.eT,q⟩
 |brk=>obtain⟨σ',H',I,q⟩:=h;exact⟨σ',H',I.eT,q⟩
 |cont=>obtain⟨σ',H',I,q⟩:=h;exact⟨σ',H',I.eT,q⟩
 |ret u=>obtain⟨v,σ',H',I,r,q⟩:=h;exact⟨v,σ',H',I.eT,r,q⟩
theorem PSs.nox{st:List Stmt}{t:TS}(h:PSs X.nox st t):PSs X st t:=fun pins s σ H D I hw=>F7 (h pins s σ H D (I.kj _) hw) (fun _ _ q=>q.eT) fun _ _ z=>Iv z
end
section
variable{X:Cx}{st:Stmt}{rest:List Stmt}{t u:TS}{e:Expr}{te:TE}{pos:Pos}
def Dl:TS:=fun D σ H=>D.nx σ H
def EF(t u:TS):TS:=fun D σ H=>t { D with nx:=u D } σ H
theorem yL:PSs X [] Dl:=fun _ _ σ H _ I h=>wpAny_execs_nil ⟨σ,H,I,h⟩
theorem wo(h1:PS X st t)(h2:PSs X rest u):PSs X (st::rest) (EF t u):=by
 intro pins s σ H D I h;refine wpAny_execs_cons (thn (h1 pins s σ H { D with nx:=u D } I h) fun f s1 q=>?_);cases f with
 |next=>
  obtain⟨σ',H',I',q⟩:=q
  exact h2 pins s1 σ' H' D I' q
 |ret v=>exact q
 |brk=>exact q
 |cont=>exact q
theorem yN(h1:PS X st t):PSs X [st] t:=by
 intro pins s σ H D I h;refine wpAny_execs_cons (thn (h1 pins s σ H D I h) fun f s1 q=>?_);cases f with
 |next=>exact wpAny_execs_nil q
 |ret v=>exact q
 |brk=>exact q
 |cont=>exact q
theorem Inv.quiet{pins:List (Addr×Obj)}{σ:St}{H:Hp}{s:E3}(I:Inv X pins σ H s):interactive X.env=false:=by simp[interactive,I.ok.kind]
def C2(te:TE):TS:=fun D σ H=>te σ H fun _ H1=>D.nx σ H1
theorem xx(he:PE X e te)(hs:HI e none pos.line X.env=pure false:=by rfl):PS X (.Expr e pos) (C2 te):=by intro pins s σ H D I h;exact wpAny_Expr_any (thn (he pins s σ H _ I h) fun v s1 zz16_0=>by obtain⟨x,H1,I1,r1,q1⟩:=zz16_0;exact(⟨σ,H1,I1,q1⟩)) I.quiet hs
def EG(te:TE):TS:=fun D σ H=>te σ H D.rt
theorem Ce(he:PE X e te):PS X (.Return (some e) pos) (EG te):=by intro pins s σ H D I h;exact wpAny_Return_some (thn (he pins s σ H _ I h) fun v s1 zz17_0=>by obtain⟨x,H1,I1,r1,q1⟩:=zz17_0;exact(⟨x,σ,H1,I1,r1,q1⟩))
def Ew(c:TT)(t u:TS):TS:=fun D σ H=>c σ H fun b H1=>if b=true then t D σ H1 else u D σ H1
theorem DZ{c:Expr}{a b:List Stmt}{tc:TT}(hc:PT X c tc)(ha:PSs X a t)(hb:PSs X b u):PS X (.If c a b pos) (Ew tc t u):=by
 intro pins s σ H D I h;refine wpAny_If (thn (hc pins s σ H _ I h) fun d s1 zz18_0=>?_);obtain⟨H1,I1,q1⟩:=zz18_0;cases d with
 |true=>exact ha pins s1 σ H1 D I1 q1
 |false=>exact hb pins s1 σ H1 D I1 q1
def Bv:TS:=fun _ _ _=>False
theorem uS:PS X st Bv:=fun _ _ _ _ _ _ h=>h.elim
end
abbrev TG:=V->St->Hp->(St->Hp->Prop)->Prop
abbrev TGs:=List V->St->Hp->(St->Hp->Prop)->Prop
def PG(X:Cx)(target:Expr)(t:TG):Prop:=
 ∀(pins:List (Addr×Obj)) (s:E3) (σ:St) (H:Hp) (v:V) (u:E1) (Q:St->Hp->Prop),Inv X pins σ H s->RelV v u->t v σ H Q->
  EX (F6 X.prog X.w) X.A (Io target X.env u) (fun _ s'=>∃σ' H',Inv X pins σ' H' s'/\Q σ' H') X.xe s
def PGs(X:Cx)(ts:List Expr)(t:TGs):Prop:=
 ∀(pins:List (Addr×Obj)) (s:E3) (σ:St) (H:Hp) (vs:List V) (us:List E1) (Q:St->Hp->Prop),Inv X pins σ H s->Vals vs us->t vs σ H Q->
  EX (F6 X.prog X.w) X.A (assignInOrder ((Ij ts X.env).map (·.2)) us) (fun _ s'=>∃σ' H',Inv X pins σ' H' s'/\Q σ' H') X.xe s
abbrev BC:=V->V->V->Hp->(Hp->Prop)->Prop
def Cm(X:Cx)(t:BC):Prop:=
 ∀(pins:List (Addr×Obj)) (s:E3) (σ:St) (H:Hp) (o i v:V) (ov iv u:E1) (Q:Hp->Prop),Inv X pins σ H s->RelV o ov->RelV i iv->RelV v u->t o i v H Q->
  EX (F6 X.prog X.w) X.A (setItem ov iv u) (fun _ s'=>∃H',Inv X pins σ H' s'/\Q H') X.xe s
abbrev TIp:=V->V->Hp->VK->Prop
def PIp(X:Cx)(op:Operator)(t:TIp):Prop:=
 ∀(pins:List (Addr×Obj)) (s:E3) (σ:St) (H:Hp) (x y:V) (v u:E1) (Q:VK),Inv X pins σ H s->RelV x v->RelV y u->t x y H Q->
  EX (F6 X.prog X.w) X.A (inplaceOp op v u) (EP X pins σ Q) X.xe s
section
variable{X:Cx}{pos:Pos}
def d3(i:Nat):TG:=fun v σ H Q=>Q (σ.set i (some v)) H
theorem qF{i:Nat}{x:Str}(hN:X.N.Nodup)(hi:X.N[i]?=some x)(hx:Loc X.env.scope x)(hf:X.fn x=true\/X.env.scope.names.lookup x=some .local:=by first|exact .inl rfl|exact .inr rfl|assumption):PG X (.Name x pos) (d3 i):=by intro pins s σ H v u Q I r h;exact wpAny_assign_Name (d9 I hN hi hx r (fun s' I'=>⟨_,H,I',h⟩) hf)
def By:TGs:=fun vs σ H Q=>vs=[]/\Q σ H
def oG(t:TG)(u:TGs):TGs:=fun vs σ H Q=>∃v r,vs=v::r/\t v σ H fun σ' H'=>u r σ' H' Q
theorem rJ:PGs X [] By:=by intro pins s σ H vs us Q I r h;obtain⟨e,h⟩:=h;subst e;cases r;exact assignInOrder_nil ⟨σ,H,I,h⟩
theorem i9{e:Expr}{es:List Expr}{t:TG}{u:TGs}(h1:PG X e t)(h2:PGs X es u) (hs:(Ij (e::es) X.env).map (·.2)=Io e X.env::(Ij es X.env).map (·.2):=by rfl):PGs X (e::es) (oG t u):=by
 intro pins s σ H vs us Q I r h;obtain⟨v,vr,e1,h⟩:=h;subst e1;cases r with
 |cons r rr=>
  rw[hs]
  refine assignInOrder_cons (thn (h1 pins s σ H _ _ _ I r h) fun _ s1 zz19_0=>?_)
  obtain⟨σ1,H1,I1,q1⟩:=zz19_0
  exact h2 pins s1 σ1 H1 _ _ Q I1 rr q1
def Bm(K:E2)(n:Nat)(t:TGs):TG:=fun v σ H Q=>∃a xs,v=.ref a/\SqT K H a xs/\xs.length=n/\t xs σ H Q
theorem wI{es:List Expr}{k:Nat}{t:TGs}{n:Nat}(hc:X.calm=true)(h:PGs X es t)
 (hn:(Ij es X.env).length=n:=by rfl) (hst:(Ij es X.env).findIdx? (·.1)=none:=by rfl):PG X (.Tuple es k pos) (Bm X.K n t):=by
 intro pins s σ H v u Q I r hw
 obtain⟨a,xs,e1,hq,hl,hw⟩:=hw
 subst e1
 cases r
 obtain⟨its,rv,ht,hz⟩:=I.tuple hq
 refine assign_Tuple_tuple (I.ok.hd hc) ht (by simp[hn,<-hl,rv.length]) hst fun h' hx=>?_
 have I1:Inv X pins σ H { s with heap:=h' }:=I.kept (t':=s.toks) fun b o e=>hx b o (Fs (F9 e)) e
 exact h pins _ σ H xs _ Q I1 (by simpa using rv) hw
def Ez(to ti:TE)(t:BC):TG:=fun v σ H Q=>to σ H fun o H1=>ti σ H1 fun i H2=>t o i v H2 fun H3=>Q σ H3
theorem AS{o i:Expr}{to ti:TE}{t:BC}(ho:PE X o to)(hi:PE X i ti)(hs:Cm X t)
 (ha:∀v,Io (.Subscript o i pos) X.env v=(do
  let ov <-holding [v] (eval o X.env)
  let iv <-holding [v,ov] (eval i X.env)
  standAt pos
  holding [v,ov,iv] (setItem ov iv v)
  release [v,ov,iv] []):=by intro _;rfl):PG X (.Subscript o i pos) (Ez to ti t):=by
 intro pins s σ H v u Q I r h
 rw[ha]
 refine cc (FX (thn (ho pins s σ H _ I h) fun ov s1 zz20_0=>?_))
 obtain⟨x,H1,I1,r1,q1⟩:=zz20_0
 refine cc (FX (thn (hi pins s1 σ H1 _ I1 q1) fun iv s2 zz21_0=>?_))
 obtain⟨y,H2,I2,r2,q2⟩:=zz21_0
 refine cc (GL (cc (FX (thn (hs pins s2 σ H2 x y v ov iv u _ I2 r1 r2 r q2) fun _ s3 zz22_0=>?_))))
 obtain⟨H3,I3,q3⟩:=zz22_0
 exact wpAny_release ⟨σ,H3,I3,q3⟩
def yy(te:TE)(g:TG):TS:=fun D σ H=>te σ H fun x H1=>g x σ H1 D.nx
theorem AB{tg e:Expr}{te:TE}{g:TG}(he:PE X e te)(hg:PG X tg g)(hs:swapsWithSole [tg] e pos.line X.env=pure false:=by rfl)(hw:swappedStores [tg] e X.env=pure none:=by rfl) (h1:(Ij [tg] X.env).map (·.2)=[Io tg X.env]:=by rfl):PS X (.Assign [tg] e pos) (yy te g):=by intro pins s σ H D I h;refine wpAny_Assign_stores (thn (he pins s σ H _ I h) fun v s1 zz23_0=>?_) hs hw;obtain⟨x,H1,I1,r1,q1⟩:=zz23_0;rw[h1];exact thn (hg pins s1 σ H1 x v _ I1 r1 q1) fun _ s2 q=>q
theorem AE{i:Nat}{x:Str}{e:Expr}{te:TE}{pos':Pos}(hN:X.N.Nodup)(hi:X.N[i]?=some x)(hx:Loc X.env.scope x)(he:PE X e te)(hs:HI e (some (.Name x pos')) pos.line X.env=pure false:=by rfl)(hf:X.fn x=true\/X.env.scope.names.lookup x=some .local:=by first|exact .inl rfl|exact .inr rfl|assumption) : PS X (.Assign [.Name x pos'] e pos) (yy te (d3 i)):=by intro pins s σ H D I h;refine wpAny_Assign_Name (thn (he pins s σ H _ I h) fun v s1 zz24_0=>?_) hs;obtain⟨y,H1,I1,r1,q1⟩:=zz24_0;exact d9 I1 hN hi hx r1 (fun s2 I2=>⟨_,H1,I2,q1⟩) hf
def Eh(i j:Nat)(ta:TA):TS:=fun D σ H=>ta σ H fun vs H1=>∃v w,vs=[v,w]/\D.nx ((σ.set i (some v)).set j (some w)) H1
theorem Aw{i j:Nat}{x y:Str}{a b:Expr}{ta:TA}{px py pt:Pos}{kt k2 pt2}(hc:X.calm=true)(hN:X.N.Nodup)(hi:X.N[i]?=some x)(hj:X.N[j]?=some y)(hij:i≠j)
 (hx:X.env.scope.names.lookup x=some .local) (hy:X.env.scope.names.lookup y=some .local) (ha:PA X [a,b] ta)
 (hw:swappedStores [.Tuple [.Name x px,.Name y py] kt pt] (.Tuple [a,b] k2 pt2) X.env=pure (some [x,y]))
 (hs:swapsWithSole [.Tuple [.Name x px,.Name y py] kt pt] (.Tuple [a,b] k2 pt2) pos.line X.env=pure false:=by rfl) :
 PS X (.Assign [.Tuple [.Name x px,.Name y py] kt pt] (.Tuple [a,b] k2 pt2) pos) (Eh i j ta):=by
 intro pins s σ H D I h
 rw[exec_Assign_arm]
 refine cc (GL ?_)
 rw[hs]
 refine cc (E4 ?_)
 rw[if_neg (by decide)]
 refine cc (Tuple_ (thn (ha _ pins s σ H _ I h) fun us s1 zz25_0=>?_))
 obtain⟨vs,H1,I1,r1,q1⟩:=zz25_0
 obtain⟨v,w,e1,q1⟩:=q1
 subst e1
 obtain⟨u1,u2,rfl,rv,rw'⟩:∃u1 u2,us=[u1,u2]/\RelV v u1/\RelV w u2:=by
  cases r1 with
  |cons p q=>
   cases q with
   |cons p' q'=>
    cases q'
    exact⟨_,_,rfl,p,p'⟩
 refine FR ?_ (by show 2<=Fb;decide)
 have I2:Inv X pins σ H1 { s1 with heap:=s1.heap.push { cls:=.type "tuple",data:=.seq [u1,u2].toArray } }:=I1.kept (t':=s1.toks) fun b o e=>E5 _ e
 rw[hw]
 refine cc (E4 ?_)
 show EX (F6 X.prog X.w) X.A (do rule "assign.swapped-stores";let items <-unpackItems (.ref s1.heap.objs.size) 2 none;assignInOrder [fun v=>bindName X.env y v,fun v=>bindName X.env x v] items.reverse;pure Flow.next) _ _ _
 refine cc (wpAny_rule (cc (unpackItems_tuple (items:=#[u1,u2]) (I.ok.hd hc) (IsTup.new s1.heap _) fun h' hx'=>?_)))
 have I3:=I2.kept (h':=h') (t':=s1.toks) fun b o e=>hx' b o (Fs (F9 e)) e
 show EX _ _ (assignInOrder [fun v=>bindName X.env y v,fun v=>bindName X.env x v] [u2,u1] >>= fun _=>pure Flow.next) _ _ _
 refine cc (assignInOrder_cons (wpAny_bindName (d9 I3 hN hj (.inl hy) rw' (fun s2 I4=>?_) (.inr hy))))
 refine assignInOrder_cons (wpAny_bindName (d9 I4 hN hi (.inl hx) rv (fun s3 I5=>assignInOrder_nil (E4 ?_)) (.inr hx)))
 rw[List.set_comm _ _ (Ne.symm hij)]at I5
 exact⟨_,H1,I5,q1⟩
def Eg(i:Nat)(te:TE)(ti:TIp):TS:=fun D σ H=>∃x,σ[i]?=some (some x)/\te σ H fun y H1=>ti x y H1 fun z H2=>D.nx (σ.set i (some z)) H2
theorem z5{i:Nat}{x:Str}{e:Expr}{te:TE}{op:Operator}{ti:TIp}{pos':Pos}(hN:X.N.Nodup)(hi:X.N[i]?=some x)(hx:Loc X.env.scope x)(he:PE X e te)(ho:PIp X op ti)(hf:X.fn x=true\/X.env.scope.names.lookup x=some .local:=by first|exact .inl rfl|exact .inr rfl|assumption) :
 PS X (.AugAssign (.Name x pos') op e pos) (Eg i te ti):=by
 intro pins s σ H D I h
 obtain⟨v,e1,h⟩:=h
 obtain⟨m,hn,hl⟩:=I.loc
 have vis:Vis X.env.scope x:=by rcases hx with k|k;exact .inl k;exact .inr (.inl k)
 obtain⟨u,r,l⟩:=hl i x v hi e1 vis
 refine wpAny_AugAssign_Name ?_
 have go:EX (F6 X.prog X.w) X.A (eval e X.env) (fun w s₂=>EX (F6 X.prog X.w) X.A (inplaceOp op u w) (fun r s₃=>EX (F6 X.prog X.w) X.A (storeName X.env x r) (fun _=>SP X pins D .next) X.xe s₃) X.xe s₂) X.xe s:=by
  refine thn (he pins s σ H _ I h) fun w s1 zz26_0=>?_
  obtain⟨y,H1,I1,r1,q1⟩:=zz26_0
  refine thn (ho pins s1 σ H1 v y u w _ I1 r r1 q1) fun z s2 zz27_0=>?_
  obtain⟨zv,H2,I2,r2,q2⟩:=zz27_0
  exact d9 I2 hN hi hx r2 (fun s3 I3=>⟨_,H2,I3,q2⟩) hf
 rcases l with⟨hk,hm⟩|⟨hk,c,hc,hcell⟩
 ·exact wpAny_loadName_local I.ok.kind hk hn hm go
 ·rcases hk with hk|hk
  ·exact wpAny_loadName_cell I.ok.kind hk hc hcell go
  ·rcases hx with k|k
   ·have:X.env.scope.names.lookup x=some .free:=hk
    rw[k]at this;cases this
   ·have:X.env.scope.names.lookup x=some .free:=hk
    rw[k]at this;cases this
def ipI(f:Int->Int->Int):TIp:=fun x y H Q=>∃i j,x=.int i/\y=.int j/\Q (.int (f i j)) H
theorem Bp:PIp X .Add (ipI fun i j=>i+j):=by intro pins s σ H x y v u Q I r1 r2 h;obtain⟨i,j,e1,e2,q⟩:=h;subst e1;subst e2;obtain⟨t,rfl⟩:=r1;obtain⟨t',rfl⟩:=r2;exact iadd_int ⟨.int _,H,I.tok _,⟨_,rfl⟩,q⟩
theorem Bw:PIp X .Sub (ipI fun i j=>i-j):=by intro pins s σ H x y v u Q I r1 r2 h;obtain⟨i,j,e1,e2,q⟩:=h;subst e1;subst e2;obtain⟨t,rfl⟩:=r1;obtain⟨t',rfl⟩:=r2;exact isub_int ⟨.int _,H,I.tok _,⟨_,rfl⟩,q⟩
end
section
variable{X:Cx}{pos:Pos}
def A0(c:TT)(tb:TS):TS:=fun D σ H=>∃W:Nat->St->Hp->Prop,(∃m,W m σ H)/\∀m σ H,W m σ H->
 c σ H fun b H1=>if b=true then ∃N:St->Hp->Prop,(∀σ' H',N σ' H'->∃m',m'<m/\W m' σ' H')/\tb { D with nx:=N,ct:=N,bk:=D.nx } σ H1 else D.nx σ H1
theorem ur{c:Expr}{body:List Stmt}{tc:TT}{tb:TS}(hp:PassesOwn (F6 X.prog X.w) X.A X.env X.xe)(hc:PT X c tc)(hb:PSs X body tb):PS X (.While c body [] pos) (A0 tc tb):=by
 intro pins s σ H D I h;obtain⟨W,⟨m0,w0⟩,turn⟩:=h;refine wpAny_While (codeAny_whileLoop (fun n s'=>∃σ' H',Inv X pins σ' H' s'/\W n σ' H') ?_ m0 ⟨σ,H,I,w0⟩);rintro n s1 ⟨σ1,H1,I1,w1⟩;refine HX hp (thn (hc pins s1 σ1 H1 _ I1 (turn n σ1 H1 w1)) fun b s2 zz34_0=>?_);obtain⟨H2,I2,q2⟩:=zz34_0;cases b with
 |true=>
  obtain⟨N,hN,q2⟩:=q2
  rw[if_pos rfl]
  refine HX hp (thn (hb pins s2 σ1 H2 _ I2 q2) fun f s3 q3=>?_)
  cases f with
  |next=>
   obtain⟨σ3,H3,I3,n3⟩:=q3
   obtain⟨m',hm,w3⟩:=hN σ3 H3 n3
   exact⟨m',hm,σ3,H3,I3,w3⟩
  |cont=>
   obtain⟨σ3,H3,I3,n3⟩:=q3
   obtain⟨m',hm,w3⟩:=hN σ3 H3 n3
   exact⟨m',hm,σ3,H3,I3,w3⟩
  |brk=>exact q3
  |ret v=>exact q3
 |false=>
  rw[if_neg F4]
  exact wpAny_execs_nil ⟨σ1,H2,I2,q2⟩
end
structure It where
 go:Nat->Hp->Prop
 yld:Nat->Hp->V->Hp->Prop
 stop:Nat->Hp->Prop
def cf(X:Cx)(pins:List (Addr×Obj))(H:Hp)(b:Addr):Prop:=
 H b=none/\b≠X.env.locals/\b∉X.fs/\(b∈X.ex\/X.s₀.heap.objs.size<=b)/\(∀x c,X.env.cells.lookup x=some c->c≠b)/\∀p∈X.pn++pins,p.1≠b
theorem Inv.qg{X:Cx}{pins:List (Addr×Obj)}{σ:St}{H H':Hp}{s:E3}{b:Addr}(I:Inv X pins σ H s)(hb:s.heap.objs.size<=b)(hn:H' b=none):cf X pins H' b:=by
 refine⟨hn,Nat.ne_of_gt (Fh I.lt hb),I.EH hb,.inr (Gp I.sz hb),fun x c e z=>?_,fun p hp z=>?_⟩
 ·obtain⟨v,q⟩:=I.cell x c e;exact absurd (Fh q.lt (by rw[z];exact hb)) (HD _)
 ·exact absurd (Fh (F9 (I.pin p hp).1) (by rw[z];exact hb)) (HD _)
structure Turn(P:F8)(w:Fy)(K:E2)(tg:Expr)(J:It)(fp:List Addr)(it:Addr)(tn:Nat->Heap->Prop):Prop where
 mem:it∈fp
 obj:∀i h,tn i h->∀b∈fp,∃o,h.get? b=some o/\∀v,o.data≠.cell v
 keep:∀i h h',tn i h->(∀b∈fp,∀o,h.get? b=some o->h'.get? b=some o)->tn i h'
 item:∀(X:Cx),X.prog=P->X.w=w->X.K=K->X.calm=true->∀(i:Nat) (pins:List (Addr×Obj)) (s:E3) (σ:St) (H:Hp) (E:E1->E3->Prop),Inv X pins σ H s->(∀b∈fp,cf X pins H b)->tn i s.heap->J.go i H->
  EX (F6 P w) X.A (HP (.ref it)) (fun r s1=>∃u,r=some u/\
   EX (F6 P w) X.A (Hd tg (.ref it) u) (fun _ s2=>∃x H',Inv X pins σ H' s2/\RelV x u/\J.yld i H x H'/\tn (i+1) s2.heap/\∀b∈fp,H' b=none) E s1) E s
 done:∀(X:Cx),X.prog=P->X.w=w->X.K=K->X.calm=true->∀(i:Nat) (pins:List (Addr×Obj)) (s:E3) (σ:St) (H:Hp) (E:E1->E3->Prop),Inv X pins σ H s->(∀b∈fp,cf X pins H b)->tn i s.heap->J.stop i H->
  EX (F6 P w) X.A (HP (.ref it)) (fun r s1=>r=none/\Inv X pins σ H s1) E s
 self:∀(A:FK) (i:Nat) (s:E3) (Q:E1->E3->Prop) (E:E1->E3->Prop),tn i s.heap->Q (.ref it) s->EX (F6 P w) A (pyIter (.ref it)) Q E s
abbrev TI:=St->Hp->(It->Hp->Prop)->Prop
def PIE(X:Cx)(pins:List (Addr×Obj))(σ:St)(tg:Expr)(R:It->Hp->Prop)(itv:E1)(s2:E3):Prop:=
 ∃(it:Addr) (fp:List Addr) (tn:Nat->Heap->Prop) (J:It) (H':Hp),itv=.ref it/\Inv X pins σ H' s2/\Turn X.prog X.w X.K tg J fp it tn/\tn 0 s2.heap/\(∀b∈fp,cf X pins H' b)/\R J H'
def PI(X:Cx)(tg iter:Expr)(wi:TI):Prop:=
 ∀(pins:List (Addr×Obj)) (s:E3) (σ:St) (H:Hp) (R:It->Hp->Prop),Inv X pins σ H s->wi σ H R->
  EX (F6 X.prog X.w) X.A (eval iter X.env) (fun v s1=>EX (F6 X.prog X.w) X.A (pyIter v) (PIE X pins σ tg R) X.xe s1) X.xe s
theorem ud{M:Model}{A:FK}{E:E1->E3->Prop}{s:E3}{tg:Expr}{it:Addr}{u:E1}{o:Obj}{n:String}{vs:Array E1}{Q:Unit->E3->Prop}(ho:s.heap.get? it=some o)(hc:o.cls=.type n)(hd:o.data=.fields vs) (hn:["enumerate","zip","dict_itemiterator","dict_reverseitemiterator","odict_iterator","itertools.zip_longest","itertools.pairwise"].contains n=false) (hQ:Q () s):EX M A (Hd tg (.ref it) u) Q E s:=by
 unfold Hd
 cases tg<;>first
  |exact E4 hQ
  |(cases u<;>first
   |exact E4 hQ
   |(refine cc (wpAny_load ho ?_)
     rw[hc,hd]
     show EX M A (if(["enumerate","zip","dict_itemiterator","dict_reverseitemiterator","odict_iterator","itertools.zip_longest","itertools.pairwise"].contains n&&vs[0]?==some (Hf _))=true then _ else _) Q E s
     rw[if_neg (by intro h;rw[hn,Bool.false_and]at h;cases h)]
     exact E4 hQ))
def Itl(K:E2)(a:Addr):It:=
 ⟨fun i H=>∃xs x,SqL K H a xs/\xs[i]?=some x,fun i H x H'=>H'=H/\∀xs,SqL K H a xs->xs[i]?=some x,fun i H=>∃xs,SqL K H a xs/\xs.length<=i⟩
def Itt(K:E2)(a:Addr):It:=
 ⟨fun i H=>∃xs x,SqT K H a xs/\xs[i]?=some x,fun i H x H'=>H'=H/\∀xs,SqT K H a xs->xs[i]?=some x,fun i H=>∃xs,SqT K H a xs/\xs.length<=i⟩
def Itr(lo:Int)(n:Nat):It:=⟨fun i _=>i<n,fun i H x H'=>H'=H/\x=.int (lo+i),fun i _=>n<=i⟩
theorem sO{P:F8}{w:Fy}{K:E2}{tg:Expr}(a it:Addr):Turn P w K tg (Itl K a) [it] it (fun i h=>h.IsListIter it a i) where
 mem:=by simp
 obj:=fun i h st b hb=>by
  have e:b=it:=by simpa using hb
  subst e
  obtain⟨o,e,c,d⟩:=st
  exact⟨o,e,fun v z=>by rw[d]at z;cases z⟩
 keep:=fun i h h' st k=>st.at fun o e=>k it (by simp) o e
 item:=by
  intro X hP hw hK hc i pins s σ H E I hf st hg
  subst hP hw hK
  obtain⟨xs,x,hq,hx⟩:=hg
  obtain⟨its,rv,p,hz⟩:=I.list hq
  obtain⟨u,hu,ru⟩:=rv.get hx
  obtain⟨f0,f1,f2,f3,f4,f5⟩:=hf it (by simp)
  refine wpAny_pyNext_list_item st p.isList (x:=u) (by simpa using hu) fun h' st' sb=>?_
  have I1:Inv X pins σ H { s with heap:=h' }:=I.turned (t':=s.toks) (fun b o hb e=>(sb.2 b hb).trans e) f0 f1 f3 f4 f5
  obtain⟨o,e,c,d⟩:=id st'
  exact⟨u,rfl,ud (s:={ s with heap:=h' }) e c d (by decide) ⟨x,H,I1,ru,⟨rfl,fun ys hy=>by rw[I.m5 hy hq];exact hx⟩,st',fun b hb=>(hf b hb).1⟩⟩
 done:=by
  intro X hP hw hK hc i pins s σ H E I hf st hg
  subst hP hw hK
  obtain⟨xs,hq,hx⟩:=hg
  obtain⟨its,rv,p,hz⟩:=I.list hq
  obtain⟨f0,f1,f2,f3,f4,f5⟩:=hf it (by simp)
  have hl:=rv.length
  exact wpAny_pyNext_list_end (I.ok.hd hc) st p.isList (by simp;omega) fun h' eb=>⟨rfl,I.turned (t':=s.toks) (fun b o hb e=>eb b o hb e) f0 f1 f3 f4 f5⟩
 self:=fun _ _ _ _ _ st h=>wpAny_pyIter_listiter st h
theorem pT{P:F8}{w:Fy}{K:E2}{tg:Expr}(a it:Addr):Turn P w K tg (Itt K a) [it] it (fun i h=>h.IsTupleIter it a i) where
 mem:=by simp
 obj:=fun i h st b hb=>by
  have e:b=it:=by simpa using hb
  subst e
  obtain⟨o,e,c,d⟩:=st
  exact⟨o,e,fun v z=>by rw[d]at z;cases z⟩
 keep:=fun i h h' st k=>st.at fun o e=>k it (by simp) o e
 item:=by
  intro X hP hw hK hc i pins s σ H E I hf st hg
  subst hP hw hK
  obtain⟨xs,x,hq,hx⟩:=hg
  obtain⟨its,rv,p,hz⟩:=I.tuple hq
  obtain⟨u,hu,ru⟩:=rv.get hx
  obtain⟨f0,f1,f2,f3,f4,f5⟩:=hf it (by simp)
  refine Ho st (show s.heap.IsTuple a its.toArray from p) (x:=u) (by simpa using hu) fun h' st' sb=>?_
  have I1:Inv X pins σ H { s with heap:=h' }:=I.turned (t':=s.toks) (fun b o hb e=>(sb.2 b hb).trans e) f0 f1 f3 f4 f5
  obtain⟨o,e,c,d⟩:=id st'
  exact⟨u,rfl,ud (s:={ s with heap:=h' }) e c d (by decide) ⟨x,H,I1,ru,⟨rfl,fun ys hy=>by rw[I.lM hy hq];exact hx⟩,st',fun b hb=>(hf b hb).1⟩⟩
 done:=by
  intro X hP hw hK hc i pins s σ H E I hf st hg
  subst hP hw hK
  obtain⟨xs,hq,hx⟩:=hg
  obtain⟨its,rv,p,hz⟩:=I.tuple hq
  obtain⟨f0,f1,f2,f3,f4,f5⟩:=hf it (by simp)
  have hl:=rv.length
  exact wpAny_pyNext_tuple_end (I.ok.hd hc) st (show s.heap.IsTuple a its.toArray from p) (by simp;omega) fun h' eb=>⟨rfl,I.turned (t':=s.toks) (fun b o hb e=>eb b o hb e) f0 f1 f3 f4 f5⟩
 self:=fun _ _ _ _ _ st h=>wpAny_pyIter_tupleiter st h
theorem qj{P:F8}{w:Fy}{K:E2}{tg:Expr}(it:Addr)(lo:Int)(n:Nat):Turn P w K tg (Itr lo n) [it] it (fun i h=>IsRangeIter h it (lo+(i:Nat)*1) ((n:Int)-(i:Nat)) 1) where
 mem:=by simp
 obj:=fun i h st b hb=>by
  have e:b=it:=by simpa using hb
  subst e
  exact⟨_,st,fun v z=>by
   have z':Data.fields _=Data.cell v:=z
   cases z'⟩
 keep:=fun i h h' st k=>k it (by simp) _ st
 item:=by
  intro X hP hw hK hc i pins s σ H E I hf st hg
  subst hP hw hK
  obtain⟨f0,f1,f2,f3,f4,f5⟩:=hf it (by simp)
  have W:=Walks.range (prog:=X.prog) (w:=X.w) (I.ok.hd hc) it lo 1 n
  refine W.item i s _ _ hg st fun v h' tk hv st' kk=>?_
  obtain⟨t,rfl⟩:=hv
  have I1:Inv X pins σ H { s with heap:=h',toks:=tk }:=I.turned (fun b o hb e=>kk b o (by simpa using hb) e) f0 f1 f3 f4 f5
  refine⟨_,rfl,ud (s:={ s with heap:=h',toks:=tk }) (n:="range_iterator") st' rfl rfl (by decide) ⟨.int (lo+i),H,I1,⟨t,?_⟩,⟨rfl,rfl⟩,st',fun b hb=>(hf b hb).1⟩⟩
  rw[Int.mul_one]
 done:=by
  intro X hP hw hK hc i pins s σ H E I hf st hg
  subst hP hw hK
  obtain⟨f0,f1,f2,f3,f4,f5⟩:=hf it (by simp)
  exact wpAny_pyNext_range_end (I.ok.hd hc) st (by have:n<=i:=hg;omega) fun h' eb=>⟨rfl,I.turned (t':=s.toks) (fun b o hb e=>eb b o hb e) f0 f1 f3 f4 f5⟩
 self:=fun _ _ _ _ _ st h=>wpAny_pyIter_rangeiter st h
section
variable{X:Cx}{tg:Expr}
theorem t8{pins:List (Addr×Obj)}{σ:St}{H:Hp}{s:E3}{R:It->Hp->Prop}{E:E1->E3->Prop}{lo hi:Int}{t u v:Tok}{tk:Nat}(I:Inv X pins σ H s)(h1:-(2^62)<=lo)(h2:lo<2^62)(h3:-(2^62)<=hi)(h4:hi<2^62)
 (q:R (Itr lo (hi-lo).toNat) H):EX (F6 X.prog X.w) X.A (pyIter (.ref s.heap.objs.size)) (PIE X pins σ tg R) E { s with heap:=s.heap.push { cls:=.type "range",data:=.fields #[.int lo t,.int hi u,.int 1 v] },toks:=tk }:=by
 refine wpAny_pyIter_range (IsRange.new ..) (small_one h1 h2 h3 h4) ?_
 have I1:Inv X pins σ H { s with heap:=s.heap.push { cls:=.type "range",data:=.fields #[.int lo t,.int hi u,.int 1 v] },toks:=tk }:=I.kept fun b o e=>E5 _ e
 refine⟨(s.heap.push { cls:=.type "range",data:=.fields #[.int lo t,.int hi u,.int 1 v] }).objs.size,[(s.heap.push { cls:=.type "range",data:=.fields #[.int lo t,.int hi u,.int 1 v] }).objs.size],_,_,H,rfl,
  I1.kept (t':=tk) fun b o e=>E5 _ e,qj _ lo (hi-lo).toNat,?_,fun b hb=>?_,q⟩
 ·have e1:lo+((0:Nat):Int)*1=lo:=by simp
  have e2:(((hi-lo).toNat:Nat):Int)-((0:Nat):Int)=Builtin.Range.rangeSize lo hi 1:=by rw[rangeSize_one];split<;>omega
  show IsRangeIter _ _ (lo+((0:Nat):Int)*1) ((((hi-lo).toNat:Nat):Int)-((0:Nat):Int)) 1
  rw[e1,e2]
  exact EY _ rfl
 ·have e:b=(s.heap.push { cls:=.type "range",data:=.fields #[.int lo t,.int hi u,.int 1 v] }).objs.size:=by simpa using hb
  subst e
  exact I1.qg (E8 _) (I1.hok.fresh (E8 _))
def D2(ta:TA):TI:=fun σ H R=>ta σ H fun vs H1=>∃j:Int,vs=[.int j]/\-(2^62)<=j/\j<2^62/\R (Itr 0 j.toNat) H1
theorem sH{a:Expr}{ta:TA}{p pos:Pos}(hg:Gl X "range")(hm:X.mg "range"=none)(ha:PA X [a] ta)(hs:Fc [a] X.env=[(false,eval a X.env)]:=by rfl):PI X tg (.Call (.Name "range" p) [a] [] pos) (D2 ta):=by
 intro pins s σ H R I h;refine Call_ (gT I hg hm boot_range (PyProof.Rows.callWith_type1 (thn (ha pos pins s σ H _ I h) fun us s1 zz37_0=>?_) hs rfl));obtain⟨vs,H1,I1,r1,q1⟩:=zz37_0;obtain⟨j,e,q1,q2,q⟩:=q1;subst e;cases r1 with
 |cons r rr=>
  cases rr
  obtain⟨t,rfl⟩:=r
  exact call_range_1 (t8 I1 (by omega) (by omega) q1 q2 (by simpa using q))
def EB(wi:TI)(g:TG)(tb:TS):TS:=fun D σ H=>wi σ H fun J H1=>∃W:Nat->Nat->St->Hp->Prop,(∃m,W 0 m σ H1)/\∀i m σ H,W i m σ H->
 (J.stop i H/\D.nx σ H)\/(J.go i H/\∃N:St->Hp->Prop,(∀σ' H',N σ' H'->∃m',m'<m/\W (i+1) m' σ' H')/\∀x H',J.yld i H x H'->g x σ H' fun σ2 H2=>tb { D with nx:=N,ct:=N,bk:=D.nx } σ2 H2)
def eE(fp:List Addr)(h:Heap):List (Addr×Obj):=fp.filterMap fun b=>(h.get? b).map fun o=>(b,o)
theorem ba{fp:List Addr}{h:Heap}{b:Addr}{o:Obj}(hb:b∈fp)(e:h.get? b=some o):(b,o)∈eE fp h:=List.mem_filterMap.mpr ⟨b,hb,by rw[e];rfl⟩
theorem sZ{fp:List Addr}{h:Heap}{p:Addr×Obj}(hp:p∈eE fp h):p.1∈fp/\h.get? p.1=some p.2:=by
 obtain⟨b,hb,e⟩:=List.mem_filterMap.mp hp;cases q:h.get? b with
 |none=>rw[q]at e;cases e
 |some o=>
  rw[q]at e
  have e':(b,o)=p:=Option.some.inj e
  subst e'
  exact⟨hb,q⟩
theorem Inv.pinned{pins:List (Addr×Obj)}{σ:St}{H:Hp}{s:E3}{fp:List Addr}(I:Inv X pins σ H s)(hf:∀b∈fp,cf X pins H b)(ho:∀b∈fp,∃o,s.heap.get? b=some o/\∀v,o.data≠.cell v):Inv X (pins++eE fp s.heap) σ H s:=
 I.rL fun p hp=>(Fl.mp hp).elim (fun z=>I.pin p (Ff _ z)) fun z=>by
  obtain⟨hb,e⟩:=sZ z
  obtain⟨f0,f1,f2,_⟩:=hf p.1 hb
  obtain⟨o,e',d⟩:=ho p.1 hb
  rw[e]at e';cases e'
  exact⟨e,f0,f1,f2,d⟩
theorem Inv.cY{pins pl:List (Addr×Obj)}{σ:St}{H:Hp}{s:E3}(I:Inv X (pins++pl) σ H s):Inv X pins σ H s:=I.rL fun p hp=>I.pin p (Ff _ (List.mem_append_left _ hp))
theorem wV{iter:Expr}{body:List Stmt}{wi:TI}{g:TG}{tb:TS}{pos:Pos}(hp:PassesOwn (F6 X.prog X.w) X.A X.env X.xe)(hc:X.calm=true)(hi:PI X tg iter wi)(hg:PG X tg g)(hb:PSs X body tb)
 (hs:∀x,FD iter X.env x=pure x:=by intro _;rfl):PS X (.For tg iter body [] pos) (EB wi g tb):=by
 intro pins s σ H D I h
 refine wpAny_For (thn (hi pins s σ H _ I h) fun v s1 h1=>thn h1 fun itv s2 h2=>?_) hs
 obtain⟨it,fp,tn,J,H2,e,I2,T,st2,f2,W,⟨m0,w0⟩,turn⟩:=h2
 subst e
 have stat:∀{H':Hp},(∀b∈fp,H' b=none)->∀b∈fp,cf X pins H' b:=fun hn b hb=>⟨hn b hb,(f2 b hb).2⟩
 refine codeAny_forLoop_any (fun n s'=>∃i σ' H',Inv X pins σ' H' s'/\tn i s'.heap/\(∀b∈fp,H' b=none)/\W i n σ' H') ?_ m0 ⟨0,σ,H2,I2,st2,fun b hb=>(f2 b hb).1,w0⟩
 rintro n s3 ⟨i,σ3,H3,I3,st3,fr3,w3⟩
 rcases turn i n σ3 H3 w3 with⟨stop,qn⟩|⟨go,N,hN,step⟩
 ·refine HX hp (thn (T.done X rfl rfl rfl hc i pins s3 σ3 H3 X.xe I3 (stat fr3) st3 stop) fun r s4 zz38_0=>?_)
  obtain⟨hr,I4⟩:=zz38_0
  subst hr
  exact wpAny_execs_nil ⟨σ3,H3,I4,qn⟩
 ·refine HX hp (thn (T.item X rfl rfl rfl hc i pins s3 σ3 H3 X.xe I3 (stat fr3) st3 go) fun r s4 zz39_0=>?_)
  obtain⟨u,hr,h4⟩:=zz39_0
  subst hr
  refine HX hp (thn h4 fun _ s5 zz40_0=>?_)
  obtain⟨x,H5,I5,r5,y5,st5,fr5⟩:=zz40_0
  have I5':=I5.pinned (stat fr5) (T.obj _ _ st5)
  refine HX hp (thn (hg _ s5 σ3 H5 x u _ I5' r5 (step x H5 y5)) fun _ s6 zz41_0=>?_)
  obtain⟨σ6,H6,I6,q6⟩:=zz41_0
  refine HX hp (thn (hb _ s6 σ6 H6 _ I6 q6) fun f s7 q7=>?_)
  have again:∀{σ7:St} {H7:Hp},Inv X (pins++eE fp s5.heap) σ7 H7 s7->N σ7 H7->∃m,m<n/\∃i σ' H',Inv X pins σ' H' s7/\tn i s7.heap/\(∀b∈fp,H' b=none)/\W i m σ' H':=fun{σ7 H7} I7 n7=>by
   obtain⟨m',hm,w7⟩:=hN σ7 H7 n7
   refine⟨m',hm,i+1,σ7,H7,I7.cY,T.keep _ _ _ st5 fun b hb o e=>(I7.pin (b,o) (Ff _ (Ff _ (ba hb e)))).1,fun b hb=>?_,w7⟩
   obtain⟨o,e,d⟩:=T.obj _ _ st5 b hb
   exact(I7.pin (b,o) (Ff _ (Ff _ (ba hb e)))).2.1
  cases f with
  |next=>obtain⟨σ7,H7,I7,n7⟩:=q7;exact again I7 n7
  |cont=>obtain⟨σ7,H7,I7,n7⟩:=q7;exact again I7 n7
  |brk=>obtain⟨σ7,H7,I7,q7⟩:=q7;exact⟨σ7,H7,I7.cY,q7⟩
  |ret v=>obtain⟨x7,σ7,H7,I7,r7,q7⟩:=q7;exact⟨x7,σ7,H7,I7.cY,r7,q7⟩
end
theorem sD{lo:Int}{n:Nat}{g:TG}{tb:TS}{D:Ends}{σ:St}{H:Hp}(Pv:Nat->St->Hp->Prop)(h0:Pv 0 σ H)
 (hs:∀i σ H,i<n->Pv i σ H->g (.int (lo+i)) σ H fun σ2 H2=>tb { D with nx:=Pv (i+1),ct:=Pv (i+1),bk:=D.nx } σ2 H2) (hd:∀σ H,Pv n σ H->D.nx σ H) :
 ∃W:Nat->Nat->St->Hp->Prop,(∃m,W 0 m σ H)/\∀i m σ H,W i m σ H->
  ((Itr lo n).stop i H/\D.nx σ H)\/((Itr lo n).go i H/\∃N:St->Hp->Prop,(∀σ' H',N σ' H'->∃m',m'<m/\W (i+1) m' σ' H')/\∀x H',(Itr lo n).yld i H x H'->g x σ H' fun σ2 H2=>tb { D with nx:=N,ct:=N,bk:=D.nx } σ2 H2):=by
 refine⟨fun i m σ H=>m=n-i/\i<=n/\Pv i σ H,⟨n,by simp,FQ _,h0⟩,?_⟩
 rintro i m σ H ⟨rfl,hi,p⟩
 by_cases hlt:i<n
 ·refine .inr ⟨hlt,Pv (i+1),fun σ' H' p'=>⟨n-(i+1),by omega,rfl,hlt,p'⟩,fun x H' y=>?_⟩
  obtain⟨e,y⟩:=y
  subst e y
  exact hs i σ _ hlt p
 ·have e:i=n:=by omega
  subst e
  exact .inl ⟨E8 _,hd σ H p⟩
abbrev R2:=V->V->Hp->VK->Prop
def OpR(X:Cx)(f:E1->E1->Sem E1)(r:R2):Prop:=
 ∀(pins:List (Addr×Obj)) (s:E3) (σ:St) (H:Hp) (x y:V) (v u:E1) (Q:VK),Inv X pins σ H s->RelV x v->RelV y u->r x y H Q->
  EX (F6 X.prog X.w) X.A (f v u) (EP X pins σ Q) X.xe s
def UnR(X:Cx)(f:E1->Sem E1)(r:V->Hp->VK->Prop):Prop:=
 ∀(pins:List (Addr×Obj)) (s:E3) (σ:St) (H:Hp) (x:V) (v:E1) (Q:VK),Inv X pins σ H s->RelV x v->r x H Q->
  EX (F6 X.prog X.w) X.A (f v) (EP X pins σ Q) X.xe s
def bE(X:Cx)(f:E1)(r:List V->Hp->VK->Prop):Prop:=
 ∀(pins:List (Addr×Obj)) (s:E3) (σ:St) (H:Hp) (xs:List V) (us:List E1) (Q:VK),Inv X pins σ H s->Vals xs us->r xs H Q->
  EX (F6 X.prog X.w) X.A (call f us) (EP X pins σ Q) X.xe s
def EU(X:Cx)(r:V->Hp->(Bool->Hp->Prop)->Prop):Prop:=
 ∀(pins:List (Addr×Obj)) (s:E3) (σ:St) (H:Hp) (x:V) (v:E1) (Q:Bool->Hp->Prop),Inv X pins σ H s->RelV x v->r x H Q->
  EX (F6 X.prog X.w) X.A (truthy v) (TP X pins σ Q) X.xe s
def tOp(r:R2)(ta tb:TE):TE:=fun σ H Q=>ta σ H fun x H1=>tb σ H1 fun y H2=>r x y H2 Q
def tUn(r:V->Hp->VK->Prop)(ta:TE):TE:=fun σ H Q=>ta σ H fun x H1=>r x H1 Q
def rI(C:Int->Int->Prop)(g:Int->Int->V):R2:=fun x y H Q=>∃i j,x=.int i/\y=.int j/\C i j/\Q (g i j) H
def rI0(g:Int->Int->V):R2:=fun x y H Q=>∃i j,x=.int i/\y=.int j/\Q (g i j) H
def rU(g:Int->V):V->Hp->VK->Prop:=fun x H Q=>∃i,x=.int i/\Q (g i) H
section
variable{X:Cx}{a b c:Expr}{ta tb tc:TE}{pos:Pos}
theorem BL(ha:PE X a ta)(hb:PE X b tb){pins:List (Addr×Obj)}{s:E3}{σ:St}{H:Hp}{R:V->V->Hp->Prop}(I:Inv X pins σ H s) (h:ta σ H fun x H1=>tb σ H1 fun y H2=>R x y H2) {Q:E1->E3->Prop} {f:E1->E1->Sem E1} (hf:∀v u s2 x y H2,Inv X pins σ H2 s2->RelV x v->RelV y u->R x y H2->EX (F6 X.prog X.w) X.A (f v u) Q X.xe s2) : EX (F6 X.prog X.w) X.A (eval a X.env) (fun v s₁=>EX (F6 X.prog X.w) X.A (eval b X.env) (fun u s₂=>EX (F6 X.prog X.w) X.A (f v u) Q X.xe s₂) X.xe s₁) X.xe s:=by refine thn (ha pins s σ H _ I h) fun v s1 zz43_0=>?_;obtain⟨x,H1,I1,r1,q1⟩:=zz43_0;refine thn (hb pins s1 σ H1 _ I1 q1) fun u s2 zz44_0=>?_;obtain⟨y,H2,I2,r2,q2⟩:=zz44_0;exact hf v u s2 x y H2 I2 r1 r2 q2
theorem D1{op:Operator}{r:R2}(ho:OpR X (Hi op) r)(ha:PE X a ta)(hb:PE X b tb):PE X (.BinOp a op b pos) (tOp r ta tb):=by intro pins s σ H Q I h;exact wpAny_BinOp (BL ha hb I h fun v u s2 x y H2 I2 rx ry q=>ho pins s2 σ H2 x y v u Q I2 rx ry q)
theorem DC{op:UnaryOp}{r:V->Hp->VK->Prop}(ho:UnR X (unaryOp op) r)(ha:PE X a ta):PE X (.UnaryOp op a pos) (tUn r ta):=by intro pins s σ H Q I h;exact UnaryOp_ (thn (ha pins s σ H _ I h) fun v s1 zz45_0=>by obtain⟨x,H1,I1,r1,q1⟩:=zz45_0;exact(ho pins s1 σ H1 x v Q I1 r1 q1))
theorem opI{f:E1->E1->Sem E1}{C:Int->Int->Prop}{g:Int->Int->Int} (rule:∀(i j:Int) (t u:Tok) (s:E3) (Q:E1->E3->Prop) (E:E1->E3->Prop),C i j->Q (.int (g i j) s.toks) { s with toks:=s.toks+1 }->EX (F6 X.prog X.w) X.A (f (.int i t) (.int j u)) Q E s) : OpR X f (rI C fun i j=>.int (g i j)):=by intro pins s σ H x y v u Q I rx ry h;obtain⟨i,j,rfl,rfl,hc,q⟩:=h;obtain⟨t,rfl⟩:=rx;obtain⟨t',rfl⟩:=ry;exact rule i j t t' s _ _ hc ⟨.int (g i j),H,I.tok _,⟨_,rfl⟩,q⟩
theorem Ai{f:E1->E1->Sem E1}{g:Int->Int->Int} (rule:∀(i j:Int) (t u:Tok) (s:E3) (Q:E1->E3->Prop) (E:E1->E3->Prop),Q (.int (g i j) s.toks) { s with toks:=s.toks+1 }->EX (F6 X.prog X.w) X.A (f (.int i t) (.int j u)) Q E s) : OpR X f (rI0 fun i j=>.int (g i j)):=by intro pins s σ H x y v u Q I rx ry h;obtain⟨i,j,rfl,rfl,q⟩:=h;obtain⟨t,rfl⟩:=rx;obtain⟨t',rfl⟩:=ry;exact rule i j t t' s _ _ ⟨.int (g i j),H,I.tok _,⟨_,rfl⟩,q⟩
theorem xC{f:E1->E1->Sem E1}{g:Int->Int->Bool} (rule:∀(i j:Int) (t u:Tok) (s:E3) (Q:E1->E3->Prop) (E:E1->E3->Prop),Q (.bool (g i j)) s->EX (F6 X.prog X.w) X.A (f (.int i t) (.int j u)) Q E s) : OpR X f (rI0 fun i j=>.bl (g i j)):=by intro pins s σ H x y v u Q I rx ry h;obtain⟨i,j,rfl,rfl,q⟩:=h;obtain⟨t,rfl⟩:=rx;obtain⟨t',rfl⟩:=ry;exact rule i j t t' s _ _ ⟨.bl (g i j),H,I,rfl,q⟩
def CZ(i j:Int):Prop:=0<=j/\j<=1000000/\i.natAbs<2^64
theorem AZ:OpR X (Hi .Add) (rI0 fun i j=>.int (i+j)):=Ai fun _ _ _ _ _ _ _ q=>add_int q
theorem AM:OpR X (Hi .Sub) (rI0 fun i j=>.int (i-j)):=Ai fun _ _ _ _ _ _ _ q=>sub_int q
theorem zb:OpR X (Hi .Mod) (rI (fun _ j=>j≠0) fun i j=>.int (i.fmod j)):=opI fun _ _ _ _ _ _ _ hc q=>mod_int' hc q
theorem Bs:OpR X (Hi .Pow) (rI CZ fun i j=>.int (i^j.toNat)):=opI fun _ _ _ _ _ _ _ hc q=>pow_int_small hc.1 hc.2.1 hc.2.2 q
theorem Bk:OpR X (Hi .BitXor) (rI0 fun i j=>.int (Builtin.bitXor i j)):=Ai fun _ _ _ _ _ _ _ q=>xor_int q
theorem unI{f:E1->Sem E1}{g:Int->Int} (rule:∀(i:Int) (t:Tok) (s:E3) (Q:E1->E3->Prop) (E:E1->E3->Prop),Q (.int (g i) s.toks) { s with toks:=s.toks+1 }->EX (F6 X.prog X.w) X.A (f (.int i t)) Q E s) : UnR X f (rU fun i=>.int (g i)):=by intro pins s σ H x v Q I rx h;obtain⟨i,rfl,q⟩:=h;obtain⟨t,rfl⟩:=rx;exact rule i t s _ _ ⟨.int (g i),H,I.tok _,⟨_,rfl⟩,q⟩
theorem B1:UnR X (unaryOp .USub) (rU fun i=>.int (-i)):=unI fun _ _ _ _ _ q=>neg_int q
end
section
variable{X:Cx}{a b c:Expr}{ta tb tc:TE}{pos:Pos}
theorem CH:OpR X (FC .Lt) (rI0 fun i j=>.bl (decide (i<j))):=xC fun _ _ _ _ _ _ _ q=>lt_int q
theorem C0:OpR X (FC .LtE) (rI0 fun i j=>.bl (decide (i<=j))):=xC fun _ _ _ _ _ _ _ q=>le_int q
theorem Dt:OpR X (FC .Gt) (rI0 fun i j=>.bl (decide (j<i))):=xC fun _ _ _ _ _ _ _ q=>gt_int q
theorem Co:OpR X (FC .GtE) (rI0 fun i j=>.bl (decide (j<=i))):=xC fun _ _ _ _ _ _ _ q=>ge_int q
theorem OpR.or{f:E1->E1->Sem E1}{r r':R2}(h:OpR X f r)(h':OpR X f r'):OpR X f (fun x y H Q=>r x y H Q\/r' x y H Q):=by
 intro pins s σ H x y v u Q I rx ry q;rcases q with q|q
 ·exact h pins s σ H x y v u Q I rx ry q
 ·exact h' pins s σ H x y v u Q I rx ry q
theorem xc(b:Expr){op:CmpOp}(h:op≠.In:=by decide)(h2:op≠.NotIn:=by decide):Ii op b=false:=by
 have e1:(op==CmpOp.In)=false:=by cases op<;>first|rfl|exact absurd rfl h
 have e2:(op==CmpOp.NotIn)=false:=by cases op<;>first|rfl|exact absurd rfl h2
 cases b<;>simp[Ii,e1,e2]
theorem yM{op:CmpOp}{r:R2}(ho:OpR X (FC op) r)(ha:PE X a ta)(hb:PE X b tb)(hm:Ii op b=false):PE X (.Compare a [op] [b] pos) (tOp r ta tb):=by intro pins s σ H Q I h;exact wpAny_Compare1 (BL ha hb I h fun v u s2 x y H2 I2 rx ry q=>ho pins s2 σ H2 x y v u Q I2 rx ry q) hm
def zN(t:TE):TT:=fun σ H Q=>t σ H fun x H'=>∃k,x=.bl k/\Q k H'
theorem xM{op:CmpOp}{r:R2}(ho:OpR X (FC op) r)(ha:PE X a ta)(hb:PE X b tb)(hm:Ii op b=false):PT X (.Compare a [op] [b] pos) (zN (tOp r ta tb)):=by intro pins s σ H Q I h;refine wpAny_isTrue_Compare1 (thn (ha pins s σ H _ I h) fun v s1 ⟨x,H1,I1,r1,q1⟩=>thn (hb pins s1 σ H1 _ I1 q1) fun u s2 ⟨y,H2,I2,r2,q2⟩=>thn (ho pins s2 σ H2 x y v u _ I2 r1 r2 q2) fun c s3 ⟨z,H3,I3,r3,k,e,q3⟩=>?_) hm;subst e;cases r3;exact Gs ⟨H3,I3,q3⟩
def Bz(r r':R2)(ta tb tc:TE):TE:=fun σ H Q=>ta σ H fun x H1=>tb σ H1 fun y H2=>r x y H2 fun z H3=>∃k,z=.bl k/\
 (if k=true then tc σ H3 fun w' H4=>r' y w' H4 Q else Q (.bl false) H3)
theorem tV{op op':CmpOp}{r r':R2}(ho:OpR X (FC op) r)(ho':OpR X (FC op') r')(ha:PE X a ta)(hb:PE X b tb)(hc:PE X c tc) (hm:lastMarks [op,op'] [b,c]=false:=by with_unfolding_all rfl):PE X (.Compare a [op,op'] [b,c] pos) (Bz r r' ta tb tc):=by
 intro pins s σ H Q I h;refine Compare_chain (thn (ha pins s σ H _ I h) fun v s1 ⟨x,H1,I1,r1,q1⟩=>chain_link (thn (hb pins s1 σ H1 _ I1 q1) fun u s2 ⟨y,H2,I2,r2,q2⟩=>thn (ho pins s2 σ H2 x y v u _ I2 r1 r2 q2) fun d s3 ⟨z,H3,I3,r3,k,e,q3⟩=>?_)) hm;subst e;cases r3;refine Gs ?_;cases k with
 |false=>exact ite_ff ⟨.bl false,H3,I3,rfl,q3⟩
 |true=>exact ite_tt (chain_last (thn (hc pins s3 σ H3 _ I3 q3) fun w' s4 zz46_0=>by obtain⟨z',H4,I4,r4,q4⟩:=zz46_0;exact(ho' pins s4 σ H4 y z' u w' Q I4 r2 r4 q4)))
def CN(K:E2)(x:V)(H:Hp)(k:Bool):Prop:=
 match x with
 |.non=>k=false
 |.bl b=>k=b
 |.int i=>k=(i != 0)
 |.str y=>y.length<=Fb/\k=((y.length:Int) != 0)
 |.byt y=>y.size<=Fb/\k=((y.size:Int) != 0)
 |.ref p=>(∃xs,SqL K H p xs/\k=!xs.isEmpty)\/(∃xs,SqT K H p xs/\k=!xs.isEmpty)\/∃kvs,H p=some (.dK kvs)/\k=!kvs.isEmpty
 |_=>False
theorem pF{κ:Type}{kvs:List (κ×V)}{vs:List (κ×E1)}(r:KV kvs vs):(!vs.isEmpty)=!kvs.isEmpty:=by cases r<;>rfl
theorem iX{xs:List V}{its:List E1}(r:Vals xs its):(!its.toArray.isEmpty)=!xs.isEmpty:=by cases r<;>simp
theorem gV:(Fb:Nat)<2^63:=by rw[Ib];decide
theorem Bj:EU X (fun x H Q=>∃k,CN X.K x H k/\Q k H):=by
 intro pins s σ H x v Q I rx h;obtain⟨k,e,q⟩:=h;have hl:=gV;have hs:Fb=16777216:=Ib;cases x with
 |non=>
  cases rx
  have e':k=false:=e
  subst e'
  exact truthy_none ⟨H,I,q⟩
 |bl b=>
  cases rx
  have e':k=b:=e
  subst e'
  exact Gs ⟨H,I,q⟩
 |int i=>
  obtain⟨t,rfl⟩:=rx
  have e':k=(i != 0):=e
  subst e'
  exact PySem.P.truthy_int ⟨H,I,q⟩
 |str y=>
  obtain⟨t,rfl⟩:=rx
  obtain⟨hy,e'⟩:y.length<=Fb/\k=((y.length:Int) != 0):=e
  subst e'
  exact PySem.P.truthy_str (by omega) ⟨H,I.tok _,q⟩
 |byt y=>
  obtain⟨t,rfl⟩:=rx
  obtain⟨hy,e'⟩:y.size<=Fb/\k=((y.size:Int) != 0):=e
  subst e'
  exact PySem.W.truthy_bytes (by omega) ⟨H,I.tok _,q⟩
 |ref p=>
  cases rx
  have e':(∃xs,SqL X.K H p xs/\k=!xs.isEmpty)\/(∃xs,SqT X.K H p xs/\k=!xs.isEmpty)\/∃kvs,H p=some (.dK kvs)/\k=!kvs.isEmpty:=e
  rcases e' with⟨xs,hx,e'⟩|⟨xs,hx,e'⟩|⟨kvs,hx,e'⟩
  ·subst e';obtain⟨its,r,pl,hz⟩:=I.list hx;have hlen:=r.length;exact wpAny_truthy_list pl.isList (by simp only[Fe];omega) ⟨H,I.tok _,by rw[iX r];exact q⟩
  ·subst e';obtain⟨its,r,pl,hz⟩:=I.tuple hx;have hlen:=r.length;exact truthy_tuple pl (by simp only[Fe];omega) ⟨H,I.tok _,by rw[iX r];exact q⟩
  ·subst e';obtain⟨hz,hS,vs,r,m⟩:kvs.length<=Fb/\(p==GU)=false/\∃vs,KV kvs vs/\s.heap.DictOf (bA X.prog X.w) p vs:=I.hok p _ hx;have hlen:kvs.length=vs.length:=Paired.length r;exact wpAny_truthy_dict hS m (by omega) ⟨H,I.tok _,by rw[pF r];exact q⟩
 |_=>exact(show False from e).elim
theorem wK(ha:PE X a ta)(he:∀whole,isTrue a X.env whole=(do let v <-whole;standAt a.pos;holding [v] (truthy v))) :
 PT X a (fun σ H Q=>ta σ H fun x H'=>∃k,CN X.K x H' k/\Q k H'):=by
 intro pins s σ H Q I h
 exact isTrue_plain (thn (ha pins s σ H _ I h) fun v s1 zz48_0=>by obtain⟨x,H1,I1,r1,q1⟩:=zz48_0;exact(Bj pins s1 σ H1 x v Q I1 r1 q1)) (he _)
theorem vals1{x:V}{us:List E1}(r:Vals [x] us):∃u,us=[u]/\RelV x u:=by
 cases r with
 |cons r1 r2=>cases r2;exact⟨_,rfl,r1⟩
theorem vals2{x y:V}{us:List E1}(r:Vals [x,y] us):∃u w',us=[u,w']/\RelV x u/\RelV y w':=by
 cases r with
 |cons r1 r2=>
  cases r2 with
  |cons r3 r4=>cases r4;exact⟨_,_,rfl,r1,r3⟩
theorem uC:bE X (.builtin "abs") (fun xs H Q=>∃i,xs=[.int i]/\Q (.int (if i<0 then -i else i)) H):=by intro pins s σ H xs us Q I r h;obtain⟨i,rfl,q⟩:=h;obtain⟨u,rfl,t,rfl⟩:=vals1 r;exact call_abs_int fun u tk=>⟨.int (if i<0 then -i else i),H,I.tok _,⟨_,rfl⟩,q⟩
theorem sP(hc:X.calm=true):bE X (.builtin "max") (fun xs H Q=>∃i j,xs=[.int i,.int j]/\Q (.int (if j>i then j else i)) H):=by
 intro pins s σ H xs us Q I r h;obtain⟨i,j,rfl,q⟩:=h;obtain⟨u,w',rfl,⟨t,rfl⟩,⟨t',rfl⟩⟩:=vals2 r;refine max_two_ints (I.ok.hd hc) fun h' tk k=>⟨_,H,I.kept k,?_,q⟩;by_cases hj:j>i
 ·rw[if_pos hj,if_pos hj];exact⟨_,rfl⟩
 ·rw[if_neg hj,if_neg hj];exact⟨_,rfl⟩
theorem tL(hc:X.calm=true):bE X (.builtin "min") (fun xs H Q=>∃i j,xs=[.int i,.int j]/\Q (.int (if j<i then j else i)) H):=by
 intro pins s σ H xs us Q I r h;obtain⟨i,j,rfl,q⟩:=h;obtain⟨u,w',rfl,⟨t,rfl⟩,⟨t',rfl⟩⟩:=vals2 r;refine min_two_ints (I.ok.hd hc) fun h' tk k=>⟨_,H,I.kept k,?_,q⟩;by_cases hj:j<i
 ·rw[if_pos hj,if_pos hj];exact⟨_,rfl⟩
 ·rw[if_neg hj,if_neg hj];exact⟨_,rfl⟩
theorem sF:bE X (.type "int") (fun xs H Q=>(∃i,xs=[.int i]/\Q (.int i) H)\/∃k,xs=[.bl k]/\Q (.int (if k then 1 else 0)) H):=by
 intro pins s σ H xs us Q I r h;rcases h with⟨i,rfl,q⟩|⟨k,rfl,q⟩
 ·obtain⟨u,rfl,t,rfl⟩:=vals1 r;exact call_int_int ⟨.int i,H,I,⟨_,rfl⟩,q⟩
 ·obtain⟨u,rfl,r1⟩:=vals1 r;cases r1;exact call_int_bool ⟨.int (if k then 1 else 0),H,I.tok _,⟨_,rfl⟩,q⟩
end
structure Room(k:Nat)(A:FK):Prop where
 hd:A.handled=none
 dp:A.depth+3*k+5<recursionLimit
 un:A.units+16*k+200<G0
 gd:A.guards=some []
theorem Room.mono{j k:Nat}{A:FK}(r:Room k A)(h:j<=k):Room j A:=⟨r.hd,by have:=r.dp;omega,by have:=r.un;omega,r.gd⟩
theorem Room.deeper{k:Nat}{A:FK}(r:Room (k+1) A)(env:Env):Room k (A.deeper env):=⟨r.hd,by have:=r.dp;show A.depth+1+3*k+5<_;omega,by have:=r.un;show A.units+3+16*k+200<_;omega,r.gd⟩
theorem Room.depth{k:Nat}{A:FK}(r:Room k A):A.depth<recursionLimit:=by have:=r.dp;omega
theorem Room.units{k:Nat}{A:FK}(r:Room k A):A.units+64<G0:=by have:=r.un;omega
def Ec:TA:=fun _ H Q=>Q [] H
def Dr(ta:TE)(tr:TA):TA:=fun σ H Q=>ta σ H fun x H1=>tr σ H1 fun xs H2=>Q (x::xs) H2
section
variable{X:Cx}{e:Expr}{es:List Expr}{te:TE}{t:TA}{pos:Pos}
theorem qr:PA X [] Ec:=fun _ _ _ _ H Q I h=>Calls.spliced_nil ⟨[],H,I,.nil,h⟩
theorem lV(ha:PE X e te)(hr:PA X es t)(hs:Fc (e::es) X.env=(false,eval e X.env)::Fc es X.env:=by rfl):PA X (e::es) (Dr te t):=by intro pos pins s σ H Q I h;rw[hs];show EX _ _ (spliced ((false,eval e X.env)::GK pos (Fc es X.env))) _ _ s;refine Calls.spliced_cons (thn (ha pins s σ H _ I h) fun u s1 zz55_0=>?_);obtain⟨x,H1,I1,r1,q1⟩:=zz55_0;exact thn (hr pos pins s1 σ H1 _ I1 q1) fun us s2 zz56_0=>by obtain⟨xs,H2,I2,r2,q2⟩:=zz56_0;exact(⟨x::xs,H2,I2,.cons r1 r2,q2⟩)
def Ei(t:TA):TE:=fun σ H Q=>t σ H fun xs H1=>xs.length<=Fb/\∀p,H1 p=none->Q (.ref p) (upd H1 p (.tup xs))
def ET(t:TA):TE:=fun σ H Q=>t σ H fun xs H1=>xs.length<=Fb/\∀p,H1 p=none->Q (.ref p) (upd H1 p (.lst xs))
theorem B2{x1}(h:PA X es t):PE X (.Tuple es x1 pos) (Ei t):=by intro pins s σ H Q I hq;refine wpAny_Tuple_spliced (thn (h pos pins s σ H _ I hq) fun us s1 ⟨xs,H1,I1,r,z,q⟩=>⟨by rw[<-r.length];exact z,?_⟩);have hf:H1 s1.heap.objs.size=none:=I1.hok.fresh (E8 _);refine⟨.ref s1.heap.objs.size,upd H1 s1.heap.objs.size (.tup xs),I1.laid (t':=s1.toks) (fun b u e=>E5 _ e) (E8 _) ?_,rfl,q _ hf⟩;exact⟨z,us,r,⟨_,EY _ rfl,rfl,_,rfl⟩,⟨_,EY _ rfl,rfl⟩⟩
theorem Ab(h:PA X es t):PE X (.List es pos) (ET t):=by intro pins s σ H Q I hq;refine wpAny_List_spliced (thn (h pos pins s σ H _ I hq) fun us s1 ⟨xs,H1,I1,r,z,q⟩=>⟨by rw[<-r.length];exact z,?_⟩);have hf:H1 s1.heap.objs.size=none:=I1.hok.fresh (E8 _);refine⟨.ref s1.heap.objs.size,upd H1 s1.heap.objs.size (.lst xs),I1.laid (t':=s1.toks) (fun b u e=>E5 _ e) (E8 _) ?_,rfl,q _ hf⟩;exact⟨z,us,0,r,EY _ rfl⟩
end
abbrev Sp:=List V->Hp->VK->XK->Prop
abbrev CXT:=List Env->Hp->E3->XK->E1->E3->Prop
structure Env0(P:F8)(w:Fy)(K:E2)(mg:Str->Option E1)(base:Heap)(A:FK)(outer:List Env)(s:E3)(H:Hp):Prop where
 frames:A.frames=some outer
 mod:Mod K mg base
 bs:∀b o,base.get? b=some o->s.heap.get? b=some o/\H b=none
 bsz:base.objs.size<=s.heap.objs.size
 jV:s.heap.FunFrames base outer
 frf:∀b∈frs outer,H b=none
 hok:HOk P w H s.heap
 bare:AllBare s.gens
def CE(outer:List Env)(P:F8)(w:Fy)(H:Hp)(s:E3)(Q:VK)(u:E1)(s':E3):Prop:=
 ∃v H',s'.os=s.os/\AllBare s'.gens/\Un (frs outer) [] H H' s.heap s'.heap/\HOk P w H' s'.heap/\RelV v u/\Q v H'
def CR(CX:CXT)(outer:List Env)(P:F8)(w:Fy)(H:Hp)(s:E3)(Q:VK)(E:XK)(r:Result)(s':E3):Prop:=
 match r with
 |.ok (.ret u)=>CE outer P w H s Q u s'
 |.ok _=>False
 |.error e=>CX outer H s E e s'
structure FnOk(P:F8)(w:Fy)(K:E2)(mg:Str->Option E1)(base:Heap)(CX:CXT)(k:Nat)(f:Addr)(fd:Iy)(ps:List Str)(sp:Sp):Prop where
 len:∀vs H Q E,sp vs H Q E->vs.length=ps.length
 run:∀(A:FK) (outer:List Env) (s:E3) (H:Hp) (args:Args) (us:List E1) (vs:List V) (Q:VK) (E:XK),Room k A->Env0 P w K mg base A outer s H->BindsTo s fd args (ps.zip us)->Vals vs us->sp vs H Q E->
  Hh (F6 P w) A (.call (.ref f) args) (CR CX outer P w H s Q E) s
theorem FnOk.mono{P:F8}{w:Fy}{K:E2}{mg:Str->Option E1}{base:Heap}{CX:CXT}{j k:Nat}{f:Addr}{fd:Iy}{ps:List Str}{sp:Sp}(F:FnOk P w K mg base CX j f fd ps sp)(h:j<=k) : FnOk P w K mg base CX k f fd ps sp:=⟨F.len,fun A outer s H args us vs Q E hr=>F.run A outer s H args us vs Q E (hr.mono h)⟩
section
variable{X:Cx}{pins:List (Addr×Obj)}{σ:St}{H:Hp}{s s':E3}
theorem Inv.EE(I:Inv X pins σ H s):Env0 X.prog X.w X.K X.mg X.base X.A X.stack s H:=⟨I.ok.frames,I.ok.mod,I.bs,Gp I.ok.bsz I.sz,I.stack,I.rp,I.hok,I.bare⟩
theorem Inv.after{Q:VK}{u:E1}(I:Inv X pins σ H s)(h:CE X.stack X.prog X.w H s Q u s'):EP X pins σ Q u s':=by obtain⟨v,H',os,bare,un,hok,r,q⟩:=h;obtain⟨hh,g,d,t,os'⟩:=s';obtain rfl:os'=s.os:=os;exact⟨v,H',I.call (h':=hh) (g':=g) (d':=d) (t':=t) (ch:=[]) un hok bare (fun b z=>absurd z (by simp)),r,q⟩
end
def CJ(sp:Sp)(dvs:List V)(E:XK)(t:TA):TE:=fun σ H Q=>t σ H fun vs H1=>sp (vs++dvs) H1 Q E
def Binds(K:E2)(fd:Iy)(ps:List Str)(ds:List E1):Prop:=
 ∀(s:E3) (us:List E1),K.In s.heap->(us++ds).length=ps.length->BindsTo s fd ⟨us,[]⟩ (ps.zip (us++ds))
theorem Binds.all{K:E2}{fd:Iy}{ps:List Str}(h:∀us:List E1,us.length=ps.length->bindArgs fd ⟨us,[]⟩=pure (ps.zip us)):Binds K fd ps []:=fun s us _ hl=>by rw[GC]at hl ⊢;exact .of_eq (h us hl)
def Passes(CX:CXT)(X:Cx)(E:XK):Prop:=∀(pins:List (Addr×Obj)) (σ:St) (H:Hp) (s:E3) (e:E1) (s':E3),Inv X pins σ H s->CX X.stack H s E e s'->X.xe e s'
section
variable{X:Cx}{CX:CXT}{k:Nat}{f C:Addr}{fd:Iy}{ps:List Str}{sp:Sp}{dvs:List V}{ds:List E1}{E:XK}{x m:Str}{p pos apos:Pos}{e o:Expr}{es:List Expr}{ta:TE}{t:TA}
theorem BS{pins:List (Addr×Obj)}{σ:St}{H:Hp}{s:E3}{Q:VK}{us:List E1}{vs:List V}(F:FnOk X.prog X.w X.K X.mg X.base CX k f fd ps sp)(hr:Room k X.A)(hb:Binds X.K fd ps ds)(hd:Vals dvs ds)(hx:Passes CX X E)
 (I:Inv X pins σ H s) (r:Vals vs us) (h:sp (vs++dvs) H Q E):EX (F6 X.prog X.w) X.A (call (.ref f) us) (EP X pins σ Q) X.xe s:=by
 have r2:Vals (vs++dvs) (us++ds):=r.append hd
 have hl:(us++ds).length=ps.length:=by rw[<-r2.length];exact F.len _ _ _ _ h
 refine wpAny_call (Ic (F.run X.A X.stack s H ⟨us,[]⟩ (us++ds) (vs++dvs) Q E hr I.EE (hb s us I.kIn hl) r2 h) fun r s' hq=>?_)
 cases r with
 |error e=>exact hx pins σ H s e s' I hq
 |ok fl=>
  cases fl with
  |ret u=>exact I.after hq
  |next=>exact Iv hq
  |brk=>exact Iv hq
  |cont=>exact Iv hq
theorem yr(F:FnOk X.prog X.w X.K X.mg X.base CX k f fd ps sp)(hr:Room k X.A)(hg:Gl X x)(hm:X.mg x=some (.ref f))(hk:PySem.W.keepIn X.K (.ref f)=true)(hb:Binds X.K fd ps ds)(hd:Vals dvs ds)(hx:Passes CX X E) (ha:PA X (e::es) t) (hdb:(x==("__debug__":Str))=false:=by decide) (he:Fc (e::es) X.env=(false,eval e X.env)::Fc es X.env:=by rfl) (hpl:(GK pos (Fc es X.env)).any (·.1)=false:=by rfl) : PE X (.Call (.Name x p) (e::es) [] pos) (CJ sp dvs E t):=by intro pins s σ H Q I h;refine wpAny_Call_Name_kw (xO I hg hm ?_ hdb);refine PySem.W.callWith_K (h₀:=X.base) I.ok.mod.kin hk (thn (ha pos pins s σ H _ I h) fun us s1 ⟨vs,H1,I1,r,q⟩=>⟨I1.kIn,?_⟩) he hpl;exact BS F hr hb hd hx I1 r q
end
structure FnScope(N P:List Str)(sc:HN):Prop where
 kind:sc.kind=.function
 co:sc.isCoroutine=false
 gen:sc.isGenerator=false
 nd:N.Nodup
 pre:N.take P.length=P
 par:∀x∈P,sc.names.lookup x=some .local\/sc.names.lookup x=some .cell
 nofree:∀y∈sc.names,y.2≠.free
theorem lz{kindOf:Str->Option Hx}{x:Str}:∀{binds:List (Str×E1)} {m:Str->Option E1},(∀v,(x,v)∉binds)->bindL kindOf binds m x=m x
 |[],_,_=>rfl
 |(n,v)::r,m,h=>by
  unfold bindL
  rw[lz fun w hw=>h w (FH _ hw)]
  split
  ·have:x≠n:=by rintro rfl;exact h v G9
   simp[this]
  ·rfl
theorem lq{kindOf:Str->Option Hx}{x:Str}:∀{binds:List (Str×E1)} {m:Str->Option E1},(∀v,(x,v)∉binds)->bindC kindOf binds m x=m x
 |[],_,_=>rfl
 |(n,v)::r,m,h=>by
  unfold bindC
  rw[lq fun w hw=>h w (FH _ hw)]
  split
  ·rfl
  ·have:x≠n:=by rintro rfl;exact h v G9
   simp[this]
theorem ly{kindOf:Str->Option Hx}{x:Str}{v:E1}:∀{P:List Str} {vs:List E1} {i:Nat} {m:Str->Option E1},P.Nodup->P[i]?=some x->vs[i]?=some v->kindOf x=some .local->
 bindL kindOf (P.zip vs) m x=some v
 |[],_,_,_,_,h,_,_=>by simp at h
 |_::_,[],_,_,_,_,h,_=>by simp at h
 |p::P,w::vs,0,m,nd,h1,h2,hk=>by
  simp at h1 h2;subst h1;subst h2
  show bindL kindOf ((p,w)::P.zip vs) m p=_
  unfold bindL
  rw[lz fun v hv=>(Hu.mp nd).1 (List.of_mem_zip hv).1,if_pos hk]
  simp
 |p::P,w::vs,i+1,m,nd,h1,h2,hk=>by
  show bindL kindOf ((p,w)::P.zip vs) m x=_
  unfold bindL
  exact ly (i:=i) (Hu.mp nd).2 (by simpa using h1) (by simpa using h2) hk
theorem kR{kindOf:Str->Option Hx}{x:Str}{v:E1}:∀{P:List Str} {vs:List E1} {i:Nat} {m:Str->Option E1},P.Nodup->P[i]?=some x->vs[i]?=some v->kindOf x≠some .local->
 bindC kindOf (P.zip vs) m x=some v
 |[],_,_,_,_,h,_,_=>by simp at h
 |_::_,[],_,_,_,_,h,_=>by simp at h
 |p::P,w::vs,0,m,nd,h1,h2,hk=>by
  simp at h1 h2;subst h1;subst h2
  show bindC kindOf ((p,w)::P.zip vs) m p=_
  unfold bindC
  rw[lq fun v hv=>(Hu.mp nd).1 (List.of_mem_zip hv).1,if_neg hk]
  simp
 |p::P,w::vs,i+1,m,nd,h1,h2,hk=>by
  show bindC kindOf ((p,w)::P.zip vs) m x=_
  unfold bindC
  exact kR (i:=i) (Hu.mp nd).2 (by simpa using h1) (by simpa using h2) hk
def start(N:List Str)(vs:List V):St:=vs.map some++Fv (N.length-vs.length) none
def ia(CX:CXT)(P:F8)(w:Fy)(K:E2)(mg:Str->Option E1)(base:Heap)(N:List Str)(qual:Str)(scope:HN)(f:Addr)(cd:E1)(A:FK)(outer:List Env)(s:E3)(H:Hp)(E:XK):Cx where
 prog:=P
 w:=w
 K:=K
 mg:=mg
 base:=base
 A:=A.deeper (envOfC qual scope s.heap.objs.size f cd)
 N:=N
 s₀:=s
 H₀:=H
 env:=envOfC qual scope s.heap.objs.size f cd
 outer:=outer
 stack:=envOfC qual scope s.heap.objs.size f cd::outer
 ex:=[]
 calm:=true
 fn:=fun _=>true
 pn:=[]
 xe:=fun e s'=>EX (F6 P w) (A.deeper (envOfC qual scope s.heap.objs.size f cd)) (leaving (envOfC qual scope s.heap.objs.size f cd) e) (fun _ s''=>CX outer H s E e s'') (fun e' s''=>CX outer H s E e' s'') s'
theorem jt{sc:HN}{n:Nat}{x:Str}(h:sc.names.lookup x=some .cell):∃c,(GX n sc.names []).lookup x=some c:=by have q:=PySem.W.cellsFrom_some sc.names n [] (.inl h);exact Option.isSome_iff_exists.mp q
theorem r0{CX:CXT}{P:F8}{w:Fy}{K:E2}{mg:Str->Option E1}{base:Heap}{N ps:List Str}{qual:Str}{scope:HN}{f:Addr}{cd:E1}{A:FK}{outer:List Env}{s s1:E3}{H:Hp}{E:XK}{us:List E1}{vs:List V}
 (S:FnScope N ps scope) (hd:A.handled=none) (e0:Env0 P w K mg base A outer s H) (hl:vs.length=ps.length) (r:Vals vs us)
 (x:InCallC s s.heap.objs.size (bindL (envOfC qual scope s.heap.objs.size f cd).kindOf (ps.zip us) fun _=>none) (GX (s.heap.objs.size+1) scope.names []) (bindC (envOfC qual scope s.heap.objs.size f cd).kindOf (ps.zip us) fun _=>none) s1) :
 Inv (ia CX P w K mg base N qual scope f cd A outer s H E) [] (start N vs) H s1:=by
 have hpl:ps.length<=N.length:=by have:=congrArg List.length S.pre;rw[HJ]at this;omega
 obtain⟨h1,tk,rfl,hk⟩:=x.done
 have noA:∀b:Addr,b∉(ia CX P w K mg base N qual scope f cd A outer s H E).ex:=fun b z=>absurd (show b∈([]:List Addr)from z) (by simp)
 refine⟨⟨e0.mod,S.kind,rfl,rfl,E8 _,fun y z c h1 h2=>?_,fun y hy=>?_,fun y c _ h=>?_,fun _=>hd,Around.frames_deeper e0.frames,.inr ⟨rfl,rfl⟩,fun b z=>absurd z (noA b),e0.bs,e0.bsz,fun b _ _=>noA b,fun b z=>absurd z (noA b),e0.jV,e0.frf⟩,
  rfl,e0.bare,Un.kept hk,⟨_,x.toInCall.ns,fun i y v h1 h2 h3=>?_⟩,fun y c h=>⟨_,x.cell y c h⟩,e0.hok.fresh (E8 _),fun y c h=>?_,fun p hp=>absurd (show p∈([]:List (Addr×Obj))from hp) (by simp),e0.hok.kept hk,?_⟩
 ·exact name_of_addr x.apart (FV h1) (FV h2)
 ·have hy:scope.names.lookup y=some .cell\/scope.names.lookup y=some .free:=hy
  rcases hy with hy|hy
  ·exact jt hy
  ·exact absurd rfl (S.nofree _ (FV hy))
 ·exact Nat.le_of_lt (x.above y c (FV h))
 ·have hi:i<vs.length:=by
   unfold start at h2
   by_cases hi:i<vs.length
   ·exact hi
   ·rw[FL (by simpa using hi)]at h2
    rw[List.getElem?_replicate]at h2
    split at h2<;>cases h2
  have ha:vs[i]?=some v:=by
   unfold start at h2
   rw[FO (by simpa using hi),E9]at h2
   cases e:vs[i]? with
   |none=>rw[e]at h2;cases h2
   |some a=>rw[e]at h2;cases h2;rfl
  obtain⟨u,hu,rv⟩:=r.get ha
  have hp:ps[i]?=some y:=by
   rw[<-S.pre,List.getElem?_take_of_lt (by omega)];exact h1
  have ndP:ps.Nodup:=by rw[<-S.pre];exact S.nd.sublist (List.take_sublist _ _)
  refine⟨u,rv,?_⟩
  rcases S.par y (EZ hp)with k|k
  ·exact .inl ⟨k,ly ndP hp hu k⟩
  ·obtain⟨c,e⟩:=jt (n:=s.heap.objs.size+1) k
   refine .inr ⟨.inl k,c,e,?_⟩
   have q:=x.cell y c e
   rw[kR ndP hp hu (by show scope.names.lookup y≠_;rw[k];decide)]at q
   exact q
 ·exact e0.hok.fresh (Nat.le_of_lt (x.above y c (FV h)))
 ·unfold start
  show _=N.length
  rw[Ga,E6,List.length_replicate]
  omega
theorem Df{CX:CXT}{P:F8}{w:Fy}{K:E2}{mg:Str->Option E1}{base:Heap}{k:Nat}{f:Addr}{name qual:Str}{params:Arguments}{body:List Stmt}{scope:HN}{dV kV doc pm cdv ct oc:E1}{an od:Option Addr}
 {osl:Array (Option E1)} {N ps:List Str} {sp:Sp} (lk:K.lookup f=some ⟨oc,od,.func (GP name qual params body scope dV kV doc pm an cdv ct),osl⟩) (hcd:PySem.W.codeIn K cdv qual=true) (S:FnScope N ps scope)
 (len:∀vs H Q E,sp vs H Q E->vs.length=ps.length)
 (hbody:∀(A:FK) (outer:List Env) (s:E3) (H:Hp) (vs:List V) (Q:VK) (E:XK),Room k (A.deeper (envOfC qual scope s.heap.objs.size f cdv))->sp vs H Q E->
  ∃t,PSs (ia CX P w K mg base N qual scope f cdv A outer s H E) body t/\t { nx:=fun _ H'=>Q .non H',rt:=Q } (start N vs) H) :
 FnOk P w K mg base CX (k+1) f (GP name qual params body scope dV kV doc pm an cdv ct) ps sp:=by
 refine⟨len,fun A outer s H args us vs Q E hr e0 hb r hsp=>?_⟩
 have hl:=len _ _ _ _ hsp
 have KX:K.In s.heap:=e0.mod.kin.keeps fun b o e=>(e0.bs b o e).1
 have lim:s.heap.NoLimit:=e0.mod.nolimit.keeps fun b o e=>(e0.bs b o e).1
 have hkind:∀y∈ps.zip us,scope.names.lookup y.1=some .local\/(scope.names.lookup y.1=some .cell/\((GX (s.heap.objs.size+1) scope.names []).lookup y.1).isSome=true):=fun zz62_0 hy=>by
  obtain⟨n,v⟩:=zz62_0
  rcases S.par n (List.of_mem_zip hy).1 with q|q
  ·exact .inl q
  ·exact .inr ⟨q,PySem.W.cellsFrom_some _ _ _ (.inl q)⟩
 refine codeAny_call_function hr.depth (KX _ _ lk) rfl S.co S.gen rfl (PySem.W.codeRec_of KX hcd) (hb _ _ _ _ ?_)
 refine wpAny_newFunctionEnv_cells S.kind hkind fun env he s1 x=>?_
 subst he
 refine⟨lim.keeps x.toInCall.keep,codeAny_func ?_⟩
 obtain⟨t,ht,hq⟩:=hbody A outer s H vs Q E (hr.deeper _) hsp
 have I:Inv (ia CX P w K mg base N qual scope f cdv A outer s H E) [] (start N vs) H s1:=r0 S hr.hd e0 hl r x
 refine F7 (ht [] s1 (start N vs) H _ I hq) (fun fl s' hs=>?_) fun e s' hs=>hs
 have fin:∀{σ':St} {H':Hp} {v:V} {u:E1},Inv (ia CX P w K mg base N qual scope f cdv A outer s H E) [] σ' H' s'->RelV v u->Q v H'->CE outer P w H s Q u s':=
  fun{σ' H' v u} J rv q=>⟨v,H',J.os,J.bare,J.base,J.hok,rv,q⟩
 cases fl with
 |ret u=>
  obtain⟨v,σ',H',J,rv,q⟩:=hs
  exact fin J rv q
 |next=>
  obtain⟨σ',H',J,q⟩:=hs
  exact fin (v:=V.non) (u:=Gu) J rfl q
 |brk=>
  obtain⟨_,_,_,q⟩:=hs
  exact Iv q
 |cont=>
  obtain⟨_,_,_,q⟩:=hs
  exact Iv q
section
variable{X:Cx}{x:Str}{p pos:Pos}{e:Expr}{es:List Expr}{t:TA}{id T:String}{r:List V->Hp->VK->Prop}
def tCB(r:List V->Hp->VK->Prop)(t:TA):TE:=fun σ H Q=>t σ H fun vs H1=>r vs H1 Q
theorem nC(hc:bE X (.builtin id) r)(hg:Gl X x)(hm:X.mg x=none)(hv:G5 x=some (.builtin id))(ha:PA X (e::es) t)(hn:x≠"__name__":=by decide)(hdb:(x==("__debug__":Str))=false:=by decide) (he:Fc (e::es) X.env=(false,eval e X.env)::Fc es X.env:=by rfl) (hpl:(GK pos (Fc es X.env)).any (·.1)=false:=by rfl):PE X (.Call (.Name x p) (e::es) [] pos) (tCB r t):=by intro pins s σ H Q I h;refine wpAny_Call_Name_kw (gT I hg hm hv ?_ hn hdb);exact PyProof.Rows.callWith_builtin1 (thn (ha pos pins s σ H _ I h) fun us s1 zz63_0=>by obtain⟨vs,H1,I1,r1,q1⟩:=zz63_0;exact(hc pins s1 σ H1 vs us Q I1 r1 q1)) he hpl
theorem kP(hc:bE X (.type T) r)(hg:Gl X x)(hm:X.mg x=none)(hv:G5 x=some (.type T))(ha:PA X (e::es) t)(hn:x≠"__name__":=by decide)(hdb:(x==("__debug__":Str))=false:=by decide) (he:Fc (e::es) X.env=(false,eval e X.env)::Fc es X.env:=by rfl) (hpl:(GK pos (Fc es X.env)).any (·.1)=false:=by rfl):PE X (.Call (.Name x p) (e::es) [] pos) (tCB r t):=by intro pins s σ H Q I h;refine wpAny_Call_Name_kw (gT I hg hm hv ?_ hn hdb);exact PyProof.Rows.callWith_type1 (thn (ha pos pins s σ H _ I h) fun us s1 zz64_0=>by obtain⟨vs,H1,I1,r1,q1⟩:=zz64_0;exact(hc pins s1 σ H1 vs us Q I1 r1 q1)) he hpl
end
end L2
namespace HT
open PySem PyProof.Rows
def lexLt:List Int->List Int->Bool
 |[],[]=>false
 |[],_::_=>true
 |_::_,[]=>false
 |x::xs,y::ys=>if x=y then lexLt xs ys else decide (x<y)
theorem pf(x y:Int)(xs ys:List Int):lexLt (x::xs) (y::ys)=if x=y then lexLt xs ys else decide (x<y):=rfl
theorem kn:lexLt [] []=false:=rfl
theorem jB(y:Int)(ys:List Int):lexLt [] (y::ys)=true:=rfl
theorem jQ(x:Int)(xs:List Int):lexLt (x::xs) []=false:=rfl
theorem gF(A:FK)(s:E3)(a:Int)(t:Tok)(c:Int)(u:Tok):∃e,SeqAt.EqAt A s (.int a t) (.int c u) e/\(e=true↔a=c):=⟨(a==c),SeqAt.EqAt.int_int a t c u,by simp⟩
theorem uN(A:FK)(s:E3)(a:Int)(t:Tok)(c:Int)(u:Tok)(prog:F8)(w:Fy)(E:E1->E3->Prop)(Q:E1->E3->Prop)(h:Q (.bool (decide (a<c))) s) : EX (F6 prog w) A (richCompare .Lt (.int a t) (.int c u)) Q E s:=(PyProof.Rows.lt_int h:EX (F6 prog w) A (FC .Lt (.int a t) (.int c u)) Q E s)
section
open PySem.SeqAt
open PySem.AutoSeq1 (wpAny_loadPart')
open PySem.MeetsSeq PySem.MeetsSeq2 PySem.MeetsSeq3
theorem kf(l b:Addr)(items items2:Array E1)(n n2:Nat)(dd dd2:Option Addr)(sl sl2:Array (Option E1))(ns ms:List Int)(hi:Gv items.toList ns)(hj:Gv items2.toList ms) :
 Meets (GQ.«tuple.__lt__» ⟨[.ref l,.ref b],[]⟩)
  (fun _ R s=>s.heap.get? l=some { cls:=.type "tuple",dict:=dd,data:=.seq items n,slots:=sl }/\s.heap.get? b=some { cls:=.type "tuple",dict:=dd2,data:=.seq items2 n2,slots:=sl2 }/\
   R (.ok (.ret (.bool (lexLt ns ms)))) s):=
 .of_wp fun prog w A R s h=>by
  obtain⟨hp,g,d,tk,os⟩:=s;obtain⟨hl,hb,h⟩:=h
  have f2:=AutoSeq1.sub_tuple_tuple
  have z1:items.size=ns.length:=by rw[<-hi.length];simp
  have z2:items2.size=ms.length:=by rw[<-hj.length];simp
  wp_walk using FF hl,FF hb,wpAny_forIn_list _ (fun rest b s'=>b.1=none/\s'=⟨hp,g,d,tk,os⟩/\∃(vs ws:List E1) (ns' ms':List Int),rest=vs.zip ws/\
   Gv vs ns'/\Gv ws ms'/\ns'.length+items2.size=ms'.length+items.size/\R (.ok (.ret (.bool (lexLt ns' ms')))) ⟨hp,g,d,tk,os⟩) _
  case turn=>
   rintro⟨y,x⟩ rest b s' ⟨hb',rfl,vs,ws,ns',ms',hz,hvi,hwi,hlen,hR⟩
   cases hvi with
   |nil=>rw[List.zip_nil_left]at hz;cases hz
   |cons a t hvi'=>
    cases hwi with
    |nil=>rw[List.zip_nil_right]at hz;cases hz
    |cons c u hwi'=>
     rw[GV]at hz
     injection hz with hyx hrest
     injection hyx with hy hx
     subst hy hx
     rw[pf]at hR
     simp only[Fi]at hlen
     obtain⟨e,he,hiff⟩:=gF A.in1 ⟨hp,g,d,tk,os⟩ a t c u
     refine cc (he prog w _ _ ?_)
     cases e with
     |true=>
      rw[if_pos (hiff.mp rfl)]at hR
      wp_walk
      exact⟨rfl,rfl,_,_,_,_,hrest,hvi',hwi',by omega,hR⟩
     |false=>
      rw[if_neg (fun q=>absurd (hiff.mpr q) F4)]at hR
      have hri:=uN A.in1 ⟨hp,g,d,tk,os⟩ a t c u prog w
      wp_walk using hri
      exact⟨_,rfl,by simpa using hR⟩
  case fin=>
   rintro⟨b1,b2⟩ s' ⟨hb',rfl,vs,ws,ns',ms',hz,hvi,hwi,hlen,hR⟩
   simp only at hb'
   subst hb'
   have hv:lexLt ns' ms'=decide (items.size<items2.size):=by
    cases hvi with
    |nil=>
     cases hwi with
     |nil=>
      simp only[Gb]at hlen
      rw[kn]
      exact(decide_eq_false (by omega)).symm
     |cons c u hw=>
      simp only[Gb,Fi]at hlen
      rw[jB]
      exact(decide_eq_true (by omega)).symm
    |cons a t hv=>
     cases hwi with
     |nil=>
      simp only[Gb,Fi]at hlen
      rw[jQ]
      exact(decide_eq_false (by omega)).symm
     |cons c u hw=>
      rw[GV]at hz
      cases hz
   rw[hv]at hR
   wp_walk
   exact⟨_,rfl,by simpa[Hg]using hR⟩
  case h=>
   exact⟨rfl,rfl,items.toList,items2.toList,ns,ms,rfl,hi,hj,by omega,h⟩
end
section
variable{prog:F8}{w:Fy}{A:FK}{E:E1->E3->Prop}{s:E3}
theorem jY{l b:Addr}{items items2:Array E1}{ns ms:List Int}{Q:E1->E3->Prop}(hl:IsTup s.heap l items)(hb:IsTup s.heap b items2)(hi:Gv items.toList ns)(hj:Gv items2.toList ms) (hu:A.units<G0) (h:Q (.bool (lexLt ns ms)) s):EX (F6 prog w) A (FC .Lt (.ref l) (.ref b)) Q E s:=by obtain⟨⟨cls,dd,data,sl⟩,ho,hc,n,hd⟩:=id hl;obtain⟨⟨cls2,dd2,data2,sl2⟩,ho2,hc2,n2,hd2⟩:=id hb;simp only at hc hd hc2 hd2;subst hc hd hc2 hd2;exact richCompare_meets_room (op:=.Lt) ⟨_,ho,rfl⟩ ⟨_,ho2,rfl⟩ PySem.F.slot_tuple_lt PySem.F.entry_tuple_lt (PySem.F.args_tuple_lt_2 _ _) (kf l b items items2 n n2 dd dd2 sl sl2 ns ms hi hj) ⟨ho,ho2,show HM (lexLt ns ms)≠Value.notImplemented/\Q (.bool (lexLt ns ms)) s from⟨(fun x=>nomatch x),h⟩⟩ hu
theorem yh{t b:Addr}{vs ws:List E1}{Q:E1->E3->Prop}(ht:IsTup s.heap t vs.toArray)(hb:IsTup s.heap b ws.toArray)(hv:vs≠[])
 (h1:ws=[]->Q (.ref t) s) (h2:ws≠[]->Q (.ref s.heap.objs.size) { s with heap:=s.heap.push { cls:=.type "tuple",data:=.seq (vs++ws).toArray } })
 (hsz:vs.length+ws.length<=Fb):EX (F6 prog w) A (Hi .Add (.ref t) (.ref b)) Q E s:=by
 obtain⟨⟨cls,dd,data,sl⟩,ho,hc,n,hd⟩:=id ht
 obtain⟨⟨cls2,dd2,data2,sl2⟩,ho2,hc2,n2,hd2⟩:=id hb
 simp only at hc hd hc2 hd2
 subst hc hd hc2 hd2
 have e:vs.toArray++ws.toArray=(vs++ws).toArray:=by simp
 by_cases hw:ws=[]
 ·exact concat_meets ⟨_,ho,rfl⟩ ⟨_,ho2,rfl⟩ noFill_tuple_add seq_tuple_add PySem.F.slot_tuple_add PySem.F.entry_tuple_add (PySem.F.args_tuple_add_2 _ _)
   (tuple_addW1 t b vs.toArray ws.toArray n n2 dd dd2 sl sl2 (by simpa using hv) (by simp[hw])) ⟨ho,ho2,h1 hw⟩
 ·refine concat_meets ⟨_,ho,rfl⟩ ⟨_,ho2,rfl⟩ noFill_tuple_add seq_tuple_add PySem.F.slot_tuple_add PySem.F.entry_tuple_add (PySem.F.args_tuple_add_2 _ _)
   (tuple_addW2 t b vs.toArray ws.toArray n n2 dd dd2 sl sl2 (by simpa using hv) (by simpa using hw) (by rw[Fe,Fe];exact hsz)) ⟨ho,ho2,?_⟩
  rw[e]
  exact h2 hw
end
end HT
namespace L2
open PySem PySem.Spec PyProof.Rows
theorem intsAre_of{ns:List Int}:∀{us:List E1},Vals (ns.map V.int) us->Gv us ns:=by
 induction ns with
 |nil=>intro us r;rw[GR]at r;cases r;exact .nil
 |cons n ns ih=>
  intro us r
  rw[EW]at r
  cases r with
  |cons r1 r2=>
   obtain⟨t,e⟩:=r1
   subst e
   exact .cons n t (ih r2)
section
variable{X:Cx}{e:Expr}{te:TE}{lo hi:Option Expr}{tl th:TO}{pos p2:Pos}
def Es(K:E2):R2:=fun x y H Q=>∃a b ns ms,x=.ref a/\y=.ref b/\SqT K H a (ns.map V.int)/\SqT K H b (ms.map V.int)/\Q (.bl (HT.lexLt ns ms)) H
theorem BN(hu:X.A.units<G0):OpR X (FC .Lt) (Es X.K):=by intro pins s σ H x y v u Q I rx ry h;obtain⟨a,b,ns,ms,rfl,rfl,ha,hb,q⟩:=h;cases rx;cases ry;obtain⟨its,r1,p1,_⟩:=I.tuple ha;obtain⟨its2,r2,p2,_⟩:=I.tuple hb;have i1:Gv its.toArray.toList ns:=intsAre_of r1;have i2:Gv its2.toArray.toList ms:=intsAre_of r2;exact HT.jY p1 p2 i1 i2 hu ⟨.bl (HT.lexLt ns ms),H,I,rfl,q⟩
def Cs(K:E2):R2:=fun x y H Q=>∃a b xs ys,x=.ref a/\y=.ref b/\SqT K H a xs/\SqT K H b ys/\xs≠[]/\xs.length+ys.length<=Fb/\
 (ys=[]->Q (.ref a) H)/\(ys≠[]->∀p,H p=none->Q (.ref p) (upd H p (.tup (xs++ys))))
theorem Vals.mx{xs:List V}{us:List E1}(r:Vals xs us):us=[]↔xs=[]:=by
 cases r with
 |nil=>simp
 |cons _ _=>simp
theorem xJ:OpR X (Hi .Add) (Cs X.K):=by intro pins s σ H x y v u Q I rx ry h;obtain⟨a,b,xs,ys,rfl,rfl,ha,hb,hx,hz,q1,q2⟩:=h;cases rx;cases ry;obtain⟨its,r1,p1,_⟩:=I.tuple ha;obtain⟨its2,r2,p2,_⟩:=I.tuple hb;refine HT.yh p1 p2 (fun z=>hx (r1.mx.mp z)) (fun z=>⟨.ref a,H,I,rfl,q1 (r2.mx.mp z)⟩) (fun z=>?_) (by rw[<-r1.length,<-r2.length];exact hz);refine⟨.ref s.heap.objs.size,_,I.laid (t':=s.toks) (o:=.tup (xs++ys)) (fun b ob q=>E5 _ q) (E8 _) ?_,rfl,q2 (fun w=>z (r2.mx.mpr w)) _ (I.hok.fresh (E8 _))⟩;exact⟨by rw[Ga];exact hz,_,r1.append r2,IsTup.new _ _,NoD.new _ _⟩
end
def ixN(n:Nat)(i:Int):Option Nat:=if 0<=i then(if i<n then some i.toNat else none)else if -(n:Int)<=i then some (i+n).toNat else none
def atI{α:Type}(xs:List α)(i:Int):Option α:=(ixN xs.length i).bind fun j=>xs[j]?
theorem rq{n:Nat}{i:Int}{j:Nat}(h:ixN n i=some j):seqIndex? i n=some j/\j<n/\-(n:Int)<=i/\i<n:=by
 unfold ixN at h;by_cases h0:0<=i
 ·rw[if_pos h0]at h;by_cases h1:i<n
  ·rw[if_pos h1]at h;have e:i.toNat=j:=Option.some.inj h;exact⟨by rw[seqIndex_of h0 h1,e],by omega,by omega,h1⟩
  ·rw[if_neg h1]at h;cases h
 ·rw[if_neg h0]at h;by_cases h1:-(n:Int)<=i
  ·rw[if_pos h1]at h;have e:(i+n).toNat=j:=Option.some.inj h;exact⟨by rw[seqIndex_neg (by omega) h1,e],by omega,h1,by omega⟩
  ·rw[if_neg h1]at h;cases h
theorem mE{α:Type}{xs:List α}{i:Int}{v:α}(h:atI xs i=some v):∃j,seqIndex? i xs.length=some j/\xs[j]?=some v/\j<xs.length/\-(xs.length:Int)<=i/\i<xs.length:=by
 unfold atI at h;cases e:ixN xs.length i with
 |none=>rw[e]at h;cases h
 |some j=>
  rw[e]at h
  obtain⟨h1,h2,h3,h4⟩:=rq e
  exact⟨j,h1,h,h2,h3,h4⟩
theorem cQ{α:Type}{xs:List α}{j:Nat}{v:α}(h:xs[j]?=some v):atI xs (j:Int)=some v:=by
 have hj:j<xs.length:=(F0.mp h).1;have e:ixN xs.length (j:Int)=some j:=by unfold ixN;rw[if_pos (by omega),if_pos (by omega)];simp
 unfold atI;rw[e];exact h
def mG(b:Expr):Prop:=∀o i,subscripted b false o i=operate [o,i] (getItem o i)
def IxR(X:Cx)(r:R2):Prop:=
 ∀(value slice:Expr) (pins:List (Addr×Obj)) (s:E3) (σ:St) (H:Hp) (x y:V) (v u:E1) (Q:VK),Inv X pins σ H s->RelV x v->RelV y u->r x y H Q->
  subscripted slice false v u=operate [v,u] (getItem v u)->EX (F6 X.prog X.w) X.A (subscriptTail value slice v u) (EP X pins σ Q) X.xe s
def MtR(X:Cx)(id:String)(r:V->List V->Hp->VK->Prop):Prop:=
 ∀(pins:List (Addr×Obj)) (s:E3) (σ:St) (H:Hp) (x:V) (xs:List V) (v:E1) (us:List E1) (Q:VK),Inv X pins σ H s->RelV x v->Vals xs us->r x xs H Q->
  EX (F6 X.prog X.w) X.A (call (.builtin id) (v::us)) (EP X pins σ Q) X.xe s
section
variable{X:Cx}{a b:Expr}{ta tb:TE}{pos:Pos}
theorem IxR.or{r r':R2}(h:IxR X r)(h':IxR X r'):IxR X (fun x y H Q=>r x y H Q\/r' x y H Q):=by
 intro value slice pins s σ H x y v u Q I rx ry q hs;rcases q with q|q
 ·exact h value slice pins s σ H x y v u Q I rx ry q hs
 ·exact h' value slice pins s σ H x y v u Q I rx ry q hs
theorem Cu{r:R2}(hr:IxR X r)(ha:PE X a ta)(hb:PE X b tb)(hs:mG b):PE X (.Subscript a b pos) (tOp r ta tb):=by intro pins s σ H Q I h;exact Subscript_ (BL ha hb I h fun v u s2 x y H2 I2 rx ry q=>hr a b pins s2 σ H2 x y v u Q I2 rx ry q (hs _ _))
def DJ(K:E2):R2:=fun x y H Q=>∃p xs i v,x=.ref p/\y=.int i/\SqL K H p xs/\atI xs i=some v/\Q v H
def De(K:E2):R2:=fun x y H Q=>∃p xs i v,x=.ref p/\y=.int i/\SqT K H p xs/\atI xs i=some v/\Q v H
def Dp:R2:=fun x y H Q=>∃z i c,x=.str z/\y=.int i/\z.length<=Fb/\atI z.cps.toList i=some c/\Q (.str ⟨#[c]⟩) H
theorem yg:IxR X (DJ X.K):=by
 intro value slice pins s σ H x y v u Q I rx ry h hs;obtain⟨p,xs,i,z,rfl,rfl,hq,he,q⟩:=h;cases rx;obtain⟨t,rfl⟩:=ry;obtain⟨its,r,pl,hz⟩:=I.list hq;obtain⟨j,h1,h2,h3,h4,h5⟩:=mE he;obtain⟨w,ew,rw'⟩:=r.get h2;have hl:=r.length;have hn:=gV;have fin:EP X pins σ Q w s:=⟨z,H,I,rw',q⟩;by_cases h0:0<=i
 ·have hj:i.toNat=j:=by rw[seqIndex_of h0 h5]at h1;exact Option.some.inj h1
  exact item_listR pl.isList h0 (by omega) (by rw[hj];simpa using ew) fin hs
 ·have hj:(i+(its.toArray.size:Int)).toNat=j:=by rw[seqIndex_neg (by omega) h4]at h1;rw[Fe,<-hl];exact Option.some.inj h1
  exact subscriptTail_builtinR (x:=w) pl.isList.typeIs slot_list_getitem.lookup (wpAny_getItem_list_neg (Q:=fun r s'=>r=w/\EP X pins σ Q r s') pl.isList (by omega) (by rw[Fe]<;>omega) (by omega) (by rw[hj];simpa using ew) ⟨rfl,fin⟩) hs
theorem Bb:IxR X (De X.K):=by intro value slice pins s σ H x y v u Q I rx ry h hs;obtain⟨p,xs,i,z,rfl,rfl,hq,he,q⟩:=h;cases rx;obtain⟨t,rfl⟩:=ry;obtain⟨its,r,pl,hz⟩:=I.tuple hq;obtain⟨j,h1,h2,h3,h4,h5⟩:=mE he;obtain⟨w,ew,rw'⟩:=r.get h2;have hl:=r.length;have hn:=gV;have fin:EP X pins σ Q w s:=⟨z,H,I,rw',q⟩;exact subscriptTail_builtinR (x:=w) pl.typeIs slot_tuple_getitem.lookup (getItem_tuple (j:=j) (Q:=fun r s'=>r=w/\EP X pins σ Q r s') pl (by omega) (by omega) (by rw[Fe,<-hl];exact h1) (by simpa using ew) ⟨rfl,fin⟩) hs
theorem B5:IxR X Dp:=by
 intro value slice pins s σ H x y v u Q I rx ry h hs;obtain⟨z,i,c,rfl,rfl,hz,he,q⟩:=h;obtain⟨t,rfl⟩:=rx;obtain⟨t',rfl⟩:=ry;obtain⟨j,h1,h2,h3,h4,h5⟩:=mE he;have hl:z.cps.toList.length=z.length:=by simp[Str.length]
 rw[hl]at h1 h4 h5;have hn:=gV
 exact tail_any (typeIs_str s z t) slot_str_getitem.lookup (getItem_str (c:=c) (by
  have e1:decide (i < -(2^63:Int))=false:=decide_eq_false (by omega)
  have e2:decide (i≥2^63)=false:=decide_eq_false (by omega)
  rw[e1,e2,Bool.or_false]) (by rw[h1];simpa using h2) ⟨.str ⟨#[c]⟩,H,I.tok _,⟨_,rfl⟩,q⟩) hs
def rIx(K:E2):R2:=fun x y H Q=>DJ K x y H Q\/De K x y H Q\/Dp x y H Q
theorem BO:IxR X (rIx X.K):=yg.or (Bb.or B5)
theorem oQ(its:List E1)(n j:Nat)(u:E1):Obj.mapSeq (·.setIfInBounds j u) { cls:=.type "list",data:=.seq its.toArray n }={ cls:=.type "list",data:=.seq (its.set j u).toArray n }:=by simp[Obj.mapSeq]
theorem Inv.lst{pins:List (Addr×Obj)}{σ:St}{H:Hp}{s:E3}{p:Addr}{xs:List V}(I:Inv X pins σ H s)(h:H p=some (.lst xs)) : ∃(its:List E1) (n:Nat),Vals xs its/\s.heap.get? p=some { cls:=.type "list",data:=.seq its.toArray n }/\xs.length<=Fb:=by obtain⟨z,its,n,r,e⟩:=I.hok p _ h;exact⟨its,n,r,e,z⟩
theorem Inv.AN{pins:List (Addr×Obj)}{σ:St}{H:Hp}{s:E3}{p:Addr}{xs ys:List V}{its its':List E1}{n n':Nat}{f:Obj->Obj}(I:Inv X pins σ H s)(h:H p=some (.lst xs))
 (ho:s.heap.get? p=some { cls:=.type "list",data:=.seq its.toArray n }) (hf:f { cls:=.type "list",data:=.seq its.toArray n }={ cls:=.type "list",data:=.seq its'.toArray n' }) (r:Vals ys its') (hz:ys.length<=Fb) (t:Nat) :
 Inv X pins σ (upd H p (.lst ys)) { s with heap:=s.heap.update p f,toks:=t }:=by
 have e:(s.heap.update p f).get? p=some { cls:=.type "list",data:=.seq its'.toArray n' }:=by
  rw[G7 f ho (by rw[hf]<;>rfl),hf]
 refine I.write (x:=p) (e:=p) (by rw[h];trivial) (.inl rfl) (fun b u hb q=>(FT _ _ (Ne.symm hb)).trans q) ⟨_,e⟩ ?_
 exact⟨hz,its',n',r,e⟩
def Du:V->V->V->Hp->(Hp->Prop)->Prop:=fun o i v H Q=>∃p xs k j,o=.ref p/\i=.int k/\H p=some (.lst xs)/\ixN xs.length k=some j/\Q (upd H p (.lst (xs.set j v)))
theorem set_list:Cm X Du:=by
 intro pins s σ H o i v ov iv u Q I ro ri rv h;obtain⟨p,xs,k,j,rfl,rfl,hp,hj,q⟩:=h;cases ro;obtain⟨t,rfl⟩:=ri;obtain⟨its,n,r,ho,hz⟩:=I.lst hp;obtain⟨h1,h2,h3,h4⟩:=rq hj;have hl:=r.length;have hn:=gV;have I':Inv X pins σ (upd H p (.lst (xs.set j v))) { s with heap:=s.heap.update p (Obj.mapSeq (·.setIfInBounds j u)) }:=I.AN hp ho (oQ its n j u) (r.set rv j) (by rw[List.length_set];exact hz) s.toks;by_cases h0:0<=k
 ·have hk:k.toNat=j:=by rw[seqIndex_of h0 h4]at h1;exact Option.some.inj h1
  exact PySem.W.ki_setAt ho h0 (by omega) (by rw[Fe,<-hl];exact h4) (by rw[hk];exact⟨_,I',q⟩)
 ·have hk:(k+(its.toArray.size:Int)).toNat=j:=by rw[seqIndex_neg (by omega) h3]at h1;rw[Fe,<-hl];exact Option.some.inj h1
  exact PySem.W.ki_setBack ho (by omega) (by rw[Fe,<-hl];exact h3) (by omega) (by rw[hk];exact⟨_,I',q⟩)
theorem my:bE X (.builtin "len") (fun xs H Q=>∃p ys,xs=[.ref p]/\(SqL X.K H p ys\/SqT X.K H p ys)/\Q (.int ys.length) H):=by
 intro pins s σ H xs us Q I r h;obtain⟨p,ys,rfl,hq,q⟩:=h;obtain⟨u,rfl,rx⟩:=vals1 r;cases rx;have hn:=gV;rcases hq with hq|hq
 ·obtain⟨its,r',pl,hz⟩:=I.list hq;have hlen:=r'.length;exact Calls.call_len_list pl.isList (by simp only[Fe]<;>omega) ⟨.int ys.length,H,I.tok _,⟨s.toks+1,by rw[Fe,hlen]⟩,q⟩
 ·obtain⟨its,r',pl,hz⟩:=I.tuple hq;have hlen:=r'.length;exact len_tuple pl (by simp only[Fe]<;>omega) ⟨.int ys.length,H,I.tok _,⟨s.toks+1,by rw[Fe,hlen]⟩,q⟩
theorem bE.or{f:E1}{r r':List V->Hp->VK->Prop}(h:bE X f r)(h':bE X f r'):bE X f (fun xs H Q=>r xs H Q\/r' xs H Q):=by
 intro pins s σ H xs us Q I rs q;rcases q with q|q
 ·exact h pins s σ H xs us Q I rs q
 ·exact h' pins s σ H xs us Q I rs q
theorem lW:bE X (.type "list") (fun xs H Q=>∃p ys,xs=[.ref p]/\(SqL X.K H p ys\/SqT X.K H p ys)/\∀l,H l=none->Q (.ref l) (upd H l (.lst ys))):=by
 intro pins s σ H xs us Q I r h;obtain⟨p,ys,rfl,hq,q⟩:=h;obtain⟨u,rfl,rx⟩:=vals1 r;cases rx;have fin:∀(its:List E1),Vals ys its->ys.length<=Fb->∀(h':Heap) (c':Nat),(∀b o',s.heap.get? b=some o'->h'.get? b=some o')->h'.get? s.heap.objs.size=some { cls:=.type "list",dict:=none,data:=.seq its.toArray c',slots:=#[] }->EP X pins σ Q (.ref s.heap.objs.size) { s with heap:=h' }:=fun its r' hz h' c' kp e=>⟨.ref s.heap.objs.size,_,I.laid (t':=s.toks) kp (E8 _) (show bz X.prog X.w _ h' _ (.lst ys)from⟨hz,its,c',r',e⟩),rfl,q _ (I.hok.fresh (E8 _))⟩;rcases hq with hq|hq
 ·obtain⟨its,r',pl,hz⟩:=I.list hq;have hlen:=r'.length;obtain⟨o,ho,hc,n,hd⟩:=pl.isList;exact call_list_seq p (.inl rfl) ho hc hd (fun h' c' kp e=>fin its r' hz h' c' kp e) (by simp only[Fe]<;>omega)
 ·obtain⟨its,r',pl,hz⟩:=I.tuple hq;have hlen:=r'.length;obtain⟨o,ho,hc,n,hd⟩:=pl;exact call_list_seq p (.inr rfl) ho hc hd (fun h' c' kp e=>fin its r' hz h' c' kp e) (by simp only[Fe]<;>omega)
theorem kI:bE X (.type "tuple") (fun xs H Q=>∃p ys,xs=[.ref p]/\((SqL X.K H p ys/\∀l,H l=none->Q (.ref l) (upd H l (.tup ys)))\/(SqT X.K H p ys/\Q (.ref p) H))):=by
 intro pins s σ H xs us Q I r h;obtain⟨p,ys,rfl,h⟩:=h;obtain⟨u,rfl,rx⟩:=vals1 r;cases rx;rcases h with⟨hq,q⟩|⟨hq,q⟩
 ·obtain⟨its,r',pl,hz⟩:=I.list hq;have hlen:=r'.length;refine call_tuple_list pl.isList (fun h' kp=>?_) (by simp only[Fe]<;>omega);have I1:Inv X pins σ H { s with heap:=h' }:=I.kept (t':=s.toks) kp;have I2:Inv X pins σ (upd H h'.objs.size (.tup ys)) { s with heap:=h'.push { cls:=.type "tuple",data:=.seq its.toArray } }:=I1.laid (t':=s.toks) (fun b o e=>E5 _ e) (E8 _) (show bz X.prog X.w _ _ _ (.tup ys)from⟨hz,its,r',IsTup.new _ _,NoD.new _ _⟩);exact⟨.ref h'.objs.size,_,I2,rfl,q _ (I1.hok.fresh (E8 _))⟩
 ·obtain⟨its,r',pl,hz⟩:=I.tuple hq;exact call_tuple_same pl ⟨.ref p,H,I,rfl,q⟩
def tyV(K:E2)(T:String)(x:V)(H:Hp):Prop:=match x with
 |.str _=>T="str"
 |.int _=>T="int"
 |.ref p=>(T="list"/\∃xs,SqL K H p xs)\/(T="tuple"/\∃o,K.lookup p=some o/\o.cls=.type "tuple"/\o.dict=none)\/
  (T="dict"/\((∃kvs,H p=some (.dK kvs))\/∃kvs,H p=some (.dT kvs)))\/(T="set"/\∃S n,H p=some (.set S n))
 |_=>False
theorem BA{pins:List (Addr×Obj)}{σ:St}{H:Hp}{s:E3}{T:String}{x:V}{v:E1}(I:Inv X pins σ H s)(r:RelV x v)(ty:tyV X.K T x H) : s.TypeIs v T/\∀a,v=.ref a->∃ob,s.heap.get? a=some ob/\ob.dict=none:=by
 cases x with
 |str z=>
  obtain⟨t,rfl⟩:=r
  cases (show T="str" from ty)
  exact⟨typeIs_str s z t,fun _ e=>nomatch e⟩
 |int i=>
  obtain⟨t,rfl⟩:=r
  cases (show T="int" from ty)
  exact⟨typeIs_int s i t,fun _ e=>nomatch e⟩
 |ref p=>
  cases r
  rcases ty with⟨rfl,xs,hq⟩|⟨rfl,o,hk,hc,hd⟩|⟨rfl,hk⟩|⟨rfl,S,n,hk⟩
  ·obtain⟨its,_,pl,_⟩:=I.list hq;refine⟨pl.isList.typeIs,fun a e=>?_⟩;cases e;obtain⟨o,n,e,c,hd,_⟩:=pl;exact⟨o,e,hd⟩
  ·refine⟨⟨o,I.kIn p o hk,hc⟩,fun a e=>?_⟩;cases e;exact⟨o,I.kIn _ o hk,hd⟩
  ·have z:∃o,s.heap.get? p=some o/\o.ExactDict:=by
    rcases hk with⟨kvs,hk⟩|⟨kvs,hk⟩
    ·obtain⟨_,_,_,_,o,_,_,e,ex,_⟩:=I.hok p _ hk;exact⟨o,e,ex⟩
    ·obtain⟨_,_,_,_,o,_,_,e,ex,_⟩:=I.hok p _ hk;exact⟨o,e,ex⟩
   obtain⟨o,e,ex⟩:=z;refine⟨⟨o,e,ex.1⟩,fun a e2=>?_⟩;cases e2;exact⟨o,e,ex.2.1⟩
  ·obtain⟨o,_,_,_,e,ex,_⟩:=I.hok p _ hk;refine⟨⟨o,e,ex.1⟩,fun a e2=>?_⟩;cases e2;exact⟨o,e,ex.2.1⟩
 |_=>exact Iv ty
def tBM(K:E2)(T:String)(r:V->List V->Hp->VK->Prop)(to:TE)(t:TA):TE:=fun σ H Q=>to σ H fun x H1=>tyV K T x H1/\t σ H1 fun xs H2=>r x xs H2 Q
variable{o e:Expr}{es:List Expr}{to:TE}{t:TA}{name:Str}{apos cpos:Pos}{T id:String}{r:V->List V->Hp->VK->Prop}
theorem wO(pa:PlainAttrs T)(slot:Slot T name id)(hty:typeOf (.builtin id)=pure (.type "method_descriptor"))(hm:MtR X id r)(ho:PE X o to)(ha:PA X (e::es) t)
 (hbase:Ik o name X.env (eval o X.env)=eval o X.env:=by rfl)
 (hfew:((GK cpos (Fc (e::es) X.env)).all (fun x=>!x.1)&&(backToKw cpos (HE [] X.env)).all (fun x=>x.1.isSome)
  && decide ((e::es).length+([]:List Iw).length+(if([]:List Iw).isEmpty then 0 else 1)<30))=true:=by rfl)
 (hline:(apos.endLine==cpos.line)=true:=by rfl) (hs:Fc (e::es) X.env=(false,eval e X.env)::Fc es X.env:=by rfl) (hplain:(GK cpos (Fc es X.env)).any (·.1)=false:=by rfl) :
 PE X (.Call (.Attribute o name apos) (e::es) [] cpos) (tBM X.K T r to t):=by
 intro pins s σ H Q I h
 refine wpAny_Call_method_late hbase hfew hline rfl (thn (ho pins s σ H _ I h) fun v s1 zz69_0=>?_)
 obtain⟨x,H1,I1,r1,ty,q1⟩:=zz69_0
 obtain⟨h1,h2⟩:=BA I1 r1 ty
 refine⟨T,id,pa,slot,hty,h1,h2,?_⟩
 have hA:=ha cpos pins s1 σ H1 _ I1 q1
 rw[hs]at hA ⊢
 refine Calls.callWith_builtin (by show(false||(GK cpos (Fc es X.env)).any (·.1))=false;rw[hplain]<;>rfl) (Calls.evalArgs_plain ?_)
 exact thn hA fun us s2 zz70_0=>by obtain⟨vs,H2,I2,r2,q2⟩:=zz70_0;exact(hm pins s2 σ H2 x vs v us Q I2 r1 r2 q2)
/- xs.append(e),list.index on a module's tuple .. are MtR facts of 06m -/
end
def MtM(X:Cx)(id:String)(r:V->List V->Hp->VK->Prop):Prop:=
 ∀(pins:List (Addr×Obj)) (s:E3) (σ:St) (H:Hp) (x:V) (xs:List V) (v:E1) (us:List E1) (Q:VK),Inv X pins σ H s->RelV x v->Vals xs us->r x xs H Q->
  EX (F6 X.prog X.w) X.A (call (.builtin id) (v::us)) (EP X pins σ Q) X.xe s
theorem Vals.one:∀{x:V} {us:List E1},Vals [x] us->∃u,us=[u]/\RelV x u
 |_,_,.cons r .nil=>⟨_,rfl,r⟩
theorem Vals.two:∀{x y:V} {us:List E1},Vals [x,y] us->∃u v,us=[u,v]/\RelV x u/\RelV y v
 |_,_,_,.cons r (.cons q .nil)=>⟨_,_,rfl,r,q⟩
theorem Vals.rep{xs:List V}{us:List E1}(h:Vals xs us):∀k:Nat,Vals (Fv k xs).flatten (Fv k us).flatten
 |0=>.nil
 |k+1=>by
  rw[GI,GI,Ie,Ie]
  exact Vals.append h (Vals.rep h k)
theorem foldl_rep(its:List E1):∀(k:Nat) (acc:List E1),
 List.foldl (fun x1 x2=>x1++x2) acc.toArray (Fv k its.toArray)=(acc++(Fv k its).flatten).toArray
 |0,acc=>by simp
 |k+1,acc=>by
  have e:acc.toArray++its.toArray=(acc++its).toArray:=by simp
  have e2:(acc++its)++(Fv k its).flatten=acc++(Fv (k+1) its).flatten:=by
   rw[GI,Ie,List.append_assoc]
  rw[<-e2,<-foldl_rep its k (acc++its),<-e,GI,List.foldl_cons]
section
variable{X:Cx}{pins:List (Addr×Obj)}{σ:St}{H:Hp}{s:E3}{l b:Addr}{xs ys zs:List V}
theorem Inv.Dc{its its':List E1}{n:Nat}{f:Array E1->Array E1}{t':Nat}(I:Inv X pins σ H s)(hH:H l=some (.lst xs))
 (e:s.heap.get? l=some { cls:=.type "list",data:=.seq its.toArray n }) (hf:f its.toArray=its'.toArray) (hv:Vals ys its') (hz:ys.length<=Fb) :
 Inv X pins σ (upd H l (.lst ys)) { s with heap:=s.heap.update l (Obj.mapSeq f),toks:=t' }:=by
 have q:=PySem.IsL.update e f
 rw[hf]at q
 refine I.write (x:=l) (e:=l) (by rw[hH];exact trivial) (.inl rfl) (fun b' u hb hu=>(FT s.heap (Obj.mapSeq f) (Ne.symm hb)).trans hu) ⟨_,q⟩ ?_
 exact⟨hz,its',_,hv,q⟩
theorem Inv.CL{its:List E1}{t':Nat}(I:Inv X pins σ H s)(hv:Vals ys its)(hz:ys.length<=Fb) : Inv X pins σ (upd H s.heap.objs.size (.lst ys)) { s with heap:=s.heap.push { cls:=.type "list",data:=.seq its.toArray },toks:=t' }:=I.laid (fun _ _ q=>E5 _ q) (E8 _) ⟨hz,its,0,hv,EY _ rfl⟩
theorem Inv.fresh(I:Inv X pins σ H s):H s.heap.objs.size=none:=I.hok.fresh (E8 _)
theorem Inv.sC(I:Inv X pins σ H s)(hH:H l=some (.lst xs)):xs.length<=Fb/\∃(its:List E1) (n:Nat),Vals xs its/\xs.length=its.length/\s.heap.get? l=some { cls:=.type "list",data:=.seq its.toArray n }:=by obtain⟨z,its,n,r,e⟩:=I.hok l _ hH;exact⟨z,its,n,r,r.length,e⟩
theorem uh{n:Nat}(h:n<=Fb):Builtin.List.listTooLong n=false:=by unfold Builtin.List.listTooLong;exact decide_eq_false (by omega)
end
section
variable{X:Cx}
def yI:V->List V->Hp->VK->Prop:=fun x vs H Q=>∃l xs y,x=.ref l/\vs=[y]/\H l=some (.lst xs)/\xs.length<Fb/\Q .non (upd H l (.lst (xs++[y])))
theorem gM:MtM X "list.append" yI:=by intro pins s σ H x vs v us Q I rx rv h;obtain⟨l,xs,y,rfl,rfl,hH,hz,q⟩:=h;cases rx;obtain⟨u,rfl,ru⟩:=rv.one;obtain⟨z,its,n,r,hl,e⟩:=I.sC hH;refine call_meets F.slot_list_append ⟨_,e,rfl⟩ F.entry_list_append (F.args_list_append_2 _ _) (PySem.list_append l its.toArray n u (by rw[Fe];omega)) ⟨e,?_⟩;refine⟨.non,_,I.Dc (its':=its++[u]) hH e (by simp) (r.append (.cons ru .nil)) ?_,rfl,q⟩;rw[Ga,List.length_singleton];omega
def ES:R2:=fun x y H Q=>∃l b xs zs,x=.ref l/\y=.ref b/\H l=some (.lst xs)/\H b=some (.lst zs)/\xs.length+zs.length<=Fb/\∀p,H p=none->Q (.ref p) (upd H p (.lst (xs++zs)))
theorem AA:OpR X (Hi .Add) ES:=by
 intro pins s σ H x y v u Q I rx ry h;obtain⟨l,b,xs,zs,rfl,rfl,hH,hB,hz,q⟩:=h;cases rx;cases ry;obtain⟨z,its,n,r,hl,e⟩:=I.sC hH;obtain⟨z2,its2,n2,r2,hl2,e2⟩:=I.sC hB;refine PySem.P.add_list e e2 ?_ (by rw[Fe,Fe];omega);have ea:its.toArray++its2.toArray=(its++its2).toArray:=by simp
 rw[ea];exact⟨.ref _,_,I.CL (t':=s.toks) (r.append r2) (by rw[Ga];omega),rfl,q _ I.fresh⟩
def EM:R2:=fun x y H Q=>∃l k xs,x=.ref l/\y=.int k/\H l=some (.lst xs)/\-(2^63)<=k/\k<2^63/\xs.length*k.toNat<=Fb/\
 ∀p,H p=none->Q (.ref p) (upd H p (.lst (Fv k.toNat xs).flatten))
theorem len_rep{α:Type}(xs:List α)(k:Nat):(Fv k xs).flatten.length=k*xs.length:=by
 induction k with
 |zero=>simp
 |succ k ih=>rw[GI,Ie,Ga,ih,Nat.succ_mul,Nat.add_comm]
theorem Ae:OpR X (Hi .Mult) EM:=by
 intro pins s σ H x y v u Q I rx ry h;obtain⟨l,k,xs,rfl,rfl,hH,h1,h2,hz,q⟩:=h;cases rx;obtain⟨t,rfl⟩:=ry;obtain⟨z,its,n,r,hl,e⟩:=I.sC hH;have hlen:its.toArray.size*k.toNat<=Fb:=by rw[Fe,<-hl];exact hz
 have hcap:¬its.toArray.size*k.toNat>(2^63-1)/8:=by
  have:(Fb:Nat)<=(2^63-1)/8:=by decide
  omega
 have hfit:¬(!Builtin.List.listFitsIndex k)=true:=by rw[fitsIndex_both h1 h2];exact F4
 have hlong:¬Builtin.List.listTooLong (its.toArray.size*k.toNat)=true:=by rw[uh hlen];exact F4
 have hnew:List.foldl (fun x1 x2=>x1++x2) #[] (Fv (if its.toArray.isEmpty=true then 0 else k.toNat) its.toArray)=(Fv k.toNat its).flatten.toArray:=by
  have f0:∀m:Nat,List.foldl (fun x1 x2=>x1++x2) #[] (Fv m its.toArray)=(Fv m its).flatten.toArray:=fun m=>by
   have:=foldl_rep its m []
   rw[List.nil_append]at this
   exact this
  rw[f0]
  cases its with
  |nil=>simp
  |cons a r'=>rw[if_neg (by simp)]
 refine wpAny_binaryOp_repeat_ref (T:="list") (U:="int") (by decide) ⟨_,e,rfl⟩ (fun s'=>typeIs_int s' k t) noFill_list_mul F.fills_int_mul F.slot_int_rmul repeat_list F.slot_int_index.lookup
  (call_meets F.slot_int_rmul (typeIs_int s k t) F.entry_int_rmul (F.args_int_rmul_2 _ _) (int___rmul___int_list k t l its.toArray n)
   ⟨e,rfl,⟨_,e,rfl⟩,call_meets F.slot_list_mul ⟨_,e,rfl⟩ F.entry_list_mul (F.args_list_mul_2 _ _) (AutoListH.list___mul___list_int_3 l its.toArray n k t hfit hcap hlong) ⟨e,?_⟩⟩)
 rw[hnew];exact⟨.ref _,_,I.CL (t':=s.toks) (r.rep k.toNat) (by rw[len_rep,Nat.mul_comm];exact hz),rfl,q _ I.fresh⟩
end
end L2
namespace Att
open PySem PySem.W PySem.Calls PyProof.Rows
theorem iE{P:Fz}{h:Heap}:∀(ns:List Int) (vs:List E1),WellAll P h vs (ns.map WData.int)->Gv vs ns:=by
 intro ns
 induction ns with
 |nil=>
  intro vs w
  rw[GR]at w
  cases w
  exact .nil
 |cons n ns ih=>
  intro vs w
  rw[EW]at w
  cases w with
  |cons a b=>
   cases a
   exact .cons _ _ (ih _ b)
theorem sX{l:OpenLaw}{n:Nat}(hn:l.most=some n){P:Fz}{h:Heap}{args:List WData}{vals:List E1}
 (hpre:l.row.toRowW.claim.pre args=true) (hwl:WellAll P h vals args) :
 ∃a vs ns,vals=[FZ a]/\args=[WData.list (ns.map WData.int)]/\h.get? a=some { cls:=.type "list",data:=.seq vs.toArray }/\Gv vs ns/\ns.length<=n:=by
 have hsh:WShape.hasAll [] args [.list .int]=true:=(pre_splitW hpre).1
 have hc:l.pre.holds [] { args:=args }=true:=(pre_splitW hpre).2
 obtain⟨d,r,rfl,h1,h2⟩:=hasAllW_cons hsh
 obtain rfl:=hasAllW_nil h2
 obtain⟨xs,rfl,h3⟩:=hasW_list h1
 obtain⟨ns,rfl⟩:=items_int h3
 have hlen:ns.length<=n:=by
  unfold OpenLaw.pre at hc
  have h4:(WTm.not (.lt (.lit (.int (n:Int))) (.len (.arg 0)))).holds [] { args:=[.list (ns.map .int)] }=true:=by
   have h4:=(holds_andW hc).1
   rw[hn]at h4
   exact h4
  have h5:=condW_of h4 (w_not (w_lt w_lit (w_len_list (w_arg rfl))))
  rw[E6]at h5
  refine Nat.le_of_not_lt fun q=>?_
  have q':(n:Int)<((ns.length:Nat):Int):=by omega
  first
   |(rw[decide_eq_true q']at h5;exact absurd h5 (by decide))
   |(simp at h5;omega)
 cases hwl with
 |cons w1 w2=>
  cases w2
  cases w1 with
  |list ho hall=>exact⟨_,_,ns,rfl,rfl,ho,iE ns _ hall,hlen⟩
theorem tq(l:OpenLaw)(args:List WData):l.row.toRowW.claim.post args (.bool true) args=true:=
 postW_of (r:=l.row.toRowW) (X:=(true==true))
  (show WShape.has [] (.bool true) .bool=true by first|rfl|decide|simp[WShape.has,WShape.arms,WShape.armsAll])
  (show(WTm.eq .res (.lit (.bool true))).value [] { args:=args,res:=some (.bool true),after:=args }=some (.bool (true==true))from w_eq_bool (w_res rfl) w_lit) rfl
theorem oK{l:OpenLaw}{n:Nat}{q:F8}{loose:List Str}{XP:(Str->Option E1)->Heap->Prop}{YP:Fy->Heap->Prop}{d:DefRec}
 (hn:l.most=some n) (hdf:d.params.defaults=[])
 (call:∀(w:Fy) (s₀ s₁:E3) (mg mb:Str->Option E1) (fa:Addr) (o:Obj) (pm cd doc:E1) (a:Addr) (vs:List E1) (ns:List Int),
  Ground q loose [] XP w s₀ mg mb s₁.heap->YP w s₁.heap->
  s₁.heap.get? fa=some o->o.data=.func (docDef d.name d.params d.body d.scope pm cd doc)->s₁.heap.CodeRec cd d.name->mg d.name=some (.ref fa)->
  s₁.heap.get? a=some { cls:=.type "list",data:=.seq vs.toArray }->Gv vs ns->ns.length<=n->s₁.gens=#[]->
  Hh (F6 l.prog w) callerA (.call (.ref fa) ⟨[.ref a],[]⟩) (fun r s'=>r=.ok (.ret (.bool true))/\OldK s₁.heap s'.heap/\s'.os=s₁.os/\AllBare s'.gens) s₁) :
 WalkO q loose XP YP l.row.toRowW d [] (fun f vs=>PySem.call f vs):=by
 intro w s₀ s₁ mg mb G Y fa o pm cd doc dV kV ho hd hcd hD hmg hg args vals as hpre hlay hrd hwl hlo
 obtain rfl:dV=.none:=Dflts.none hD hdf
 obtain rfl:kV=.none:=Dflts.noKw hD
 obtain⟨a,vs,ns,rfl,rfl,hobj,hints,hlen⟩:=sX hn hpre hwl
 refine enter_call (Ic (call w s₀ s₁ mg mb fa o pm cd doc a vs ns G Y ho (fd_plain hd) hcd hmg hobj hints hlen hg) fun r s' hq=>?_)
 obtain⟨rfl,h2,h3,h4⟩:=hq
 exact⟨.inl ⟨.bool true,.bool true,[],rfl,fun _=>rfl,.bool true,tq l _,fun _=>⟨List.Pairwise.nil,fun _ hm=>(nomatch hm)⟩⟩,h2,h3,h4⟩
section
variable{prog:F8}{w:Fy}{A:FK}{E:E1->E3->Prop}{s:E3}{K:Frag}
end
end Att
namespace L2
open PySem PySem.Spec PyProof.Rows
theorem k5:∀{vs:List E1} {ns:List Int},Gv vs ns->Vals (ns.map V.int) vs
 |_,_,.nil=>.nil
 |_,_,.cons n t h=>.cons ⟨t,rfl⟩ (k5 h)
def BP(H:Hp):Prop:=∀b,H b=none\/∃o xs,H b=some (.frz o (.lst xs))
theorem vB{P:F8}{w:Fy}{K:E2}{mg mb:Str->Option E1}{CX:CXT}{k:Nat}{fa a:Addr}{fd:Iy}{x:Str}{sp:Sp}{s₁:E3}{vs:List E1}{ns:List Int}
 (KX:K.In s₁.heap) (hns:s₁.heap.Ns Ia mg) (hb:s₁.heap.Ns builtinsNs mb) (hbb:∀x:Str,x≠"__name__"->mb x=G5 x) (hlim:s₁.heap.NoLimit) (hg:s₁.gens=#[])
 (ha:s₁.heap.get? a=some { cls:=.type "list",data:=.seq vs.toArray }) (hi:Gv vs ns) (hl:ns.length<=Fb) (hr:Room k callerA)
 (F:∀base:Heap,K.In base->base.Ns Ia mg->FnOk P w K mg base CX k fa fd [x] sp) (hbind:∀(s:E3) (u:E1),BindsTo s fd ⟨[u],[]⟩ [(x,u)])
 (hsp:∀H:Hp,BP H->SqL K H a (ns.map V.int)->sp [.ref a] H (fun v _=>v=.bl true) fun _ _ _=>False)
 (hCX:∀H e s',CX [] H s₁ (fun _ _ _=>False) e s'->False) :
 Hh (F6 P w) callerA (.call (.ref fa) ⟨[.ref a],[]⟩) (fun r s'=>r=.ok (.ret (.bool true))/\OldK s₁.heap s'.heap/\s'.os=s₁.os/\AllBare s'.gens) s₁:=by
 have rv:=k5 hi
 have lenV:=hi.length
 have core:∀H:Hp,BP H->SqL K H a (ns.map V.int)->HOk P w H s₁.heap->(∀b,H b≠none->b=a)->(H a≠none->K.lookup a=none)->
  Hh (F6 P w) callerA (.call (.ref fa) ⟨[.ref a],[]⟩) (fun r s'=>r=.ok (.ret (.bool true))/\OldK s₁.heap s'.heap/\s'.os=s₁.os/\AllBare s'.gens) s₁:=by
  intro H hO hS hok hA hK
  have base_of:∀{b:Addr} {o:Obj},s₁.heap.get? b=some o->H b=none->(mP s₁.heap H).get? b=some o:=fun e n=>vD e n
  have noA:∀{b:Addr} {o:Obj} {es:Array Gr} {ep:Nat},s₁.heap.get? b=some o->o.data=.dict es ep->H b=none:=fun{b o es ep} e d=>by
   cases q:H b with
   |none=>rfl
   |some u=>
    have e':b=a:=hA b (by rw[q];simp)
    subst e'
    rw[ha]at e;cases e
    have d':Data.seq vs.toArray _=Data.dict es ep:=d
    cases d'
  have nsK:∀{b:Addr} {m:Str->Option E1},s₁.heap.Ns b m->(mP s₁.heap H).Ns b m:=fun{b m} zz73_0=>by obtain⟨o,es,ep,e,d,r⟩:=zz73_0;exact(⟨o,es,ep,base_of e (noA e d),d,r⟩)
  have hKb:K.In (mP s₁.heap H):=fun b o e=>base_of (KX b o e) (by
   cases q:H b with
   |none=>rfl
   |some u=>
    have e':b=a:=hA b (by rw[q];simp)
    subst e'
    rw[hK (by rw[q];simp)]at e;cases e)
  have hM:Mod K mg (mP s₁.heap H):=⟨hKb,nsK hns,⟨mb,nsK hb,hbb⟩,let⟨mc,h1,h2⟩:=hlim;⟨mc,nsK h1,h2⟩⟩
  have e0:Env0 P w K mg (mP s₁.heap H) callerA [] s₁ H:=⟨rfl,hM,fun b o e=>xD e,Nat.le_of_eq (sk _ _),trivial,fun b hb=>absurd (show b∈([]:List Addr)from hb) (by simp),hok,.of_eq hg⟩
  refine Ic ((F _ hKb (nsK hns)).run callerA [] s₁ H ⟨[.ref a],[]⟩ [.ref a] [.ref a] _ _ hr e0 (hbind s₁ (.ref a)) (.cons rfl .nil) (hsp H hO hS)) fun r s' h=>?_
  cases r with
  |error e=>exact(hCX H e s' h).elim
  |ok fl=>
   cases fl with
   |next=>exact Iv h
   |brk=>exact Iv h
   |cont=>exact Iv h
   |ret u=>
    obtain⟨v,H',os,bare,un,hok',r',q⟩:=h
    have q':v=.bl true:=q
    subst q'
    obtain rfl:u=HM true:=r'
    refine⟨rfl,OldK.of_keep fun b o e=>?_,os,bare⟩
    cases q:H b with
    |none=>exact un.keep b o e q (by intro z;exact absurd (show b∈([]:List Addr)from z) (by simp)) (by simp)
    |some u=>
     rcases hO b with z|⟨ob,xs,z⟩
     ·rw[q]at z;cases z
     ·have z2:=un.frzs b ob _ z
      obtain⟨e1,_⟩:=hok b _ z
      obtain⟨e2,_⟩:=hok' b _ z2
      rw[e]at e1;cases e1
      exact e2
 cases hk:K.lookup a with
 |some o=>
  have e:=KX a o hk
  rw[ha]at e
  cases e
  refine core (fun _=>none) (fun _=>.inl rfl) (.inr ⟨_,vs.toArray,_,hk,rfl,rfl,rfl,by rw[Fe,lenV];exact hl,by simpa using rv⟩) (fun b u z=>by have z':(none:Option HO)=some u:=z;cases z') (fun b z=>absurd rfl z) fun z=>absurd rfl z
 |none=>
  refine core (fun b=>if b=a then some (.frz { cls:=.type "list",data:=.seq vs.toArray } (.lst (ns.map V.int)))else none) (fun b=>?_) (.inl (.inr ⟨{ cls:=.type "list",data:=.seq vs.toArray },if_pos rfl⟩)) (fun b u z=>?_) (fun b z=>?_) fun _=>hk
  ·by_cases hb:b=a
   ·exact .inr ⟨_,_,if_pos hb⟩
   ·exact .inl (if_neg hb)
  ·by_cases hb:b=a
   ·have z':=(if_pos hb).symm.trans z
    cases z'
    subst hb
    exact⟨ha,by rw[E6];exact hl,vs,_,rv,ha⟩
   ·have z':=(if_neg hb).symm.trans z
    cases z'
  ·by_cases hb:b=a
   ·exact hb
   ·exact absurd (if_neg hb) z
abbrev KOf{K:E2}{h:Heap}(_:K.In h):E2:=K
theorem xS{l:PySem.W.OpenLaw}{n k:Nat}{q:F8}{loose:List Str}{XP:(Str->Option E1)->Heap->Prop}{YP:Fy->Heap->Prop}{d:DefRec}{K:Fz->E2}{CX:Fy->CXT}{sp:Fy->Sp}{x:Str}
 (hn:l.most=some n) (hn2:n<=Fb) (hdf:d.params.defaults=[]) (hr:Room k callerA)
 (hY:∀(w:Fy) (h:Heap),YP w h->(K w.params).In h)
 (F:∀(w:Fy) (mg:Str->Option E1) (fa:Addr) (h:Heap),(K w.params).In h->h.Ns Ia mg->mg d.name=some (.ref fa)->
  ∃fd:Iy,(∀(s:E3) (u:E1),BindsTo s fd ⟨[u],[]⟩ [(x,u)])/\
   ∀base:Heap,(K w.params).In base->base.Ns Ia mg->FnOk l.prog w (K w.params) mg base (CX w) k fa fd [x] (sp w))
 (hsp:∀(w:Fy) (H:Hp) (a:Addr) (ns:List Int),ns.length<=n->BP H->SqL (K w.params) H a (ns.map V.int)->sp w [.ref a] H (fun v _=>v=.bl true) fun _ _ _=>False)
 (hCX:∀(w:Fy) (H:Hp) (s:E3) (e:E1) (s':E3),CX w [] H s (fun _ _ _=>False) e s'->False) :
 PySem.W.WalkO q loose XP YP l.row.toRowW d [] (fun f vs=>PySem.call f vs):=by
 refine Att.oK hn hdf fun w s₀ s₁ mg mb fa o pm cd doc a vs ns G Y ho hd hcd hmg hobj hints hlen hg=>?_
 have KX:=hY w _ Y
 obtain⟨fd,hb,hF⟩:=F w mg fa _ KX G.T.g hmg
 exact vB KX G.T.g G.T.b G.T.builtins G.T.nolimit hg hobj hints (Gp hlen hn2) hr hF hb (fun H hO hS=>hsp w H a ns hlen hO hS) fun H e s'=>hCX w H s₁ e s'
def bO(s:Stmt):Arguments:=match s with
 |.FunctionDef _ a _ _ _ _ _ _ _ _=>a
 |_=>{ posonlyargs:=[],args:=[],vararg:=none,kwonlyargs:=[],kw_defaults:=[],kwarg:=none,defaults:=[] }
def aQ(s:Stmt):List Stmt:=match s with
 |.FunctionDef _ _ b _ _ _ _ _ _ _=>b
 |_=>[]
def ao(s:Stmt):HN:=match s with
 |.FunctionDef _ _ _ _ _ _ sc _ _ _=>sc
 |_=>{ kind:=.function,names:=[],isGenerator:=false,isCoroutine:=false }
abbrev CX0:CXT:=fun _ _ _ _ _ _=>False
abbrev E0:XK:=fun _ _ _=>False
theorem Cg{X:Cx}:Passes CX0 X E0:=fun _ _ _ _ _ _ _ h=>h.elim
structure Fun(K:E2)(x qual:Str)(st:Stmt)(f:Addr)(fd:Iy):Prop where
 ex:∃(oc:E1) (od:Option Addr) (kV doc pm:E1) (an:Option Addr) (cdv ct:E1) (osl:Array (Option E1)),
  fd=GP x qual (bO st) (aQ st) (ao st) .none kV doc pm an cdv ct/\K.lookup f=some ⟨oc,od,.func fd,osl⟩/\PySem.W.codeIn K cdv qual=true
 kp:PySem.W.keepIn K (.ref f)=true
section
variable{P:F8}{w:Fy}{K:E2}{mg:Str->Option E1}{base:Heap}
theorem Fun.ok{x qual:Str}{st:Stmt}{f:Addr}{fd:Iy}{N ps:List Str}{k:Nat}{sp:Sp}(F:Fun K x qual st f fd)(S:FnScope N ps (ao st))(len:∀vs H Q E,sp vs H Q E->vs.length=ps.length)
 (hbody:∀(cdv:E1) (A:FK) (outer:List Env) (s:E3) (H:Hp) (vs:List V) (Q:VK) (E:XK),Room k (A.deeper (envOfC qual (ao st) s.heap.objs.size f cdv))->sp vs H Q E->
  ∃t,PSs (ia CX0 P w K mg base N qual (ao st) f cdv A outer s H E).nox (aQ st) t/\t { nx:=fun _ H'=>Q .non H',rt:=Q } (start N vs) H):FnOk P w K mg base CX0 (k+1) f fd ps sp:=by
 obtain⟨oc,od,kV,doc,pm,an,cdv,ct,osl,rfl,lk,hcd⟩:=F.ex
 refine Df lk hcd S len fun A outer s H vs Q E hr hsp=>?_
 obtain⟨t,h,q⟩:=hbody cdv A outer s H vs Q E hr hsp
 exact⟨t,h.nox,q⟩
theorem Fun.binds{x qual:Str}{st:Stmt}{f:Addr}{fd:Iy}{ps:List Str}(F:Fun K x qual st f fd) (h:∀(kV doc pm:E1) (an:Option Addr) (cdv ct:E1) (us:List E1),us.length=ps.length->bindArgs (GP x qual (bO st) (aQ st) (ao st) .none kV doc pm an cdv ct) ⟨us,[]⟩=pure (ps.zip us)):Binds K fd ps []:=by obtain⟨oc,od,kV,doc,pm,an,cdv,ct,osl,rfl,lk,hcd⟩:=F.ex;exact .all (h kV doc pm an cdv ct)
theorem Ar{x qual:Str}{st:Stmt}{f:Addr}{oc:E1}{od an:Option Addr}{osl:Array (Option E1)}{kV doc pm cdv ct:E1}(l:K.lookup f=some ⟨oc,od,.func (GP x qual (bO st) (aQ st) (ao st) .none kV doc pm an cdv ct),osl⟩) (c:PySem.W.codeIn K cdv qual=true) (k:PySem.W.keepIn K (.ref f)=true):Fun K x qual st f (GP x qual (bO st) (aQ st) (ao st) .none kV doc pm an cdv ct):=⟨⟨oc,od,kV,doc,pm,an,cdv,ct,osl,rfl,l,c⟩,k⟩
end
theorem A8{A B:Prop}(h:A):if true=true then A else B:=by rw[if_pos rfl];exact h
theorem bS{c A B:Prop}[Decidable c](h1:c->A)(h2:¬c->B):if c then A else B:=by
 by_cases h:c
 ·rw[if_pos h];exact h1 h
 ·rw[if_neg h];exact h2 h
section
variable{κ:Type}[DecidableEq κ]
def dI(kvs:List (κ×V))(k:κ):Option V:=(kvs.find? fun kv=>decide (kv.1=k)).map (·.2)
def putK(kvs:List (κ×V))(k:κ)(v:V):List (κ×V):=
 if(kvs.any fun kv=>decide (kv.1=k))=true then kvs.map (fun kv=>if kv.1=k then(kv.1,v)else kv)else kvs++[(k,v)]
theorem bM{p:κ×V}{r:List (κ×V)}{k:κ}(e:p.1=k):dI (p::r) k=some p.2:=by simp[dI,FA,e]
theorem bI{p:κ×V}{r:List (κ×V)}{k:κ}(e:¬p.1=k):dI (p::r) k=dI r k:=by simp[dI,FA,e]
theorem c8(k:κ):∀kvs:List (κ×V),(kvs.any fun kv=>decide (kv.1=k))=(dI kvs k).isSome
 |[]=>rfl
 |p::r=>by
  rw[HF]
  by_cases e:p.1=k
  ·simp only[bM e,decide_eq_true e,Bool.true_or,Option.isSome_some]
  ·rw[bI e,decide_eq_false e,Bool.false_or];exact c8 k r
theorem nN(k j:κ)(y:V):∀kvs:List (κ×V),dI (kvs.map fun kv=>if kv.1=k then(kv.1,y)else kv) j=(dI kvs j).map fun x=>if j=k then y else x
 |[]=>rfl
 |p::r=>by
  have ih:=nN k j y r
  rw[EW]
  by_cases h:p.1=k
  ·rw[if_pos h]
   by_cases e:p.1=j
   ·rw[bM (p:=(p.1,y)) e,bM e,Option.map_some,if_pos (e.symm.trans h)]
   ·rw[bI (p:=(p.1,y)) e,bI e,ih]
  ·rw[if_neg h]
   by_cases e:p.1=j
   ·rw[bM (p:=p) e,bM e,Option.map_some,if_neg (fun z=>h (e.trans z))]
   ·rw[bI (p:=p) e,bI e,ih]
theorem kX(k j:κ)(y:V):∀kvs:List (κ×V),dI kvs k=none->dI (kvs++[(k,y)]) j=if j=k then some y else dI kvs j
 |[],_=>by
  by_cases e:k=j
  ·rw[if_pos e.symm];exact bM (p:=(k,y)) e
  ·rw[if_neg (fun z=>e z.symm)];exact bI (p:=(k,y)) e
 |p::r,hn=>by
  rw[List.cons_append]
  have hk:¬p.1=k:=fun z=>by rw[bM z]at hn;cases hn
  rw[bI hk]at hn
  have ih:=kX k j y r hn
  by_cases e:p.1=j
  ·rw[bM e,bM e,if_neg (fun z=>hk (e.trans z))]
  ·rw[bI e,bI e,ih]
theorem uW(kvs:List (κ×V))(k j:κ)(y:V):dI (putK kvs k y) j=if j=k then some y else dI kvs j:=by
 unfold putK;by_cases a:(kvs.any fun kv=>decide (kv.1=k))=true
 ·rw[if_pos a,nN];rw[c8]at a;by_cases e:j=k
  ·obtain⟨x,hx⟩:=Option.isSome_iff_exists.mp a;rw[if_pos e,e,hx,Option.map_some,if_pos rfl]
  ·rw[if_neg e];cases dI kvs j with
   |none=>rfl
   |some x=>rw[Option.map_some,if_neg e]
 ·rw[if_neg a];refine kX k j y kvs ?_;rw[c8]at a;cases q:dI kvs k with
  |none=>rfl
  |some x=>rw[q]at a;exact(a rfl).elim
theorem eV(kvs:List (κ×V))(k:κ)(v:V):(putK kvs k v).length<=kvs.length+1:=by
 unfold putK;split
 ·rw[E6];omega
 ·rw[Ga,Fi,Gb];omega
theorem sS.ib{o:Option V}{u:Option E1}(r:sS o u):o.isSome=u.isSome:=by
 cases o with
 |none=>cases u with
  |none=>rfl
  |some _=>exact(show False from r).elim
 |some _=>cases u with
  |none=>exact(show False from r).elim
  |some _=>rfl
theorem KV.val{kvs:List (κ×V)}{vs:List (κ×E1)}(r:KV kvs vs)(k:κ):sS (dI kvs k) (valueAt vs k):=by
 unfold KV at r
 induction r with
 |nil=>exact Il
 |@cons p q ps qs h t ih=>
  obtain⟨h1,h2⟩:=h
  by_cases e:p.1=k
  ·have e':q.1=k:=h1.symm.trans e;have b:valueAt (q::qs) k=some q.2:=by simp[valueAt,FA,e']
   rw[bM e,b];exact h2
  ·have e':¬q.1=k:=fun z=>e (h1.trans z);have b:valueAt (q::qs) k=valueAt qs k:=by simp[valueAt,FA,e']
   rw[bI e,b];exact ih
theorem KV.any{kvs:List (κ×V)}{vs:List (κ×E1)}(r:KV kvs vs)(k:κ):(kvs.any fun kv=>decide (kv.1=k))=vs.any fun kv=>decide (kv.1=k):=by
 unfold KV at r
 induction r with
 |nil=>rfl
 |cons h t ih=>rw[HF,HF,ih,h.1]
theorem KV.Ap{kvs:List (κ×V)}{vs:List (κ×E1)}(r:KV kvs vs)(k:κ){y:V}{u:E1}(ry:RelV y u) :
 KV (kvs.map fun kv=>if kv.1=k then(kv.1,y)else kv) (vs.map fun kv=>if kv.1=k then(kv.1,u)else kv):=by
 unfold KV at r ⊢
 induction r with
 |nil=>exact .nil
 |@cons p q ps qs h t ih=>
  rw[EW,EW]
  refine .cons ?_ ih
  obtain⟨h1,h2⟩:=h
  by_cases e:p.1=k
  ·rw[if_pos e,if_pos (h1.symm.trans e)];exact⟨h1,ry⟩
  ·rw[if_neg e,if_neg (fun z=>e (h1.trans z))];exact⟨h1,h2⟩
theorem KV.put{kvs:List (κ×V)}{vs:List (κ×E1)}(r:KV kvs vs)(k:κ){y:V}{u:E1}(ry:RelV y u):KV (putK kvs k y) (stored vs k u):=by
 unfold putK stored;rw[r.any k];by_cases e:(vs.any fun kv=>decide (kv.1=k))=true
 ·rw[if_pos e,if_pos e];exact r.Ap k ry
 ·rw[if_neg e,if_neg e];exact Paired.snoc r ⟨rfl,ry⟩
theorem KV.length{kvs:List (κ×V)}{vs:List (κ×E1)}(r:KV kvs vs):kvs.length=vs.length:=Paired.length r
end
theorem wF{P:F8}{w:Fy}{k:Key}{u:E1}(r:RelV (kV k) u):(bA P w).is k u=true:=by
 cases k with
 |inl i=>obtain⟨t,e⟩:=(show ∃t,u=Value.int i t from r);subst e;exact oN P w i t
 |inr x=>obtain⟨t,e⟩:=(show ∃t,u=Value.str x t from r);subst e;exact nU P w x t
theorem lK{P:F8}{w:Fy}:∀{ks:List Key} {us:List E1},Vals (ks.map kV) us->ItemsAre (bA P w) ks us
 |[],_,r=>by rw[GR]at r;cases r;exact .nil
 |k::ks,_,r=>by
  rw[EW]at r
  cases r with
  |cons h t=>exact .cons (wF h) (lK t)
abbrev KT(H:Hp):List (List Key×V)->List (List Key×Addr×E1)->Prop:=Iz fun p q=>p.1=q.1/\H q.2.1=some (.tup (p.1.map kV))/\RelV p.2 q.2.2
theorem KT.val{H:Hp}{kvs:List (List Key×V)}{xs:List (List Key×Addr×E1)}(r:KT H kvs xs)(k:List Key):sS (dI kvs k) ((atKey xs k).map (·.2)):=by
 induction r with
 |nil=>exact Il
 |@cons p q ps qs h t ih=>
  obtain⟨h1,_,h2⟩:=h
  by_cases e:p.1=k
  ·have e':q.1=k:=h1.symm.trans e;have b:atKey (q::qs) k=some q.2:=by simp[atKey,FA,e']
   rw[bM e,b];exact h2
  ·have e':¬q.1=k:=fun z=>e (h1.trans z);have b:atKey (q::qs) k=atKey qs k:=by simp[atKey,FA,e']
   rw[bI e,b];exact ih
theorem KT.Ap{H:Hp}{kvs:List (List Key×V)}{xs:List (List Key×Addr×E1)}(r:KT H kvs xs)(k:List Key){y:V}{u:E1}(ry:RelV y u) :
 KT H (kvs.map fun kv=>if kv.1=k then(kv.1,y)else kv) (xs.map (putAt k u)):=by
 induction r with
 |nil=>exact .nil
 |@cons p q ps qs h t ih=>
  rw[EW,EW]
  refine .cons ?_ ih
  obtain⟨h1,h2,h3⟩:=h
  unfold putAt
  by_cases e:p.1=k
  ·rw[if_pos e,if_pos (h1.symm.trans e)];exact⟨h1,h2,ry⟩
  ·rw[if_neg e,if_neg (fun z=>e (h1.trans z))];exact⟨h1,h2,h3⟩
theorem KT.put{H:Hp}{kvs:List (List Key×V)}{xs:List (List Key×Addr×E1)}(r:KT H kvs xs)(k:List Key){b:Addr}{y:V}{u:E1}(hb:H b=some (.tup (k.map kV)))(ry:RelV y u) :
 KT H (putK kvs k y) (storedH xs k b u):=by
 have e:(kvs.any fun kv=>decide (kv.1=k))=(atKey xs k).isSome:=by
  rw[c8,(r.val k).ib,Option.isSome_map]
 unfold putK storedH
 rw[e]
 by_cases q:(atKey xs k).isSome=true
 ·rw[if_pos q,if_pos q];exact r.Ap k ry
 ·rw[if_neg q,if_neg q];exact Paired.snoc r ⟨rfl,hb,ry⟩
theorem KT.keeps{H H':Hp}{kvs:List (List Key×V)}{xs:List (List Key×Addr×E1)}(r:KT H kvs xs)(ht:∀b ys,H b=some (.tup ys)->H' b=some (.tup ys)):KT H' kvs xs:=Paired.BZ r fun _ _ z=>⟨z.1,ht _ _ z.2.1,z.2.2⟩
section
variable{P:F8}{w:Fy}{H:Hp}{h:Heap}{a:Addr}
theorem zq{u:HO}(ok:HOk P w H h)(e:Rd H a u):bz P w H h a u:=e.ok ok
theorem zJ{kvs:List (Key×V)}(ok:HOk P w H h)(e:Rd H a (.dK kvs)):kvs.length<=Fb/\(a==GU)=false/\∃vs,KV kvs vs/\h.DictOf (bA P w) a vs:=show bz P w H h a (.dK kvs)from zq ok e
theorem Dj{kvs:List (Key×V)}(ok:HOk P w H h)(e:H a=some (.dK kvs)):kvs.length<=Fb/\(a==GU)=false/\∃vs,KV kvs vs/\h.DictOf (bA P w) a vs:=zJ ok (.inl e)
theorem qd{ks:List Key}(ok:HOk P w H h)(e:H a=some (.tup (ks.map kV))):(tupleKind (bA P w)).is h ks a:=by obtain⟨_,its,r,⟨o,h1,h2,n,h3⟩,_⟩:=(show bz P w H h a (.tup (ks.map kV))from ok a _ e);exact⟨o,its.toArray,n,h1,h2,h3,by simpa using lK r⟩
theorem zG{kvs:List (List Key×V)}(ok:HOk P w H h)(e:Rd H a (.dT kvs)):kvs.length<=Fb/\(a==GU)=false/\
 ∃xs,KT H kvs xs/\h.DictOfH (tupleKind (bA P w)) a xs:=by
 obtain⟨z,y,xs,r,o,es,ep,h1,h2,h3,h4,h5⟩:=(show bz P w H h a (.dT kvs)from zq ok e)
 refine⟨z,y,xs,r,o,es,ep,h1,h2,h3,h4,fun x hx=>?_,h5⟩
 have all:∀{l:List (List Key×V)} {m:List (List Key×Addr×E1)},KT H l m->∀x∈m,(tupleKind (bA P w)).is h x.1 x.2.1:=by
  intro l m q
  induction q with
  |nil=>intro x hx;exact nomatch hx
  |@cons p q ps qs hq t ih=>
   intro x hx
   rcases FN.mp hx with e|hx
   ·subst e
    exact qd ok (by rw[<-hq.1];exact hq.2.1)
   ·exact ih x hx
 exact all r x hx
theorem C4{kvs:List (List Key×V)}(ok:HOk P w H h)(e:H a=some (.dT kvs)):kvs.length<=Fb/\(a==GU)=false/\∃xs,KT H kvs xs/\h.DictOfH (tupleKind (bA P w)) a xs:=zG ok (.inl e)
end
def AY(H:Hp)(a:Addr)(y:V)(r:Option V):Prop:=
 (∃kvs k,Rd H a (.dK kvs)/\y=kV k/\r=dI kvs k)\/∃kvs k b,Rd H a (.dT kvs)/\y=.ref b/\H b=some (.tup (k.map kV))/\r=dI kvs k
def D9(H:Hp)(a:Addr)(y v:V)(H':Hp):Prop:=
 (∃kvs k,H a=some (.dK kvs)/\y=kV k/\kvs.length<Fb/\H'=upd H a (.dK (putK kvs k v)))\/
 ∃kvs k b,H a=some (.dT kvs)/\y=.ref b/\H b=some (.tup (k.map kV))/\kvs.length<Fb/\H'=upd H a (.dT (putK kvs k v))
section
variable{X:Cx}{pins:List (Addr×Obj)}{σ:St}{H:Hp}{s:E3}{a:Addr}{y v:V}{u r:E1}{o:Option V}{A:FK}{E:E1->E3->Prop}
theorem Inv.big(I:Inv X pins σ H s):GU<s.heap.objs.size:=by have h:Ia<s.heap.objs.size:=(I.mod.glob.keeps I.bk).lt;exact Nat.lt_trans (by decide) h
theorem yz{Q:E1->E3->Prop}(hu:A.units+1<G0)(I:Inv X pins σ H s)(g:AY H a y o)(ry:RelV y u)(h:∀s',Inv X pins σ H s'->Q (.bool (!o.isSome)) s') : EX (F6 X.prog X.w) A (FC .NotIn u (.ref a)) Q E s:=by
 rcases g with⟨kvs,k,e,ey,l⟩|⟨kvs,k,b,e,ey,eb,l⟩
 ·subst ey;obtain⟨z,hd,vs,rel,dd⟩:=zJ I.hok e;refine wpAny_notIn_of (wF ry) hd dd.mapOf ?_;rw[<-(rel.val k).ib,<-l];exact h _ (I.tok _)
 ·subst ey;cases (show u=FZ b from ry);obtain⟨z,hd,xs,rel,dd⟩:=zG I.hok e;refine wpAny_notIn_heap (tupleKind_room_in1 hu) (qd I.hok eb) hd dd ?_;have q:=(rel.val k).ib;rw[Option.isSome_map]at q;rw[<-q,<-l];exact h _ (I.tok _)
theorem gn{h':Heap}{t':Nat}{ob:HO}(I:Inv X pins σ H s)(mu:Mut (H a))(hs:GO a s.heap h')(he:∃q,h'.get? a=some q)(new:bz X.prog X.w (upd H a ob) h' a ob) : Inv X pins σ (upd H a ob) { s with heap:=h',toks:=t' }:=I.write (x:=a) (e:=a) mu (.inl rfl) (fun b q hb z=>(hs.2 b hb).trans z) he new
theorem BI{P:F8}{w:Fy}{H':Hp}{h':Heap}{kvs:List (Key×V)}{vs:List (Key×E1)}(z:kvs.length<=Fb)(hd:(a==GU)=false)(rel:KV kvs vs)(dd:h'.DictOf (bA P w) a vs) : bz P w H' h' a (.dK kvs):=⟨z,hd,vs,rel,dd⟩
theorem tM{H':Hp}{Q:Unit->E3->Prop}(hu:A.units+1<G0)(I:Inv X pins σ H s)(g:D9 H a y v H')(ry:RelV y u)(rv:RelV v r)(h:∀s',Inv X pins σ H' s'->Q () s') : EX (F6 X.prog X.w) A (setItem (.ref a) u r) Q E s:=by
 rcases g with⟨kvs,k,e,ey,l,eH⟩|⟨kvs,k,b,e,ey,eb,l,eH⟩
 ·subst ey eH;obtain⟨z,hd,vs,rel,dd⟩:=Dj I.hok e;have hz:vs.length<=Fb:=by rw[<-rel.length];exact z
  have hl:(putK kvs k v).length<=Fb:=by have:=eV kvs k v;omega
  refine wpAny_setItem_pairs (hsz:=hz) (wF ry) dd fun h' dd' hs=>h _ ?_;have he:∃q,h'.get? a=some q:=let⟨q,_,_,hq,_⟩:=dd';⟨q,hq⟩
  exact gn I (by rw[e];exact Il) hs he (BI hl hd (rel.put k rv) dd')
 ·subst ey eH;cases (show u=FZ b from ry);obtain⟨z,hd,xs,rel,dd⟩:=C4 I.hok e;have hz:xs.length<=Fb:=by rw[<-Paired.length rel];exact z
  have hl:(putK kvs k v).length<=Fb:=by have:=eV kvs k v;omega
  refine wpAny_setItem_heap (hsz:=hz) (tupleKind_room_in1 hu) (qd I.hok eb) dd fun h' dd' hs=>h _ ?_;obtain⟨q,es,ep,hq,h2,h3,h4,_,h5⟩:=dd';refine gn I (by rw[e];exact Il) hs ⟨q,hq⟩ ⟨hl,hd,_,(rel.put k eb rv).keeps fun c ys ec=>?_,q,es,ep,hq,h2,h3,h4,h5⟩;rw[aK (Dm ec e (fun z=>nomatch z))];exact ec
end
def DN(i:Expr):Prop:=∀ov iv,subscripted i false ov iv=operate [ov,iv] (getItem ov iv)
def yj(ty td:TE):TE:=fun σ H Q=>ty σ H fun y H1=>td σ H1 fun x H2=>∃a o,x=.ref a/\AY H2 a y o/\Q (.bl (!o.isSome)) H2
def C1(td ty tv:TE):TS:=fun D σ H=>tv σ H fun v H1=>td σ H1 fun x H2=>ty σ H2 fun y H3=>∃a H4,x=.ref a/\D9 H3 a y v H4/\D.nx σ H4
section
variable{X:Cx}{o i e value:Expr}{pos pos' tpos:Pos}{td ty tv:TE}
theorem sN(hu:X.A.units+1<G0)(hi:PE X i ty)(ho:PE X o td):PC X .NotIn i o (yj ty td):=by intro pins s σ H Q I h;refine thn (hi pins s σ H _ I h) fun iv s1 ⟨y,H1,I1,ry,q1⟩=>thn (ho pins s1 σ H1 _ I1 q1) fun u s2 ⟨x,H2,I2,rx,a,ov,ex,g,q2⟩=>?_;subst ex;obtain rfl:u=FZ a:=rx;exact yz hu I2 g ry fun s3 I3=>⟨.bl (!ov.isSome),H2,I3,rfl,q2⟩
theorem ya(hu:X.A.units+1<G0)(ho:PE X o td)(hi:PE X i ty)(hv:PE X value tv)(hs:HI value (some (.Subscript o i pos')) pos.line X.env=pure false) : PS X (.Assign [.Subscript o i pos'] value pos) (C1 td ty tv):=by intro pins s σ H D I h;refine wpAny_Assign_Subscript (thn (hv pins s σ H _ I h) fun r s1 ⟨v,H1,I1,rv,q1⟩=>thn (ho pins s1 σ H1 _ I1 q1) fun u s2 ⟨x,H2,I2,rx,q2⟩=>thn (hi pins s2 σ H2 _ I2 q2) fun iv s3 ⟨y,H3,I3,ry,a,H4,ex,g,q3⟩=>?_) hs;subst ex;obtain rfl:u=FZ a:=rx;exact tM hu I3 g ry rv fun s4 I4=>⟨σ,H4,I4,q3⟩
end
theorem t7{P:F8}{w:Fy}{H:Hp}(h:Heap)(hb:GU<h.objs.size):bz P w H (h.push { cls:=.type "dict",data:=.dict #[] }) h.objs.size (.dK []):=⟨FQ _,beq_eq_false_iff_ne.mpr (Ne.symm (Fs hb)),[],.nil,Heap.DictOf.new h⟩
def Bo:TE:=fun _ H Q=>∀p,H p=none->Q (.ref p) (upd H p (.dK []))
section
variable{X:Cx}{pos:Pos}
theorem wa:PE X (.Dict [] [] pos) Bo:=fun pins s σ H Q I h=>wpAny_Dict_empty ⟨.ref s.heap.objs.size,_,I.laid (a:=s.heap.objs.size) (o:=.dK []) (t':=s.toks) (fun _ _ q=>E5 _ q) (E8 _) (t7 s.heap I.big),rfl,h _ (I.hok.fresh (E8 _))⟩
end
end L2
namespace SD
theorem BB{α:Type}{l:List α}(h:l.length=1):∃a,l=[a]:=by
 cases l with
 |nil=>cases h
 |cons a l=>
  cases l with
  |nil=>exact⟨a,rfl⟩
  |cons b l=>cases h
theorem Ee{α:Type}{n:Nat}{l:List α}(h:l.length=n+1):∃a r,l=a::r/\r.length=n:=by
 cases l with
 |nil=>cases h
 |cons a l=>exact⟨a,l,rfl,Nat.succ.inj h⟩
theorem xI{α:Type}{l:List α}(h:l.length=2):∃a b,l=[a,b]:=by obtain⟨a,r,rfl,h2⟩:=Ee h;obtain⟨b,rfl⟩:=BB h2;exact⟨a,b,rfl⟩
open PySem PySem.Spec PyProof.Rows L2
inductive D where
 |non|bl (b:Bool)|int (i:Int)|str (x:Str)|ty (n:String)|ref (a:Addr)|rol (ds:List D)|tup (ds:List D)
def SqF(K:E2)(H:Hp)(a:Addr)(xs:List V):Prop:=
 (∃o,H a=some (.frz o (.lst xs)))\/
  ∃(o:Obj) (its:Array E1) (n:Nat),K.lookup a=some o/\o.cls=.type "list"/\o.dict=none/\o.data=.seq its n/\its.size<=Fb/\Vals xs its.toList
theorem SqF.sql{K:E2}{H:Hp}{a:Addr}{xs:List V}(h:SqF K H a xs):SqL K H a xs:=by
 rcases h with h|h
 ·exact .inl (.inr h)
 ·exact .inr h
mutual
def Rep(K:E2)(H:Hp):D->V->Prop
 |.non,v=>v=.non
 |.bl b,v=>v=.bl b
 |.int i,v=>v=.int i
 |.str x,v=>v=.str x
 |.ty n,v=>v=.ty n
 |.ref a,v=>v=.ref a
 |.rol ds,v=>∃a xs,v=.ref a/\SqF K H a xs/\aB K H ds xs
 |.tup ds,v=>∃a xs,v=.ref a/\SqT K H a xs/\aB K H ds xs
def aB(K:E2)(H:Hp):List D->List V->Prop
 |[],xs=>xs=[]
 |d::ds,xs=>∃x r,xs=x::r/\Rep K H d x/\aB K H ds r
end
structure Grow(K:E2)(H H':Hp):Prop where
 t:∀a xs,SqT K H a xs->SqT K H' a xs
 f:∀a xs,SqF K H a xs->SqF K H' a xs
theorem Grow.refl{K:E2}{H:Hp}:Grow K H H:=⟨fun _ _ h=>h,fun _ _ h=>h⟩
theorem Grow.trans{K:E2}{H H1 H2:Hp}(a:Grow K H H1)(b:Grow K H1 H2):Grow K H H2:=⟨fun x y h=>b.t x y (a.t x y h),fun x y h=>b.f x y (a.f x y h)⟩
theorem Grow.put{K:E2}{H:Hp}{p:Addr}{o:HO}(h1:∀xs,H p≠some (.tup xs))(h2:∀u xs,H p≠some (.frz u xs)):Grow K H (upd H p o):=by
 refine⟨fun a xs h=>?_,fun a xs h=>?_⟩
 ·rcases h with(h|⟨u,h⟩)|h
  ·exact .inl (.inl (by rw[aK (by intro e;subst e;exact h1 _ h)];exact h))
  ·exact .inl (.inr ⟨u,by rw[aK (by intro e;subst e;exact h2 _ _ h)];exact h⟩)
  ·exact .inr h
 ·rcases h with⟨u,h⟩|h
  ·exact .inl ⟨u,by rw[aK (by intro e;subst e;exact h2 _ _ h)];exact h⟩
  ·exact .inr h
theorem Grow.new{K:E2}{H:Hp}{p:Addr}{o:HO}(h:H p=none):Grow K H (upd H p o):=.put (fun xs e=>by rw[h]at e;cases e) (fun u xs e=>by rw[h]at e;cases e)
theorem Grow.lst{K:E2}{H:Hp}{p:Addr}{o:HO}{xs:List V}(h:H p=some (.lst xs)):Grow K H (upd H p o):=.put (fun ys e=>by rw[h]at e;cases e) (fun u ys e=>by rw[h]at e;cases e)
mutual
theorem Rep.mono{K:E2}{H H':Hp}(g:Grow K H H'):∀{d:D} {v:V},Rep K H d v->Rep K H' d v
 |.non,_,h=>h
 |.bl _,_,h=>h
 |.int _,_,h=>h
 |.str _,_,h=>h
 |.ty _,_,h=>h
 |.ref _,_,h=>h
 |.rol ds,_,h=>by
  rw[Rep]at h ⊢
  obtain⟨a,xs,e,h1,h2⟩:=h
  exact⟨a,xs,e,g.f _ _ h1,aB.mono g h2⟩
 |.tup ds,_,h=>by
  rw[Rep]at h ⊢
  obtain⟨a,xs,e,h1,h2⟩:=h
  exact⟨a,xs,e,g.t _ _ h1,aB.mono g h2⟩
theorem aB.mono{K:E2}{H H':Hp}(g:Grow K H H'):∀{ds:List D} {xs:List V},aB K H ds xs->aB K H' ds xs
 |[],_,h=>h
 |d::ds,_,h=>by
  rw[aB]at h ⊢
  obtain⟨x,r,e,h1,h2⟩:=h
  exact⟨x,r,e,Rep.mono g h1,aB.mono g h2⟩
end
section
variable{K:E2}{H H':Hp}
theorem aB.nil:aB K H [] []:=by rw[aB]
theorem aB.cons{d:D}{ds:List D}{x:V}{r:List V}(a:Rep K H d x)(b:aB K H ds r):aB K H (d::ds) (x::r):=by rw[aB];exact⟨x,r,rfl,a,b⟩
theorem aB.length:∀{ds:List D} {xs:List V},aB K H ds xs->ds.length=xs.length
 |[],xs,h=>by rw[aB]at h;subst h;rfl
 |d::ds,xs,h=>by
  rw[aB]at h
  obtain⟨x,r,rfl,_,h2⟩:=h
  simp[aB.length h2]
theorem aB.get:∀{ds:List D} {xs:List V} {i:Nat} {d:D},aB K H ds xs->ds[i]?=some d->∃x,xs[i]?=some x/\Rep K H d x
 |[],_,_,_,_,e=>by simp at e
 |_::_,xs,0,_,h,e=>by
  rw[aB]at h
  obtain⟨x,r,rfl,h1,_⟩:=h
  simp at e;subst e
  exact⟨x,rfl,h1⟩
 |_::ds,xs,i+1,d,h,e=>by
  rw[aB]at h
  obtain⟨x,r,rfl,_,h2⟩:=h
  simpa using aB.get (i:=i) (d:=d) h2 (by simpa using e)
theorem aB.set{d:D}{x:V}(a:Rep K H d x):∀{ds:List D} {xs:List V} (i:Nat),aB K H ds xs->aB K H (ds.set i d) (xs.set i x)
 |[],_,_,h=>by rw[aB]at h;subst h;simp[aB.nil]
 |_::_,_,0,h=>by
  rw[aB]at h
  obtain⟨y,r,rfl,_,h2⟩:=h
  exact .cons a h2
 |_::ds,_,i+1,h=>by
  rw[aB]at h
  obtain⟨y,r,rfl,h1,h2⟩:=h
  exact .cons h1 (aB.set a i h2)
theorem aB.append:∀{ds es:List D} {xs ys:List V},aB K H ds xs->aB K H es ys->aB K H (ds++es) (xs++ys)
 |[],_,_,_,h,k=>by rw[aB]at h;subst h;exact k
 |_::ds,_,_,_,h,k=>by
  rw[aB]at h
  obtain⟨y,r,rfl,h1,h2⟩:=h
  exact .cons h1 (aB.append h2 k)
theorem aB.of_get:∀{ds:List D} {xs:List V},ds.length=xs.length->(∀(i:Nat) d x,ds[i]?=some d->xs[i]?=some x->Rep K H d x)->aB K H ds xs
 |[],[],_,_=>.nil
 |[],_::_,h,_=>by simp at h
 |_::_,[],h,_=>by simp at h
 |d::ds,x::xs,h,k=>.cons (k 0 d x rfl rfl) (aB.of_get (by simpa using h) fun i d x a b=>k (i+1) d x (by simpa using a) (by simpa using b))
theorem aB.take{ds:List D}{xs:List V}(n:Nat)(h:aB K H ds xs):aB K H (ds.take n) (xs.take n):=by
 refine .of_get (by simp[h.length]) fun i d x a b=>?_
 have hi:i<n:=by
  rw[List.getElem?_take]at a;split at a
  ·assumption
  ·cases a
 rw[List.getElem?_take_of_lt hi]at a b;obtain⟨y,e,r⟩:=h.get a;rw[e]at b;cases b;exact r
theorem aB.drop{ds:List D}{xs:List V}(n:Nat)(h:aB K H ds xs):aB K H (ds.drop n) (xs.drop n):=by refine .of_get (by simp[h.length]) fun i d x a b=>?_;rw[List.getElem?_drop]at a b;obtain⟨y,e,r⟩:=h.get a;rw[e]at b;cases b;exact r
theorem ig:∀(ns:List Int),aB K H (ns.map D.int) (ns.map V.int)
 |[]=>.nil
 |n::ns=>.cons (by rw[Rep]) (ig ns)
end
def Er(a C:Addr):Heap->Prop:=fun h=>∃o,h.get? a=some o/\o.cls=.ref C
inductive MO where
 |lst (ds:List D)|err (C:Addr)
 |dct (n:Nat) (P:List Int->Bool)
 |gen (A:E2->Hp->Addr->Prop)
abbrev MH:=Addr->Option MO
def nO(K:E2)(H:Hp)(a:Addr):MO->Prop
 |.lst ds=>∃xs,H a=some (.lst xs)/\aB K H ds xs
 |.err C=>H a=some (.ext (Er a C))
 |.dct n P=>∃kvs:List (List Key×V),H a=some (.dT kvs)/\kvs.length<=n/\∀k:List Int,(kvs.any fun kv=>decide (kv.1=k.map Sum.inl))=P k
 |.gen A=>A K H a/\H a≠none/\∀H',Grow K H H'->H' a=H a->A K H' a
def Abs(K:E2)(H:Hp)(M:MH):Prop:=∀a o,M a=some o->nO K H a o
def aw(M:MH)(a:Addr)(o:MO):MH:=fun b=>if b=a then some o else M b
theorem aj{M:MH}{a:Addr}{o:MO}:aw M a o a=some o:=by unfold aw;rw[if_pos rfl]
theorem ar{M:MH}{a b:Addr}{o:MO}(h:b≠a):aw M a o b=M b:=by unfold aw;rw[if_neg h]
theorem aX{M:MH}{a:Addr}{o u:MO}:aw (aw M a o) a u=aw M a u:=by funext b;unfold aw;split<;>rfl
section
variable{K:E2}{H H':Hp}{M:MH}
theorem nO.some{a:Addr}{o:MO}(h:nO K H a o):H a≠none:=by
 cases o with
 |lst ds=>
  obtain⟨xs,h1,_⟩:=h
  rw[h1];simp
 |err C=>rw[show H a=_ from h];simp
 |dct n P=>
  obtain⟨kvs,h1,_⟩:=h
  rw[h1];simp
 |gen A=>exact h.2.1
theorem Abs.fresh(h:Abs K H M){p:Addr}(hp:H p=none):M p=none:=by
 cases e:M p with
 |none=>rfl
 |some o=>exact absurd hp (h p o e).some
theorem nO.fW{a:Addr}{o:MO}(g:Grow K H H')(e:H' a=H a)(h:nO K H a o):nO K H' a o:=by
 cases o with
 |lst ds=>
  obtain⟨xs,h1,h2⟩:=h
  exact⟨xs,e.trans h1,h2.mono g⟩
 |err C=>exact e.trans h
 |dct n P=>
  obtain⟨kvs,h1,h2⟩:=h
  exact⟨kvs,e.trans h1,h2⟩
 |gen A=>exact⟨h.2.2 H' g e,fun z=>h.2.1 (by rw[<-e];exact z),fun H2 g2 e2=>h.2.2 H2 (g.trans g2) (e2.trans e)⟩
theorem Abs.new{p:Addr}{o:HO}(h:Abs K H M)(hp:H p=none):Abs K (upd H p o) M:=fun a u e=>by
 have ne:a≠p:=fun z=>by subst z;rw[h.fresh hp]at e;cases e
 exact(h a u e).fW (.new hp) (aK ne)
theorem Abs.mi{p:Addr}{xs:List V}{ds:List D}(h:Abs K H M)(hp:H p=none)(r:aB K H ds xs):Abs K (upd H p (.lst xs)) (aw M p (.lst ds)):=fun a u e=>by
 by_cases ne:a=p
 ·subst ne;rw[aj]at e;cases e;exact⟨xs,aM,r.mono (.new hp)⟩
 ·rw[ar ne]at e;exact(h a u e).fW (.new hp) (aK ne)
theorem Abs.wW{p:Addr}{xs ys:List V}{ds:List D}(h:Abs K H M)(hp:H p=some (.lst xs))(r:aB K H ds ys):Abs K (upd H p (.lst ys)) (aw M p (.lst ds)):=fun a u e=>by
 by_cases ne:a=p
 ·subst ne;rw[aj]at e;cases e;exact⟨ys,aM,r.mono (.lst hp)⟩
 ·rw[ar ne]at e;exact(h a u e).fW (.lst hp) (aK ne)
theorem Abs.sub{M':MH}(h:Abs K H M)(s:∀a o,M' a=some o->M a=some o):Abs K H M':=fun a o e=>h a o (s a o e)
end
abbrev DS:=List (Option D)
structure Slots(K:E2)(H:Hp)(δ:DS)(σ:L2.St):Prop where
 len:δ.length=σ.length
 at':∀(i:Nat) d,δ[i]?=some (some d)->∃v,σ[i]?=some (some v)/\Rep K H d v
section
variable{K:E2}{H H':Hp}{δ:DS}{σ:L2.St}
theorem Slots.mono(g:Grow K H H')(h:Slots K H δ σ):Slots K H' δ σ:=⟨h.len,fun i d e=>let⟨v,a,b⟩:=h.at' i d e;⟨v,a,b.mono g⟩⟩
theorem Slots.set{d:D}{v:V}(r:Rep K H d v)(i:Nat)(h:Slots K H δ σ):Slots K H (δ.set i (some d)) (σ.set i (some v)):=by
 refine⟨by simp[h.len],fun j e q=>?_⟩;rw[List.getElem?_set]at q;by_cases hij:i=j
 ·subst hij;rw[if_pos rfl]at q;by_cases hl:i<δ.length
  ·rw[if_pos hl]at q;cases q;exact⟨v,by rw[List.getElem?_set,if_pos rfl,if_pos (by rw[<-h.len];exact hl)],r⟩
  ·rw[if_neg hl]at q;cases q
 ·rw[if_neg hij]at q;obtain⟨v',e1,e2⟩:=h.at' j e q;exact⟨v',by rw[List.getElem?_set,if_neg hij];exact e1,e2⟩
theorem nH{N:List Str}{ds:List D}{vs:List V}(r:aB K H ds vs):Slots K H (ds.map some++Fv (N.length-ds.length) none) (L2.start N vs):=by
 have hl:=r.length;refine⟨by unfold L2.start;simp[hl],fun i d e=>?_⟩;unfold L2.start;by_cases hi:i<ds.length
 ·rw[FO (by simpa using hi),E9]at e;cases q:ds[i]? with
  |none=>rw[q]at e;cases e
  |some d'=>
   rw[q]at e;cases e
   obtain⟨x,e1,e2⟩:=r.get q
   refine⟨x,?_,e2⟩
   rw[FO (by simp;omega),E9,e1];rfl
 ·rw[FL (by simpa using hi),List.getElem?_replicate]at e;split at e<;>cases e
end
abbrev DK:=D->MH->Prop
abbrev TD:=DS->MH->DK->Prop
abbrev TTD:=DS->MH->(Bool->MH->Prop)->Prop
abbrev TAD:=DS->MH->(List D->MH->Prop)->Prop
structure EndsD where
 nx:DS->MH->Prop
 rt:DK
 bk:DS->MH->Prop:=fun _ _=>False
 ct:DS->MH->Prop:=fun _ _=>False
abbrev TSD:=EndsD->DS->MH->Prop
section
variable(K:E2)
def Fin(H:Hp)(R:DK)(Q:VK):Prop:=∀d M' v H',Grow K H H'->Rep K H' d v->Abs K H' M'->R d M'->Q v H'
def yi(H:Hp)(R:Bool->MH->Prop)(Q:Bool->Hp->Prop):Prop:=∀b M' H',Grow K H H'->Abs K H' M'->R b M'->Q b H'
def FinA(H:Hp)(R:List D->MH->Prop)(Q:List V->Hp->Prop):Prop:=∀ds M' vs H',Grow K H H'->aB K H' ds vs->Abs K H' M'->R ds M'->Q vs H'
def lift(t:TD):TE:=fun σ H Q=>∃δ M R,Slots K H δ σ/\Abs K H M/\t δ M R/\Fin K H R Q
def liftT(t:TTD):TT:=fun σ H Q=>∃δ M R,Slots K H δ σ/\Abs K H M/\t δ M R/\yi K H R Q
def zK(t:TAD):TA:=fun σ H Q=>∃δ M R,Slots K H δ σ/\Abs K H M/\t δ M R/\FinA K H R Q
structure EndsOk(H:Hp)(B:EndsD)(E:Ends):Prop where
 nx:∀δ M σ H',Grow K H H'->Slots K H' δ σ->Abs K H' M->B.nx δ M->E.nx σ H'
 rt:∀d M v H',Grow K H H'->Rep K H' d v->Abs K H' M->B.rt d M->E.rt v H'
 bk:∀δ M σ H',Grow K H H'->Slots K H' δ σ->Abs K H' M->B.bk δ M->E.bk σ H'
 ct:∀δ M σ H',Grow K H H'->Slots K H' δ σ->Abs K H' M->B.ct δ M->E.ct σ H'
def zf(t:TSD):TS:=fun E σ H=>∃δ M,Slots K H δ σ/\Abs K H M/\∃B,EndsOk K H B E/\t B δ M
end
def DE(X:Cx)(e:Expr)(t:TD):Prop:=PE X e (lift X.K t)
def DT(X:Cx)(e:Expr)(t:TTD):Prop:=PT X e (liftT X.K t)
def DW(X:Cx)(e:Expr)(t:TTD):Prop:=PW X e (liftT X.K t)
def DA(X:Cx)(es:List Expr)(t:TAD):Prop:=PA X es (zK X.K t)
def DSt(X:Cx)(st:Stmt)(t:TSD):Prop:=PS X st (zf X.K t)
def DSs(X:Cx)(st:List Stmt)(t:TSD):Prop:=PSs X st (zf X.K t)
theorem aP{X:Cx}{e:Expr}{t t':TE}(h:PE X e t)(k:∀σ H Q,t' σ H Q->t σ H Q):PE X e t':=fun pins s σ H Q I q=>h pins s σ H Q I (k σ H Q q)
theorem jP{X:Cx}{e:Expr}{t t':TT}(h:PT X e t)(k:∀σ H Q,t' σ H Q->t σ H Q):PT X e t':=fun pins s σ H Q I q=>h pins s σ H Q I (k σ H Q q)
theorem vN{X:Cx}{e:Expr}{t t':TT}(h:PW X e t)(k:∀σ H Q,t' σ H Q->t σ H Q):PW X e t':=fun wh pins s σ H Q I q=>h wh pins s σ H Q I (k σ H Q q)
theorem ug{X:Cx}{e:List Expr}{t t':TA}(h:PA X e t)(k:∀σ H Q,t' σ H Q->t σ H Q):PA X e t':=fun pos pins s σ H Q I q=>h pos pins s σ H Q I (k σ H Q q)
theorem bW{X:Cx}{e:Stmt}{t t':TS}(h:PS X e t)(k:∀D σ H,t' D σ H->t D σ H):PS X e t':=fun pins s σ H D I q=>h pins s σ H D I (k D σ H q)
theorem rQ{X:Cx}{e:List Stmt}{t t':TS}(h:PSs X e t)(k:∀D σ H,t' D σ H->t D σ H):PSs X e t':=fun pins s σ H D I q=>h pins s σ H D I (k D σ H q)
section
variable{K:E2}{H H1 H':Hp}
theorem Fin.go{R:DK}{Q:VK}(g:Grow K H H1)(h:Fin K H R Q):Fin K H1 R Q:=fun d M v H' g'=>h d M v H' (g.trans g')
theorem yi.go{R:Bool->MH->Prop}{Q:Bool->Hp->Prop}(g:Grow K H H1)(h:yi K H R Q):yi K H1 R Q:=fun b M H' g'=>h b M H' (g.trans g')
theorem EndsOk.go{B:EndsD}{E:Ends}(g:Grow K H H1)(h:EndsOk K H B E):EndsOk K H1 B E:=⟨fun d M v H' g'=>h.nx d M v H' (g.trans g'),fun d M v H' g'=>h.rt d M v H' (g.trans g'),fun d M v H' g'=>h.bk d M v H' (g.trans g'),fun d M v H' g'=>h.ct d M v H' (g.trans g')⟩
end
section
variable{X:Cx}
inductive tVarD(i:Nat)(δ:DS)(M:MH)(Q:DK):Prop
 |mk (d:D) (h:δ[i]?=some (some d)) (q:Q d M):tVarD i δ M Q
def tCD(d:D):TD:=fun _ M Q=>Q d M
theorem dv(i:Nat){x:Str}{pos:Pos}(hN:X.N[i]?=some x:=by rfl)(hv:Vis X.env.scope x:=by first|exact Or.inl rfl|exact Or.inr (Or.inl rfl)|exact Or.inr (Or.inr rfl))(hd:(x==("__debug__":Str))=false:=by decide)
 (hcd:(x==("__classdict__":Str))=false:=by decide):DE X (.Name x pos) (tVarD i):=
 aP (BF hN hv hd hcd) fun σ H Q z9=>by
  obtain⟨δ,M,R,hs,hM,⟨d,e,r⟩,fin⟩:=z9
  obtain⟨v,e1,e2⟩:=hs.at' i d e
  exact⟨v,e1,fin d M v H .refl e2 hM r⟩
theorem dc{e:Expr}{v:V}{d:D}(h:PE X e (tC v))(r:∀H,Rep X.K H d v):DE X e (tCD d):=aP h fun σ H Q zz1_0=>by obtain⟨δ,M,R,hs,hM,q,fin⟩:=zz1_0;exact(fin d M v H .refl (r H) hM q)
theorem ag{i j pos}:DE X (.Constant (.int i) j pos) (tCD (.int i)):=dc wx fun _=>by rw[Rep]
theorem iB{i j pos}:DE X (.Constant (.bool i) j pos) (tCD (.bl i)):=dc CV fun _=>by rw[Rep]
theorem j4{j pos}:DE X (.Constant .none j pos) (tCD .non):=dc Am fun _=>by rw[Rep]
theorem jv{x j pos}:DE X (.Constant (.str x) j pos) (tCD (.str x)):=dc Bh fun _=>by rw[Rep]
theorem zk{x:Str}{n:String}{pos:Pos}(hg:Gl X x)(hm:X.mg x=none)(hv:G5 x=some (.type n))(hn:x≠"__name__":=by decide)(hd:(x==("__debug__":Str))=false:=by decide):DE X (.Name x pos) (tCD (.ty n)):=dc (yl (v:=.ty n) hg hm hv rfl hn hd) fun _=>by rw[Rep]
end
abbrev R2D:=D->D->MH->DK->Prop
def mU(K:E2)(r:R2D):R2:=fun v u H Q=>∃x y M R,Rep K H x v/\Rep K H y u/\Abs K H M/\r x y M R/\Fin K H R Q
def OpD(X:Cx)(f:E1->E1->Sem E1)(r:R2D):Prop:=OpR X f (mU X.K r)
def nq(r:R2D)(ta tb:TD):TD:=fun δ M Q=>ta δ M fun x M1=>tb δ M1 fun y M2=>r x y M2 Q
theorem fN{X:Cx}{f:E1->E1->Sem E1}{r r':R2}(h:OpR X f r)(k:∀x y H Q,r' x y H Q->r x y H Q):OpR X f r':=fun pins s σ H x y v u Q I a b q=>h pins s σ H x y v u Q I a b (k _ _ _ _ q)
theorem iT{K:E2}{r:R2D}{ta tb:TD}{σ:L2.St}{H:Hp}{Q:VK}(h:lift K (nq r ta tb) σ H Q):tOp (mU K r) (lift K ta) (lift K tb) σ H Q:=by obtain⟨δ,M,R,hs,hM,q,fin⟩:=h;refine⟨δ,M,_,hs,hM,q,fun x M1 v H1 g1 r1 a1 q1=>?_⟩;exact⟨δ,M1,_,hs.mono g1,a1,q1,fun y M2 u H2 g2 r2 a2 q2=>⟨x,y,M2,R,r1.mono g2,r2,a2,q2,fin.go (g1.trans g2)⟩⟩
section
variable{X:Cx}{a b:Expr}{ta tb:TD}{pos:Pos}
theorem av{op:Operator}{r:R2D}(ho:OpD X (Hi op) r)(ha:DE X a ta)(hb:DE X b tb):DE X (.BinOp a op b pos) (nq r ta tb):=aP (D1 ho ha hb) fun _ _ _ h=>iT h
theorem cv{op:CmpOp}{r:R2D}(ho:OpD X (FC op) r)(ha:DE X a ta)(hb:DE X b tb)(hm:Ii op b=false:=by exact xc _):DE X (.Compare a [op] [b] pos) (nq r ta tb):=aP (yM ho ha hb hm) fun _ _ _ h=>iT h
inductive IsBl(x:D)(M:MH)(Q:Bool->MH->Prop):Prop
 |mk (c:Bool) (h:x=.bl c) (q:Q c M):IsBl x M Q
def tBD(t:TD):TTD:=fun δ M Q=>t δ M fun x M1=>IsBl x M1 Q
theorem k6{K:E2}{t:TD}{t':TE}(ht:∀σ H Q,lift K t σ H Q->t' σ H Q){σ:L2.St}{H:Hp}{Q:Bool->Hp->Prop}(h:liftT K (tBD t) σ H Q):zN t' σ H Q:=by obtain⟨δ,M,R,hs,hM,q,fin⟩:=h;refine ht _ _ _ ⟨δ,M,_,hs,hM,q,fun x M1 v H1 g1 r1 a1 zz2_0=>?_⟩;obtain⟨c,e,q1⟩:=zz2_0;subst e;rw[Rep]at r1;exact⟨c,r1,fin c M1 H1 g1 a1 q1⟩
theorem aH{op:CmpOp}{r:R2D}(ho:OpD X (FC op) r)(ha:DE X a ta)(hb:DE X b tb)(hm:Ii op b=false:=by exact xc _):DT X (.Compare a [op] [b] pos) (tBD (nq r ta tb)):=jP (xM ho ha hb hm) fun _ _ _ h=>k6 (fun _ _ _ h=>iT h) h
theorem cH{e:Expr}{t:TD}(h:DE X e t)(he:∀whole,isTrue e X.env whole=(do let v <-whole;standAt e.pos;holding [v] (truthy v)):=by intro _;rfl):DT X e (tBD t):=
 jP (Be h he) fun _ _ _ h=>k6 (t':=lift X.K t) (fun _ _ _ h=>h) h
end
section
variable{X:Cx}{a b c:Expr}{ta tb:TD}{tA tB':TTD}{rest:List Expr}{pos:Pos}
def zV(t u:TTD):TTD:=fun δ M Q=>t δ M fun c M1=>if c=true then u δ M1 Q else Q false M1
def Aa(t u:TTD):TTD:=fun δ M Q=>t δ M fun c M1=>if c=true then Q true M1 else u δ M1 Q
def eL(t:TTD):TTD:=fun δ M Q=>t δ M fun c M1=>Q (!c) M1
theorem gI(ha:DT X a tA):DW X (.BoolOp .And [a] pos) tA:=xk ha
theorem mF(ha:DT X a tA):DW X (.BoolOp .Or [a] pos) tA:=AG ha
theorem iU(ha:DT X a tA)(hb:DW X (.BoolOp .And (b::rest) pos) tB'):DW X (.BoolOp .And (a::b::rest) pos) (zV tA tB'):=
 vN (A7 ha hb) fun σ H Q zz3_0=>by obtain⟨δ,M,R,hs,hM,q,fin⟩:=zz3_0;exact(⟨δ,M,_,hs,hM,q,fun c M1 H1 g1 a1 q1=>by
  cases c with
  |true=>rw[if_pos rfl]at q1 ⊢;exact⟨δ,M1,R,hs.mono g1,a1,q1,fin.go g1⟩
  |false=>rw[if_neg F4]at q1 ⊢;exact fin _ _ _ g1 a1 q1⟩)
theorem nM(ha:DT X a tA)(hb:DW X (.BoolOp .Or (b::rest) pos) tB'):DW X (.BoolOp .Or (a::b::rest) pos) (Aa tA tB'):=
 vN (Cz ha hb) fun σ H Q zz4_0=>by obtain⟨δ,M,R,hs,hM,q,fin⟩:=zz4_0;exact(⟨δ,M,_,hs,hM,q,fun c M1 H1 g1 a1 q1=>by
  cases c with
  |true=>rw[if_pos rfl]at q1 ⊢;exact fin _ _ _ g1 a1 q1
  |false=>rw[if_neg F4]at q1 ⊢;exact⟨δ,M1,R,hs.mono g1,a1,q1,fin.go g1⟩⟩)
theorem lU{e:Expr}{t:TTD}(h:DW X e t):DT X e t:=PW.pt h
theorem t6(ha:DT X a tA):DT X (.UnaryOp .Not a pos) (eL tA):=jP (BM ha) fun σ H Q zz5_0=>by obtain⟨δ,M,R,hs,hM,q,fin⟩:=zz5_0;exact(⟨δ,M,_,hs,hM,q,fun c M1 H1 g1 a1 q1=>fin _ _ _ g1 a1 q1⟩)
def uD(ta tb:TD):TD:=fun δ M Q=>ta δ M fun x M1=>IsBl x M1 fun c M1=>if c=true then tb δ M1 Q else Q (.bl false) M1
def zl(ta tb:TD):TD:=fun δ M Q=>ta δ M fun x M1=>IsBl x M1 fun c M1=>if c=true then Q (.bl true) M1 else tb δ M1 Q
def zZ(ta:TD):TD:=fun δ M Q=>ta δ M fun x M1=>IsBl x M1 fun c M1=>Q (.bl (!c)) M1
theorem mw{op}{t:TD}(h:DE X a t):DE X (.BoolOp op [a] pos) t:=AX h
theorem mR(ha:DE X a ta)(hb:DE X (.BoolOp .And (b::rest) pos) tb):DE X (.BoolOp .And (a::b::rest) pos) (uD ta tb):=
 aP (AJ ha hb) fun σ H Q ⟨δ,M,R,hs,hM,q,fin⟩=>⟨δ,M,_,hs,hM,q,fun x M1 v H1 g1 r1 a1 z9=>by
  obtain⟨c,e,q1⟩:=z9
  subst e
  rw[Rep]at r1
  refine⟨c,r1,?_⟩
  cases c with
  |true=>rw[if_pos rfl]at q1 ⊢;exact⟨δ,M1,R,hs.mono g1,a1,q1,fin.go g1⟩
  |false=>rw[if_neg F4]at q1 ⊢;exact fin _ _ _ _ g1 (by rw[Rep]) a1 q1⟩
theorem DO(ha:DE X a ta)(hb:DE X (.BoolOp .Or (b::rest) pos) tb):DE X (.BoolOp .Or (a::b::rest) pos) (zl ta tb):=
 aP (Cn ha hb) fun σ H Q ⟨δ,M,R,hs,hM,q,fin⟩=>⟨δ,M,_,hs,hM,q,fun x M1 v H1 g1 r1 a1 z9=>by
  obtain⟨c,e,q1⟩:=z9
  subst e
  rw[Rep]at r1
  refine⟨c,r1,?_⟩
  cases c with
  |true=>rw[if_pos rfl]at q1 ⊢;exact fin _ _ _ _ g1 (by rw[Rep]) a1 q1
  |false=>rw[if_neg F4]at q1 ⊢;exact⟨δ,M1,R,hs.mono g1,a1,q1,fin.go g1⟩⟩
theorem oV(ha:DE X a ta):DE X (.UnaryOp .Not a pos) (zZ ta):=
 aP (A6 ha) fun σ H Q zz6_0=>by obtain⟨δ,M,R,hs,hM,q,fin⟩:=zz6_0;exact(⟨δ,M,_,hs,hM,q,fun x M1 v H1 g1 r1 a1 z9=>by
  obtain⟨c,e,q1⟩:=z9
  subst e
  rw[Rep]at r1
  exact⟨c,r1,fin _ _ _ _ g1 (by rw[Rep]) a1 q1⟩⟩)
def ER(t:TTD)(ta tb:TD):TD:=fun δ M Q=>t δ M fun c M1=>if c=true then ta δ M1 Q else tb δ M1 Q
theorem eF(hc:DT X c tA)(ha:DE X a ta)(hb:DE X b tb):DE X (.IfExp c a b pos) (ER tA ta tb):=
 aP (vL hc ha hb) fun σ H Q zz7_0=>by obtain⟨δ,M,R,hs,hM,q,fin⟩:=zz7_0;exact(⟨δ,M,_,hs,hM,q,fun c M1 H1 g1 a1 q1=>by
  cases c with
  |true=>rw[if_pos rfl]at q1 ⊢;exact⟨δ,M1,R,hs.mono g1,a1,q1,fin.go g1⟩
  |false=>rw[if_neg F4]at q1 ⊢;exact⟨δ,M1,R,hs.mono g1,a1,q1,fin.go g1⟩⟩)
end
def En(r:D->MH->DK->Prop)(ta:TD):TD:=fun δ M Q=>ta δ M fun x M1=>r x M1 Q
def zE(K:E2)(r:D->MH->DK->Prop):V->Hp->VK->Prop:=fun v H Q=>∃x M R,Rep K H x v/\Abs K H M/\r x M R/\Fin K H R Q
theorem m9{X:Cx}{a:Expr}{ta:TD}{pos:Pos}{op:UnaryOp}{r:D->MH->DK->Prop}(ho:UnR X (unaryOp op) (zE X.K r))(ha:DE X a ta):DE X (.UnaryOp op a pos) (En r ta):=aP (DC ho ha) fun σ H Q zz8_0=>by obtain⟨δ,M,R,hs,hM,q,fin⟩:=zz8_0;exact(⟨δ,M,_,hs,hM,q,fun x M1 v H1 g1 r1 a1 q1=>⟨x,M1,R,r1,a1,q1,fin.go g1⟩⟩)
def Di:TAD:=fun _ M Q=>Q [] M
def Aj(ta:TD)(tr:TAD):TAD:=fun δ M Q=>ta δ M fun x M1=>tr δ M1 fun xs M2=>Q (x::xs) M2
section
variable{X:Cx}{e:Expr}{es:List Expr}{te:TD}{t:TAD}{pos:Pos}
theorem af:DA X [] Di:=ug qr fun σ H Q zz9_0=>by obtain⟨δ,M,R,hs,hM,q,fin⟩:=zz9_0;exact(fin _ _ _ _ .refl .nil hM q)
theorem aa(ha:DE X e te)(hr:DA X es t)(hs:Fc (e::es) X.env=(false,eval e X.env)::Fc es X.env:=by rfl):DA X (e::es) (Aj te t):=
 ug (lV ha hr hs) fun σ H Q zz10_0=>by obtain⟨δ,M,R,hs,hM,q,fin⟩:=zz10_0;exact(⟨δ,M,_,hs,hM,q,fun x M1 v H1 g1 r1 a1 q1=>
  ⟨δ,M1,_,hs.mono g1,a1,q1,fun xs M2 vs H2 g2 r2 a2 q2=>fin _ _ _ _ (g1.trans g2) (.cons (r1.mono g2) r2) a2 q2⟩⟩)
def CT(t:TAD):TD:=fun δ M Q=>t δ M fun xs M1=>xs.length<=Fb/\Q (.tup xs) M1
def Ct(t:TAD):TD:=fun δ M Q=>t δ M fun xs M1=>xs.length<=Fb/\∀p,M1 p=none->Q (.ref p) (aw M1 p (.lst xs))
theorem aG{x1}(h:DA X es t):DE X (.Tuple es x1 pos) (CT t):=aP (B2 h) fun σ H Q zz11_0=>by obtain⟨δ,M,R,hs,hM,q,fin⟩:=zz11_0;exact(⟨δ,M,_,hs,hM,q,fun xs M1 vs H1 g1 r1 a1 zz12_0=>by obtain⟨z,q1⟩:=zz12_0;exact(⟨by rw[<-r1.length];exact z,fun p hp=>fin _ _ _ _ (g1.trans (.new hp)) (by rw[Rep];exact⟨p,vs,rfl,SqT.of aM,r1.mono (.new hp)⟩) (a1.new hp) q1⟩)⟩)
theorem cF(h:DA X es t):DE X (.List es pos) (Ct t):=aP (Ab h) fun σ H Q zz13_0=>by obtain⟨δ,M,R,hs,hM,q,fin⟩:=zz13_0;exact(⟨δ,M,_,hs,hM,q,fun xs M1 vs H1 g1 r1 a1 zz14_0=>by obtain⟨z,q1⟩:=zz14_0;exact(⟨by rw[<-r1.length];exact z,fun p hp=>fin _ _ _ _ (g1.trans (.new hp)) (by rw[Rep]) (a1.mi hp r1) (q1 p (a1.fresh hp))⟩)⟩)
end
def IxD(X:Cx)(r:R2D):Prop:=IxR X (mU X.K r)
theorem Cc{X:Cx}{r r':R2}(h:IxR X r)(k:∀x y H Q,r' x y H Q->r x y H Q):IxR X r':=fun e1 e2 pins s σ H x y v u Q I a b q=>h e1 e2 pins s σ H x y v u Q I a b (k _ _ _ _ q)
theorem A4{X:Cx}{a b:Expr}{ta tb:TD}{pos:Pos}{r:R2D}(hr:IxD X r)(ha:DE X a ta)(hb:DE X b tb)(hs:mG b):DE X (.Subscript a b pos) (nq r ta tb):=aP (Cu hr ha hb hs) fun _ _ _ h=>iT h
inductive AtD(ds:List D)(i:Int)(M:MH)(Q:DK):Prop
 |mk (d:D) (h:atI ds i=some d) (q:Q d M):AtD ds i M Q
inductive AtM(a:Addr)(i:Int)(M:MH)(Q:DK):Prop
 |mk (ds:List D) (d:D) (h:M a=some (.lst ds)) (q:atI ds i=some d/\Q d M):AtM a i M Q
def AK:R2D:=fun x y M Q=>match x,y with
 |.tup ds,.int i=>AtD ds i M Q
 |.rol ds,.int i=>AtD ds i M Q
 |.ref a,.int i=>AtM a i M Q
 |_,_=>False
theorem aB.atI{K:E2}{H:Hp}{ds:List D}{xs:List V}{i:Int}{d:D}(h:aB K H ds xs)(e:L2.atI ds i=some d):∃x,L2.atI xs i=some x/\Rep K H d x:=by
 unfold L2.atI at e ⊢;rw[<-h.length];cases q:ixN ds.length i with
 |none=>rw[q]at e;cases e
 |some j=>
  rw[q]at e
  exact h.get e
theorem sA{K:E2}{v u:V}{H:Hp}{Q:VK}(h:mU K AK v u H Q):rIx K v u H Q:=by
 obtain⟨x,y,M,R,r1,r2,a,q,fin⟩:=h;unfold AK at q;split at q
 ·obtain⟨d,e,q⟩:=q;obtain rfl:u=.int _:=r2;rw[Rep]at r1;obtain⟨p,xs,rfl,hq,rs⟩:=r1;obtain⟨x,e1,e2⟩:=rs.atI e;exact .inr (.inl ⟨p,xs,_,x,rfl,rfl,hq,e1,fin _ _ _ _ .refl e2 a q⟩)
 ·obtain⟨d,e,q⟩:=q;obtain rfl:u=.int _:=r2;rw[Rep]at r1;obtain⟨p,xs,rfl,hq,rs⟩:=r1;obtain⟨x,e1,e2⟩:=rs.atI e;exact .inl ⟨p,xs,_,x,rfl,rfl,hq.sql,e1,fin _ _ _ _ .refl e2 a q⟩
 ·obtain⟨ds,d,e0,e,q⟩:=q;obtain rfl:u=.int _:=r2;obtain rfl:v=.ref _:=r1;obtain⟨xs,hx,rs⟩:=a _ _ e0;obtain⟨x,e1,e2⟩:=rs.atI e;exact .inl ⟨_,xs,_,x,rfl,rfl,SqL.of hx,e1,fin _ _ _ _ .refl e2 a q⟩
 ·exact q.elim
theorem au{X:Cx}{a b:Expr}{ta tb:TD}{pos:Pos}(ha:DE X a ta)(hb:DE X b tb)(hs:mG b:=by exact fun _ _=>rfl):DE X (.Subscript a b pos) (nq AK ta tb):=A4 (Cc BO fun _ _ _ _ h=>sA h) ha hb hs
def Bd(n:Nat)(i:Int):Prop:=i.natAbs<2^n
instance(n:Nat)(i:Int):Decidable (Bd n i):=inferInstanceAs (Decidable (i.natAbs<2^n))
theorem Bd.mono{m n:Nat}{i:Int}(h:Bd m i)(l:m<=n):Bd n i:=Fh h (Nat.pow_le_pow_right (by decide) l)
theorem Bd.bits{n:Nat}{i:Int}(h:Bd n i):Builtin.Int.intBits i<=n:=by
 unfold Builtin.Int.intBits;split
 ·exact FQ _
 ·rename_i hz;have h0:i.natAbs≠0:=fun e=>hz (by simpa using Int.natAbs_eq_zero.mp e);exact(Nat.log2_lt h0).mpr h
theorem Bd.log2{n:Nat}{i:Int}(h:Bd n i)(hn:0<n):i.natAbs.log2<n:=by
 by_cases h0:i.natAbs=0
 ·rw[h0];simpa using hn
 ·exact(Nat.log2_lt h0).mpr h
theorem Bd.mul{m n:Nat}{i j:Int}(a:Bd m i)(b:Bd n j):Bd (m+n) (i*j):=by unfold Bd at *;rw[Int.natAbs_mul,Nat.pow_add];exact Nat.mul_lt_mul'' a b
theorem Bd.add{n:Nat}{i j:Int}(a:Bd n i)(b:Bd n j):Bd (n+1) (i+j):=by unfold Bd at *;rw[Nat.pow_succ];have:=Int.natAbs_add_le i j;omega
theorem Bd.sub{n:Nat}{i j:Int}(a:Bd n i)(b:Bd n j):Bd (n+1) (i-j):=by unfold Bd at *;rw[Nat.pow_succ];have:=Int.natAbs_sub_le i j;omega
theorem Bd.neg{n:Nat}{i:Int}(a:Bd n i):Bd n (-i):=by unfold Bd at *;rw[Int.natAbs_neg];exact a
theorem Bd.of_le{n:Nat}{i j:Int}(a:Bd n i)(b:j.natAbs<=i.natAbs):Bd n j:=Nat.lt_of_le_of_lt b a
theorem cm{n:Nat}{i:Int}(h:i.natAbs<2^64)(l:64<=n:=by decide):Bd n i:=Bd.mono (m:=64) h l
theorem du{i j:Int}(a:Bd 1000000 i)(b:Bd 1000000 j):IntMulOk i j:=.of_bits (Gp a.bits (by decide)) (Gp b.bits (by decide))
theorem aS{i j:Int}(a:Bd 64 i):IntMulOk i j:=.of_left a.bits
theorem cx{i j:Int}(a:Bd 64 j):IntMulOk i j:=.of_right a.bits
def rI2(C:Int->Int->Prop)(g:Int->Int->D):R2D:=fun x y M Q=>match x,y with
 |.int i,.int j=>C i j/\Q (g i j) M
 |_,_=>False
section
variable{X:Cx}
theorem cz{f:E1->E1->Sem E1}{C:Int->Int->Prop}{g:Int->Int->V}{g':Int->Int->D}(h:OpR X f (rI C g))(e:∀i j H,Rep X.K H (g' i j) (g i j)):OpD X f (rI2 C g'):=
 fN h fun v u H Q z9=>by
  obtain⟨x,y,M,R,r1,r2,a,q,fin⟩:=z9
  unfold rI2 at q
  split at q
  ·obtain rfl:v=.int _:=r1
   obtain rfl:u=.int _:=r2
   exact⟨_,_,rfl,rfl,q.1,fin _ _ _ _ .refl (e _ _ _) a q.2⟩
  ·exact q.elim
theorem ri0{f:E1->E1->Sem E1}{g:Int->Int->V}(h:OpR X f (rI0 g)):OpR X f (rI (fun _ _=>True) g):=fN h fun x y H Q zz1_0=>by obtain⟨i,j,a,b,_,q⟩:=zz1_0;exact(⟨i,j,a,b,q⟩)
def CQ:R2D:=rI2 (fun _ _=>True) fun i j=>.int (i-j)
def CY:R2D:=rI2 IntMulOk fun i j=>.int (i*j)
def CFd(i j:Int):Prop:=j≠0/\Bd 8000 j
def Ep:R2D:=rI2 CFd fun i j=>.int (i.fdiv j)
def D6:R2D:=rI2 (fun _ j=>j≠0) fun i j=>.int (i.fmod j)
def Ds:R2D:=rI2 CZ fun i j=>.int (i^j.toNat)
def EA:R2D:=rI2 (fun _ _=>True) fun i j=>.bl (decide (i<j))
def EK:R2D:=rI2 (fun _ _=>True) fun i j=>.bl (decide (i<=j))
def EI:R2D:=rI2 (fun _ _=>True) fun i j=>.bl (decide (j<i))
def ED:R2D:=rI2 (fun _ _=>True) fun i j=>.bl (decide (j<=i))
theorem cG:OpD X (Hi .Sub) CQ:=cz (ri0 AM) fun _ _ _=>by rw[Rep]
theorem aD:OpD X (Hi .Mult) CY:=cz (opI fun _ _ _ _ _ _ _ hc q=>mul_int q hc) fun _ _ _=>by rw[Rep]
theorem fm:OpD X (Hi .FloorDiv) Ep:=cz (opI fun _ _ _ _ _ _ _ hc q=>floordiv_int hc.1 q (.inl (PyProof.noPylong_of_log2 (Nat.lt_trans (hc.2.log2 (by decide)) (by decide))))) fun _ _ _=>by rw[Rep]
theorem fK:OpD X (Hi .Mod) D6:=cz zb fun _ _ _=>by rw[Rep]
theorem gY:OpD X (Hi .Pow) Ds:=cz Bs fun _ _ _=>by rw[Rep]
theorem Dh:OpD X (FC .Lt) EA:=cz (ri0 CH) fun _ _ _=>by rw[Rep]
theorem C5:OpD X (FC .LtE) EK:=cz (ri0 C0) fun _ _ _=>by rw[Rep]
theorem Cq:OpD X (FC .Gt) EI:=cz (ri0 Dt) fun _ _ _=>by rw[Rep]
theorem C3:OpD X (FC .GtE) ED:=cz (ri0 Co) fun _ _ _=>by rw[Rep]
def zd:D->MH->DK->Prop:=fun x M Q=>match x with
 |.int i=>Q (.int (-i)) M
 |_=>False
theorem gz:UnR X (unaryOp .USub) (zE X.K zd):=fun pins s σ H x v Q I r zz2_0=>by obtain⟨d,M,R,r1,a,q,fin⟩:=zz2_0;exact(B1 pins s σ H x v Q I r (by
 unfold zd at q
 split at q
 ·obtain rfl:x=.int _:=r1;exact⟨_,rfl,fin _ _ _ _ .refl (by rw[Rep]) a q⟩
 ·exact q.elim))
def zF:R2D:=fun x y M Q=>match x,y with
 |.int i,.int j=>Q (.int (i+j)) M
 |.tup a,.tup b=>a≠[]/\a.length+b.length<=Fb/\Q (.tup (a++b)) M
 |.ref a,.ref b=>∃xs ys,M a=some (.lst xs)/\M b=some (.lst ys)/\xs.length+ys.length<=Fb/\∀p,M p=none->Q (.ref p) (aw M p (.lst (xs++ys)))
 |_,_=>False
theorem aU:OpD X (Hi .Add) zF:=fN (AZ.or (xJ.or AA)) fun v u H Q z9=>by
 obtain⟨x,y,M,R,r1,r2,a,q,fin⟩:=z9;unfold zF at q;split at q
 ·obtain rfl:v=.int _:=r1;obtain rfl:u=.int _:=r2;exact .inl ⟨_,_,rfl,rfl,fin _ _ _ _ .refl (by rw[Rep]) a q⟩
 ·rename_i da db;obtain⟨hn,hl,q⟩:=q;rw[Rep]at r1;obtain⟨p,xs,rfl,hx,rx⟩:=r1;obtain⟨p',ys,rfl,hy,ry⟩:∃a xs,u=V.ref a/\SqT X.K H a xs/\aB X.K H db xs:=by rw[Rep]at r2;exact r2
  have l1:=rx.length;have l2:=ry.length;refine .inr (.inl ⟨p,p',xs,ys,rfl,rfl,hx,hy,?_,by omega,fun e=>?_,fun _ z hz=>?_⟩)
  ·intro e;subst e;exact hn (List.length_eq_zero_iff.mp (by simpa using l1))
  ·subst e;obtain rfl:db=[]:=List.length_eq_zero_iff.mp (by simpa using l2);exact fin _ _ _ _ .refl (by rw[Rep,GC];exact⟨p,xs,rfl,hx,rx⟩) a q
  ·exact fin _ _ _ _ (.new hz) (by rw[Rep];exact⟨z,_,rfl,SqT.of aM,(rx.append ry).mono (.new hz)⟩) (a.new hz) q
 ·obtain⟨ds,es,e1,e2,hl,q⟩:=q;obtain rfl:v=.ref _:=r1;obtain rfl:u=.ref _:=r2;obtain⟨xs,hx,rx⟩:=a _ _ e1;obtain⟨ys,hy,ry⟩:=a _ _ e2;have l1:=rx.length;have l2:=ry.length;exact .inr (.inr ⟨_,_,xs,ys,rfl,rfl,hx,hy,by omega,fun z hz=>fin _ _ _ _ (.new hz) (by rw[Rep]) (a.mi hz (rx.append ry)) (q z (a.fresh hz))⟩)
 ·exact q.elim
end
mutual
inductive Pd(M:MH):D->Im->Prop
 |non:Pd M .non .none
 |bl (b:Bool):Pd M (.bl b) (.bool b)
 |int (i:Int):Pd M (.int i) (.int i)
 |str (x:Str):Pd M (.str x) (.str x)
 |tup {ds:List D} {ps:List Im}:Pds M ds ps->Pd M (.tup ds) (.tuple ps)
 |rol {ds:List D} {ps:List Im}:Pds M ds ps->Pd M (.rol ds) (.list ps)
 |lst {a:Addr} {ds:List D} {ps:List Im}:M a=some (.lst ds)->Pds M ds ps->Pd M (.ref a) (.list ps)
inductive Pds(M:MH):List D->List Im->Prop
 |nil:Pds M [] []
 |cons {d:D} {ds:List D} {p:Im} {ps:List Im}:Pd M d p->Pds M ds ps->Pds M (d::ds) (p::ps)
end
mutual
def pdO:D->Option Im
 |.non=>some .none
 |.bl b=>some (.bool b)
 |.int i=>some (.int i)
 |.str x=>some (.str x)
 |.tup ds=>match qa ds with
  |some ps=>some (.tuple ps)
  |none=>none
 |_=>none
def qa:List D->Option (List Im)
 |[]=>some []
 |d::ds=>match pdO d,qa ds with
  |some p,some ps=>some (p::ps)
  |_,_=>none
end
mutual
theorem Pd.of{M:MH}:∀{d:D} {p:Im},pdO d=some p->Pd M d p
 |.non,p,h=>by rw[pdO]at h;cases h;exact .non
 |.bl b,p,h=>by rw[pdO]at h;cases h;exact .bl b
 |.int i,p,h=>by rw[pdO]at h;cases h;exact .int i
 |.str x,p,h=>by rw[pdO]at h;cases h;exact .str x
 |.ty _,p,h=>by simp[pdO]at h
 |.ref _,p,h=>by simp[pdO]at h
 |.rol _,p,h=>by simp[pdO]at h
 |.tup ds,p,h=>by
  rw[pdO]at h
  cases e:qa ds with
  |none=>rw[e]at h;cases h
  |some ps=>rw[e]at h;cases h;exact .tup (Pds.of e)
theorem Pds.of{M:MH}:∀{ds:List D} {ps:List Im},qa ds=some ps->Pds M ds ps
 |[],ps,h=>by rw[qa]at h;cases h;exact .nil
 |d::ds,ps,h=>by
  rw[qa]at h
  cases e1:pdO d with
  |none=>rw[e1]at h;cases h
  |some p=>
   cases e2:qa ds with
   |none=>rw[e1,e2]at h;cases h
   |some qs=>rw[e1,e2]at h;cases h;exact .cons (Pd.of e1) (Pds.of e2)
end
section
variable{X:Cx}{pins:List (Addr×Obj)}{σ:L2.St}{H:Hp}{s:E3}{M:MH}
mutual
theorem aV(I:Inv X pins σ H s)(hM:Abs X.K H M):∀{d:D} {p:Im} {v:V} {u:E1},Pd M d p->Rep X.K H d v->L2.RelV v u->∃as,Reads s.heap u p as
 |_,_,_,_,.non,r,e=>by rw[Rep]at r;subst r;cases e;exact⟨_,.none⟩
 |_,_,_,_,.bl b,r,e=>by rw[Rep]at r;subst r;cases e;exact⟨_,.bool b⟩
 |_,_,_,_,.int i,r,e=>by rw[Rep]at r;subst r;obtain⟨t,rfl⟩:=e;exact⟨_,.int i t⟩
 |_,_,_,_,.str x,r,e=>by rw[Rep]at r;subst r;obtain⟨t,rfl⟩:=e;exact⟨_,.str x t⟩
 |_,_,_,_,.tup hp,r,e=>by
  rw[Rep]at r
  obtain⟨a,xs,rfl,hq,rs⟩:=r
  cases e
  obtain⟨its,rv,⟨o,h1,h2,n,h3⟩,_⟩:=I.tuple hq
  obtain⟨as,hh⟩:=eW I hM hp rs rv
  exact⟨as,reads_tuple_at h1 h2 h3 (by simpa using hh)⟩
 |_,_,_,_,.rol hp,r,e=>by
  rw[Rep]at r
  obtain⟨a,xs,rfl,hq,rs⟩:=r
  cases e
  obtain⟨its,rv,⟨o,n,h1,h2,_,h3⟩,_⟩:=I.list hq.sql
  obtain⟨as,hh⟩:=eW I hM hp rs rv
  exact⟨_,reads_list_at h1 h2 h3 (by simpa using hh)⟩
 |_,_,_,_,.lst ha hp,r,e=>by
  rw[Rep]at r
  subst r
  cases e
  obtain⟨xs,hx,rs⟩:=hM _ _ ha
  obtain⟨its,rv,⟨o,n,h1,h2,_,h3⟩,_⟩:=I.list (SqL.of hx)
  obtain⟨as,hh⟩:=eW I hM hp rs rv
  exact⟨_,reads_list_at h1 h2 h3 (by simpa using hh)⟩
theorem eW(I:Inv X pins σ H s)(hM:Abs X.K H M):∀{ds:List D} {ps:List Im} {vs:List V} {us:List E1},Pds M ds ps->aB X.K H ds vs->Vals vs us->∃as,ReadsAll s.heap us ps as
 |_,_,_,_,.nil,r,e=>by rw[aB]at r;subst r;cases e;exact⟨_,.nil⟩
 |_,_,_,_,.cons h1 h2,r,e=>by
  rw[aB]at r
  obtain⟨x,r,rfl,r1,r2⟩:=r
  cases e with
  |cons e1 e2=>
   obtain⟨as,q1⟩:=aV I hM h1 r1 e1
   obtain⟨bs,q2⟩:=eW I hM h2 r2 e2
   exact⟨_,.cons q1 q2⟩
end
end
inductive rEqG(g:Bool->Bool)(x y:D)(M:MH)(Q:DK):Prop
 |mk (p q:Im) (h1:Pd M x p) (h2:Pd M y q) (h3:GD p=true) (h4:GD q=true) (hq:Q (.bl (g (FG p q))) M):rEqG g x y M Q
def yG:R2D:=fun x y M Q=>match x,y with
 |.int i,.int j=>Q (.bl (decide (i=j))) M
 |.bl i,.bl j=>Q (.bl (decide (i=j))) M
 |x,y=>rEqG (fun b=>b) x y M Q
def B3:R2D:=fun x y M Q=>match x,y with
 |.int i,.int j=>Q (.bl (!decide (i=j))) M
 |.bl i,.bl j=>Q (.bl (!decide (i=j))) M
 |x,y=>rEqG (fun b=>!b) x y M Q
section
variable{X:Cx}
theorem Ag(hu:X.A.units+64<G0):OpD X (FC .Eq) (rEqG fun b=>b):=by intro pins s σ H v u v' u' Q I rv ru h;obtain⟨x,y,M,R,r1,r2,a,⟨p,q,p1,p2,s1,s2,hq⟩,fin⟩:=h;obtain⟨as,q1⟩:=aV I a p1 r1 rv;obtain⟨bs,q2⟩:=aV I a p2 r2 ru;exact eq_dataH q1 q2 s1 s2 hu ⟨.bl _,H,I,rfl,fin _ _ _ _ .refl (by rw[Rep]) a hq⟩
theorem zY(hu:X.A.units+64<G0):OpD X (FC .NotEq) (rEqG fun b=>!b):=by intro pins s σ H v u v' u' Q I rv ru h;obtain⟨x,y,M,R,r1,r2,a,⟨p,q,p1,p2,s1,s2,hq⟩,fin⟩:=h;obtain⟨as,q1⟩:=aV I a p1 r1 rv;obtain⟨bs,q2⟩:=aV I a p2 r2 ru;exact ne_dataH q1 q2 s1 s2 hu ⟨.bl _,H,I,rfl,fin _ _ _ _ .refl (by rw[Rep]) a hq⟩
theorem iL{i j:Int}:(i==j)=decide (i=j):=by by_cases h:i=j<;>simp[h]
theorem ou{i j:Bool}:(i==j)=decide (i=j):=by cases i<;>cases j<;>rfl
theorem cg(hu:X.A.units+64<G0):OpD X (FC .Eq) yG:=fN (Ag hu) fun v u H Q z9=>by
 obtain⟨x,y,M,R,r1,r2,a,q,fin⟩:=z9;refine⟨x,y,M,R,r1,r2,a,?_,fin⟩;unfold yG at q;split at q
 ·exact⟨_,_,.int _,.int _,rfl,rfl,by simpa[FG,iL]using q⟩
 ·exact⟨_,_,.bl _,.bl _,rfl,rfl,by simpa[FG,ou]using q⟩
 ·exact q
theorem fH(hu:X.A.units+64<G0):OpD X (FC .NotEq) B3:=fN (zY hu) fun v u H Q z9=>by
 obtain⟨x,y,M,R,r1,r2,a,q,fin⟩:=z9;refine⟨x,y,M,R,r1,r2,a,?_,fin⟩;unfold B3 at q;split at q
 ·exact⟨_,_,.int _,.int _,rfl,rfl,by simpa[FG,iL]using q⟩
 ·exact⟨_,_,.bl _,.bl _,rfl,rfl,by simpa[FG,ou]using q⟩
 ·exact q
def isC:D->D->Option Bool
 |.non,.non=>some true
 |.non,.bl _=>some false
 |.bl _,.non=>some false
 |.bl a,.bl b=>some (decide (a=b))
 |_,.non=>some false
 |_,.bl _=>some false
 |_,_=>none
inductive rIsG(g:Bool->Bool)(x y:D)(M:MH)(Q:DK):Prop
 |mk (b:Bool) (h:isC x y=some b) (q:Q (.bl (g b)) M):rIsG g x y M Q
def El:R2D:=rIsG fun b=>b
theorem rV{K:E2}{H:Hp}{x y:D}{b:Bool}{v u:V}{v' u':E1}(h:isC x y=some b)(r1:Rep K H x v)(r2:Rep K H y u)(rv:L2.RelV v v')(ru:L2.RelV u u'):plainIs v' u'=true/\(v'==u')=b:=by
 have hu:u'=.none\/∃c,u'=.bool c:=by
  cases y with
  |non=>rw[Rep]at r2;subst r2;exact .inl ru
  |bl c=>rw[Rep]at r2;subst r2;exact .inr ⟨c,ru⟩
  |_=>cases x<;>exact absurd (show(none:Option Bool)=some b from h) (fun z=>nomatch z)
 cases x with
 |non=>
  rw[Rep]at r1;subst r1;cases (show v'=Gu from rv)
  cases y<;>try exact absurd (show(none:Option Bool)=some b from h) (fun z=>nomatch z)
  ·rw[Rep]at r2;subst r2;cases (show u'=Gu from ru);cases (show some true=some b from h);exact⟨rfl,rfl⟩
  ·rw[Rep]at r2;subst r2;cases (show u'=HM _ from ru);cases (show some false=some b from h);exact⟨rfl,rfl⟩
 |bl c=>
  rw[Rep]at r1;subst r1;cases (show v'=HM _ from rv)
  cases y<;>try exact absurd (show(none:Option Bool)=some b from h) (fun z=>nomatch z)
  ·rw[Rep]at r2;subst r2;cases (show u'=Gu from ru);cases (show some false=some b from h);exact⟨rfl,rfl⟩
  ·rename_i c';rw[Rep]at r2;subst r2;cases (show u'=HM _ from ru);cases (show some (decide (c=c'))=some b from h);refine⟨rfl,?_⟩;cases c<;>cases c'<;>rfl
 |int i=>
  rw[Rep]at r1;subst r1;obtain⟨t,rfl⟩:=rv
  cases y<;>first|exact absurd (show(none:Option Bool)=some b from h) (fun z=>nomatch z)|(cases (show some false=some b from h);rcases hu with rfl|⟨c,rfl⟩<;>exact⟨rfl,rfl⟩)
 |str i=>
  rw[Rep]at r1;subst r1;obtain⟨t,rfl⟩:=rv
  cases y<;>first|exact absurd (show(none:Option Bool)=some b from h) (fun z=>nomatch z)|(cases (show some false=some b from h);rcases hu with rfl|⟨c,rfl⟩<;>exact⟨rfl,rfl⟩)
 |ty i=>
  rw[Rep]at r1;subst r1;cases (show v'=Ht _ from rv)
  cases y<;>first|exact absurd (show(none:Option Bool)=some b from h) (fun z=>nomatch z)|(cases (show some false=some b from h);rcases hu with rfl|⟨c,rfl⟩<;>exact⟨rfl,rfl⟩)
 |ref i=>
  rw[Rep]at r1;subst r1;cases (show v'=FZ _ from rv)
  cases y<;>first|exact absurd (show(none:Option Bool)=some b from h) (fun z=>nomatch z)|(cases (show some false=some b from h);rcases hu with rfl|⟨c,rfl⟩<;>exact⟨rfl,rfl⟩)
 |rol i=>
  rw[Rep]at r1;obtain⟨a,xs,rfl,_,_⟩:=r1;cases (show v'=FZ _ from rv)
  cases y<;>first|exact absurd (show(none:Option Bool)=some b from h) (fun z=>nomatch z)|(cases (show some false=some b from h);rcases hu with rfl|⟨c,rfl⟩<;>exact⟨rfl,rfl⟩)
 |tup i=>
  rw[Rep]at r1;obtain⟨a,xs,rfl,_,_⟩:=r1;cases (show v'=FZ _ from rv)
  cases y<;>first|exact absurd (show(none:Option Bool)=some b from h) (fun z=>nomatch z)|(cases (show some false=some b from h);rcases hu with rfl|⟨c,rfl⟩<;>exact⟨rfl,rfl⟩)
theorem vg:OpD X (FC .Is) El:=by intro pins s σ H v u v' u' Q I rv ru h;obtain⟨x,y,M,R,r1,r2,a,⟨b,e,q⟩,fin⟩:=h;obtain⟨e1,e2⟩:=rV e r1 r2 rv ru;exact wpAny_is_plain e1 ⟨.bl b,H,I,by rw[e2];rfl,fin _ _ _ _ .refl (by rw[Rep]) a q⟩
end
abbrev RC:=List D->MH->DK->Prop
def zH(K:E2)(r:RC):List V->Hp->VK->Prop:=fun vs H Q=>∃ds M R,aB K H ds vs/\Abs K H M/\r ds M R/\Fin K H R Q
def cI(X:Cx)(f:E1)(r:RC):Prop:=bE X f (zH X.K r)
theorem br{X:Cx}{f:E1}{r r':List V->Hp->VK->Prop}(h:bE X f r)(k:∀xs H Q,r' xs H Q->r xs H Q):bE X f r':=fun pins s σ H xs us Q I a q=>h pins s σ H xs us Q I a (k _ _ _ q)
def AD(r:RC)(t:TAD):TD:=fun δ M Q=>t δ M fun ds M1=>r ds M1 Q
theorem rG{K:E2}{r:RC}{t:TAD}{σ:L2.St}{H:Hp}{Q:VK}(h:lift K (AD r t) σ H Q):tCB (zH K r) (zK K t) σ H Q:=by obtain⟨δ,M,R,hs,hM,q,fin⟩:=h;exact⟨δ,M,_,hs,hM,q,fun ds M1 vs H1 g1 r1 a1 q1=>⟨ds,M1,R,r1,a1,q1,fin.go g1⟩⟩
section
variable{X:Cx}{x:Str}{p pos:Pos}{e:Expr}{es:List Expr}{t:TAD}{id T:String}{r:RC}
theorem aI(hc:cI X (.builtin id) r)(hg:Gl X x)(hm:X.mg x=none)(hv:G5 x=some (.builtin id))(ha:DA X (e::es) t)(hn:x≠"__name__":=by decide)(hdb:(x==("__debug__":Str))=false:=by decide) (he:Fc (e::es) X.env=(false,eval e X.env)::Fc es X.env:=by rfl) (hpl:(GK pos (Fc es X.env)).any (·.1)=false:=by rfl):DE X (.Call (.Name x p) (e::es) [] pos) (AD r t):=aP (nC hc hg hm hv ha hn hdb he hpl) fun _ _ _ h=>rG h
theorem cj(hc:cI X (.type T) r)(hg:Gl X x)(hm:X.mg x=none)(hv:G5 x=some (.type T))(ha:DA X (e::es) t)(hn:x≠"__name__":=by decide)(hdb:(x==("__debug__":Str))=false:=by decide) (he:Fc (e::es) X.env=(false,eval e X.env)::Fc es X.env:=by rfl) (hpl:(GK pos (Fc es X.env)).any (·.1)=false:=by rfl):DE X (.Call (.Name x p) (e::es) [] pos) (AD r t):=aP (kP hc hg hm hv ha hn hdb he hpl) fun _ _ _ h=>rG h
theorem bL{K:E2}{H:Hp}{d:D}{vs:List V}(h:aB K H [d] vs):∃v,vs=[v]/\Rep K H d v:=by rw[aB]at h;obtain⟨x,r,rfl,h1,h2⟩:=h;rw[aB]at h2;subst h2;exact⟨x,rfl,h1⟩
theorem d5{K:E2}{H:Hp}{d e:D}{vs:List V}(h:aB K H [d,e] vs):∃v u,vs=[v,u]/\Rep K H d v/\Rep K H e u:=by rw[aB]at h;obtain⟨x,r,rfl,h1,h2⟩:=h;obtain⟨u,rfl,h3⟩:=bL h2;exact⟨x,u,rfl,h1,h3⟩
def C8:RC:=fun ds M Q=>match ds with
 |[.int i]=>Q (.int (i.natAbs:Int)) M
 |_=>False
theorem mJ:cI X (.builtin "abs") C8:=br uC fun vs H Q z9=>by
 obtain⟨ds,M,R,rs,a,q,fin⟩:=z9;unfold C8 at q;split at q
 ·rename_i i;obtain⟨v,rfl,r⟩:=bL rs;rw[Rep]at r;subst r;have e:(if i<0 then -i else i)=(i.natAbs:Int):=by split<;>omega
  exact⟨_,rfl,fin _ _ _ _ .refl (by rw[Rep,e]) a q⟩
 ·exact q.elim
def DQ:RC:=fun ds M Q=>match ds with
 |[.int i,.int j]=>Q (.int (max i j)) M
 |_=>False
def CG:RC:=fun ds M Q=>match ds with
 |[.int i,.int j]=>Q (.int (min i j)) M
 |_=>False
theorem zW(hc:X.calm=true):cI X (.builtin "max") DQ:=br (sP hc) fun vs H Q z9=>by
 obtain⟨ds,M,R,rs,a,q,fin⟩:=z9;unfold DQ at q;split at q
 ·rename_i i j;obtain⟨v,u,rfl,r,r'⟩:=d5 rs;rw[Rep]at r;subst r;have r2:u=.int j:=by rw[Rep]at r';exact r'
  subst r2;have e:(if j>i then j else i)=max i j:=by split<;>omega
  exact⟨_,_,rfl,fin _ _ _ _ .refl (by rw[Rep,e]) a q⟩
 ·exact q.elim
theorem BE(hc:X.calm=true):cI X (.builtin "min") CG:=br (tL hc) fun vs H Q z9=>by
 obtain⟨ds,M,R,rs,a,q,fin⟩:=z9;unfold CG at q;split at q
 ·rename_i i j;obtain⟨v,u,rfl,r,r'⟩:=d5 rs;rw[Rep]at r;subst r;have r2:u=.int j:=by rw[Rep]at r';exact r'
  subst r2;have e:(if j<i then j else i)=min i j:=by split<;>omega
  exact⟨_,_,rfl,fin _ _ _ _ .refl (by rw[Rep,e]) a q⟩
 ·exact q.elim
def Ci:RC:=fun ds M Q=>match ds with
 |[.tup xs]=>Q (.int (xs.length:Int)) M
 |[.rol xs]=>Q (.int (xs.length:Int)) M
 |[.ref l]=>∃xs,M l=some (.lst xs)/\Q (.int (xs.length:Int)) M
 |_=>False
theorem dR:cI X (.builtin "len") Ci:=br my fun vs H Q z9=>by
 obtain⟨ds,M,R,rs,a,q,fin⟩:=z9;unfold Ci at q;split at q
 ·obtain⟨v,rfl,r⟩:=bL rs;rw[Rep]at r;obtain⟨l,xs,rfl,h1,h2⟩:=r;exact⟨l,xs,rfl,.inr h1,fin _ _ _ _ .refl (by rw[Rep,h2.length]) a q⟩
 ·obtain⟨v,rfl,r⟩:=bL rs;rw[Rep]at r;obtain⟨l,xs,rfl,h1,h2⟩:=r;exact⟨l,xs,rfl,.inl h1.sql,fin _ _ _ _ .refl (by rw[Rep,h2.length]) a q⟩
 ·obtain⟨v,rfl,r⟩:=bL rs;rw[Rep]at r;subst r;obtain⟨xs,e,q⟩:=q;obtain⟨ys,h1,h2⟩:=a _ _ e;exact⟨_,ys,rfl,.inl (SqL.of h1),fin _ _ _ _ .refl (by rw[Rep,h2.length]) a q⟩
 ·exact q.elim
def vq:RC:=fun ds M Q=>match ds with
 |[.tup xs]=>Q (.tup xs) M
 |[.rol xs]=>Q (.tup xs) M
 |[.ref l]=>∃xs,M l=some (.lst xs)/\Q (.tup xs) M
 |_=>False
theorem vb:cI X (.type "tuple") vq:=br kI fun vs H Q z9=>by
 obtain⟨ds,M,R,rs,a,q,fin⟩:=z9;unfold vq at q;split at q
 ·obtain⟨v,rfl,r⟩:=bL rs;rw[Rep]at r;obtain⟨l,xs,rfl,h1,h2⟩:=r;exact⟨l,xs,rfl,.inr ⟨h1,fin _ _ _ _ .refl (by rw[Rep];exact⟨l,xs,rfl,h1,h2⟩) a q⟩⟩
 ·obtain⟨v,rfl,r⟩:=bL rs;rw[Rep]at r;obtain⟨l,xs,rfl,h1,h2⟩:=r;exact⟨l,xs,rfl,.inl ⟨h1.sql,fun p hp=>fin _ _ _ _ (.new hp) (by rw[Rep];exact⟨p,xs,rfl,SqT.of aM,h2.mono (.new hp)⟩) (a.new hp) q⟩⟩
 ·obtain⟨v,rfl,r⟩:=bL rs;rw[Rep]at r;subst r;obtain⟨xs,e,q⟩:=q;obtain⟨ys,h1,h2⟩:=a _ _ e;exact⟨_,ys,rfl,.inl ⟨SqL.of h1,fun p hp=>fin _ _ _ _ (.new hp) (by rw[Rep];exact⟨p,ys,rfl,SqT.of aM,h2.mono (.new hp)⟩) (a.new hp) q⟩⟩
 ·exact q.elim
def zT:RC:=fun ds M Q=>match ds with
 |[.int i]=>Q (.int i) M
 |[.bl k]=>Q (.int (if k=true then 1 else 0)) M
 |_=>False
theorem mB:cI X (.type "int") zT:=br sF fun vs H Q z9=>by
 obtain⟨ds,M,R,rs,a,q,fin⟩:=z9;unfold zT at q;split at q
 ·obtain⟨v,rfl,r⟩:=bL rs;rw[Rep]at r;subst r;exact .inl ⟨_,rfl,fin _ _ _ _ .refl (by rw[Rep]) a q⟩
 ·obtain⟨v,rfl,r⟩:=bL rs;rw[Rep]at r;subst r;exact .inr ⟨_,rfl,fin _ _ _ _ .refl (by rw[Rep]) a q⟩
 ·exact q.elim
def tyN:D->Option String
 |.non=>some "NoneType"
 |.bl _=>some "bool"
 |.int _=>some "int"
 |.str _=>some "str"
 |.tup _=>some "tuple"
 |.rol _=>some "list"
 |_=>none
def qy(K:E2):RC:=fun ds M Q=>match ds with
 |[x,.ty n]=>∃t b,tyN x=some t/\PySem.W.kitOne K (.type t) (.type n)=some b/\Q (.bl b) M
 |_=>False
theorem lI:cI X (.builtin "isinstance") (qy X.K):=by
 intro pins s σ H vs us Q I rv z0;obtain⟨ds,M,R,rs,a,q,fin⟩:=z0;unfold qy at q;split at q
 ·rename_i x n;obtain⟨v,u,rfl,r,r'⟩:=d5 rs;rw[Rep]at r';subst r';obtain⟨v',u',rfl,rw0,ru⟩:=vals2 rv;cases (show u'=Ht n from ru);obtain⟨t,b,et,e,q⟩:=q;have h:∀tk,EP X pins σ Q (.bool b) { s with toks:=tk }:=fun tk=>⟨.bl b,H,I.tok tk,rfl,fin _ _ _ _ .refl (by rw[Rep]) a q⟩;cases x with
  |non=>cases et;rw[Rep]at r;subst r;cases (show v'=Gu from rw0);exact PySem.W.kia_one PySem.W.kitx_none I.kIn Il e (fun z=>nomatch z) h
  |bl y=>cases et;rw[Rep]at r;subst r;cases (show v'=HM y from rw0);exact PySem.W.kia_one PySem.W.kitx_bool I.kIn Il e (fun z=>nomatch z) h
  |int y=>cases et;rw[Rep]at r;subst r;obtain⟨t,q⟩:=(show ∃t,v'=Value.int y t from rw0);cases q;exact PySem.W.kia_one PySem.W.kitx_int I.kIn Il e (fun z=>nomatch z) h
  |str y=>cases et;rw[Rep]at r;subst r;obtain⟨t,q⟩:=(show ∃t,v'=Value.str y t from rw0);cases q;exact PySem.W.kia_one PySem.W.kitx_str I.kIn Il e (fun z=>nomatch z) h
  |tup y=>
   cases et;rw[Rep]at r
   obtain⟨p,xs,rfl,h1,_⟩:=r
   cases (show v'=FZ p from rw0)
   obtain⟨its,_,⟨o,z1,z2,_⟩,_⟩:=I.tuple h1
   exact PySem.W.kia_one PySem.W.kitx_tuple I.kIn ⟨o,z1,z2⟩ e (fun z=>nomatch z) h
  |rol y=>
   cases et;rw[Rep]at r
   obtain⟨p,xs,rfl,h1,_⟩:=r
   cases (show v'=FZ p from rw0)
   obtain⟨its,_,⟨o,n,z1,z2,_⟩,_⟩:=I.list h1.sql
   exact PySem.W.kia_one PySem.W.kitx_list I.kIn ⟨o,z1,z2⟩ e (fun z=>nomatch z) h
  |_=>cases et
 ·exact q.elim
end
abbrev TGD:=D->DS->MH->(DS->MH->Prop)->Prop
abbrev qo:=List D->DS->MH->(DS->MH->Prop)->Prop
section
variable(K:E2)
def wt(H:Hp)(R:DS->MH->Prop)(Q:L2.St->Hp->Prop):Prop:=∀δ' M' σ' H',Grow K H H'->Slots K H' δ' σ'->Abs K H' M'->R δ' M'->Q σ' H'
def DF(t:TGD):TG:=fun v σ H Q=>∃d δ M R,Rep K H d v/\Slots K H δ σ/\Abs K H M/\t d δ M R/\wt K H R Q
def Br(t:qo):TGs:=fun vs σ H Q=>∃ds δ M R,aB K H ds vs/\Slots K H δ σ/\Abs K H M/\t ds δ M R/\wt K H R Q
end
theorem wt.go{K:E2}{H H1:Hp}{R:DS->MH->Prop}{Q:L2.St->Hp->Prop}(g:Grow K H H1)(h:wt K H R Q):wt K H1 R Q:=fun d M v H' g'=>h d M v H' (g.trans g')
def DG(X:Cx)(e:Expr)(t:TGD):Prop:=PG X e (DF X.K t)
def DGs(X:Cx)(es:List Expr)(t:qo):Prop:=PGs X es (Br X.K t)
theorem qu{X:Cx}{e:Expr}{t t':TG}(h:PG X e t)(k:∀v σ H Q,t' v σ H Q->t v σ H Q):PG X e t':=fun pins s σ H v u Q I r q=>h pins s σ H v u Q I r (k _ _ _ _ q)
theorem qz{X:Cx}{e:List Expr}{t t':TGs}(h:PGs X e t)(k:∀v σ H Q,t' v σ H Q->t v σ H Q):PGs X e t':=fun pins s σ H v u Q I r q=>h pins s σ H v u Q I r (k _ _ _ _ q)
section
variable{X:Cx}{pos:Pos}
def bc(i:Nat):TGD:=fun d δ M Q=>Q (δ.set i (some d)) M
theorem ax(i:Nat){x:Str}(hN:X.N.Nodup)(hi:X.N[i]?=some x:=by rfl)(hx:Loc X.env.scope x:=by first|exact Or.inl rfl|exact Or.inr rfl)(hf:X.fn x=true\/X.env.scope.names.lookup x=some .local:=by first|exact .inl rfl|exact .inr rfl|assumption):DG X (.Name x pos) (bc i):=qu (qF hN hi hx hf) fun v σ H Q zz1_0=>by obtain⟨d,δ,M,R,r,hs,a,q,fin⟩:=zz1_0;exact(fin _ _ _ _ .refl (hs.set r i) a q)
def CF:qo:=fun ds δ M Q=>ds=[]/\Q δ M
inductive gConsD(t:TGD)(u:qo)(ds:List D)(δ:DS)(M:MH)(Q:DS->MH->Prop):Prop
 |mk (d:D) (r:List D) (h:ds=d::r) (q:t d δ M fun δ' M'=>u r δ' M' Q):gConsD t u ds δ M Q
theorem aR:DGs X [] CF:=qz rJ fun vs σ H Q z9=>by obtain⟨ds,δ,M,R,rs,hs,a,⟨e,q⟩,fin⟩:=z9;subst e;rw[aB]at rs;exact⟨rs,fin _ _ _ _ .refl hs a q⟩
theorem ay{e:Expr}{es:List Expr}{t:TGD}{u:qo}(h1:DG X e t)(h2:DGs X es u) (hs:(Ij (e::es) X.env).map (·.2)=Io e X.env::(Ij es X.env).map (·.2):=by rfl):DGs X (e::es) (gConsD t u):=qz (i9 h1 h2 hs) fun vs σ H Q z9=>by obtain⟨ds,δ,M,R,rs,hs,a,⟨d,r,e,q⟩,fin⟩:=z9;subst e;rw[aB]at rs;obtain⟨x,xs,rfl,r1,r2⟩:=rs;exact⟨x,xs,rfl,d,δ,M,_,r1,hs,a,q,fun δ' M' σ' H' g' s' a' q'=>⟨r,δ',M',R,r2.mono g',s',a',q',fin.go g'⟩⟩
inductive gTupD(n:Nat)(t:qo)(d:D)(δ:DS)(M:MH)(Q:DS->MH->Prop):Prop
 |mk (ds:List D) (h:d=.tup ds) (q:ds.length=n/\t ds δ M Q):gTupD n t d δ M Q
theorem bj{es:List Expr}{k:Nat}{t:qo}{n:Nat}(hc:X.calm=true)(h:DGs X es t) (hn:(Ij es X.env).length=n:=by rfl) (hst:(Ij es X.env).findIdx? (·.1)=none:=by rfl):DG X (.Tuple es k pos) (gTupD n t):=qu (wI hc h hn hst) fun v σ H Q z9=>by obtain⟨d,δ,M,R,r,hs,a,⟨ds,e,hl,q⟩,fin⟩:=z9;subst e;rw[Rep]at r;obtain⟨p,xs,rfl,h1,h2⟩:=r;exact⟨p,xs,rfl,h1,by rw[<-h2.length];exact hl,ds,δ,M,R,h2,hs,a,q,fin⟩
def zP:D->D->D->MH->(MH->Prop)->Prop:=fun o i v M Q=>match o,i with
 |.ref p,.int k=>∃ds j,M p=some (.lst ds)/\ixN ds.length k=some j/\Q (aw M p (.lst (ds.set j v)))
 |_,_=>False
def CS(to ti:TD):TGD:=fun v δ M Q=>to δ M fun o M1=>ti δ M1 fun i M2=>zP o i v M2 fun M3=>Q δ M3
theorem mK{o i:Expr}{to ti:TD}(ho:DE X o to)(hi:DE X i ti)
 (ha:∀v,Io (.Subscript o i pos) X.env v=(do
  let ov <-holding [v] (eval o X.env)
  let iv <-holding [v,ov] (eval i X.env)
  standAt pos
  holding [v,ov,iv] (setItem ov iv v)
  release [v,ov,iv] []):=by intro _;rfl):DG X (.Subscript o i pos) (CS to ti):=
 qu (AS ho hi set_list ha) fun v σ H Q ⟨d,δ,M,R,r,hs,a,q,fin⟩=>
  ⟨δ,M,_,hs,a,q,fun o M1 vo H1 g1 r1 a1 q1=>⟨δ,M1,_,hs.mono g1,a1,q1,fun i M2 vi H2 g2 r2 a2 q2=>by
   unfold zP at q2
   split at q2
   ·obtain⟨ds,j,e1,e2,q2⟩:=q2
    obtain rfl:vo=.ref _:=r1
    obtain rfl:vi=.int _:=r2
    obtain⟨xs,h1,h2⟩:=a2 _ _ e1
    refine⟨_,xs,_,j,rfl,rfl,h1,by rw[<-h2.length];exact e2,?_⟩
    have g3:Grow X.K H2 (upd H2 _ (.lst (xs.set j v))):=.lst h1
    exact fin _ _ _ _ ((g1.trans g2).trans g3) (hs.mono ((g1.trans g2).trans g3)) (a2.wW h1 (h2.set (r.mono (g1.trans g2)) j)) q2
   ·exact q2.elim⟩⟩
end
section
variable{X:Cx}{pos:Pos}{st:Stmt}{rest:List Stmt}{t u:TSD}
def cn:TSD:=fun B δ M=>B.nx δ M
def d6(t u:TSD):TSD:=fun B δ M=>t { B with nx:=u B } δ M
theorem aL:DSs X [] cn:=rQ yL fun E σ H zz2_0=>by obtain⟨δ,M,hs,a,B,ok,q⟩:=zz2_0;exact(ok.nx _ _ _ _ .refl hs a q)
theorem ai(h1:DSt X st t)(h2:DSs X rest u):DSs X (st::rest) (d6 t u):=rQ (wo h1 h2) fun E σ H zz3_0=>by obtain⟨δ,M,hs,a,B,ok,q⟩:=zz3_0;exact(⟨δ,M,hs,a,{ B with nx:=u B },⟨fun δ' M' σ' H' g s' a' q'=>⟨δ',M',s',a',B,ok.go g,q'⟩,ok.rt,ok.bk,ok.ct⟩,q⟩)
theorem aq(h1:DSt X st t):DSs X [st] t:=yN h1
def yk:TSD:=fun _ _ _=>False
theorem uE:DSt X st yk:=bW uS fun E σ H zz7_0=>by obtain⟨δ,M,hs,a,B,ok,q⟩:=zz7_0;exact(q.elim)
def cT(te:TD):TSD:=fun B δ M=>te δ M fun _ M1=>B.nx δ M1
theorem dS{e:Expr}{te:TD}(he:DE X e te)(hs:HI e none pos.line X.env=pure false:=by rfl):DSt X (.Expr e pos) (cT te):=bW (xx he hs) fun E σ H zz9_0=>by obtain⟨δ,M,hs,a,B,ok,q⟩:=zz9_0;exact(⟨δ,M,_,hs,a,q,fun d M1 v H1 g1 r1 a1 q1=>ok.nx _ _ _ _ g1 (hs.mono g1) a1 q1⟩)
def eQ(te:TD):TSD:=fun B δ M=>te δ M B.rt
theorem az{e:Expr}{te:TD}(he:DE X e te):DSt X (.Return (some e) pos) (eQ te):=bW (Ce he) fun E σ H zz10_0=>by obtain⟨δ,M,hs,a,B,ok,q⟩:=zz10_0;exact(⟨δ,M,_,hs,a,q,fun d M1 v H1 g1 r1 a1 q1=>ok.rt _ _ _ _ g1 r1 a1 q1⟩)
def eJ(c:TTD)(t u:TSD):TSD:=fun B δ M=>c δ M fun b M1=>if b=true then t B δ M1 else u B δ M1
theorem bo{c:Expr}{a b:List Stmt}{tc:TTD}(hc:DT X c tc)(ha:DSs X a t)(hb:DSs X b u):DSt X (.If c a b pos) (eJ tc t u):=
 bW (DZ hc ha hb) fun E σ H zz12_0=>by obtain⟨δ,M,hs,a,B,ok,q⟩:=zz12_0;exact(⟨δ,M,_,hs,a,q,fun c M1 H1 g1 a1 q1=>by
  cases c with
  |true=>rw[if_pos rfl]at q1 ⊢;exact⟨δ,M1,hs.mono g1,a1,B,ok.go g1,q1⟩
  |false=>rw[if_neg F4]at q1 ⊢;exact⟨δ,M1,hs.mono g1,a1,B,ok.go g1,q1⟩⟩)
def cK(te:TD)(g:TGD):TSD:=fun B δ M=>te δ M fun d M1=>g d δ M1 B.nx
theorem bR{tg e:Expr}{te:TD}{g:TGD}(he:DE X e te)(hg:DG X tg g)(hs:swapsWithSole [tg] e pos.line X.env=pure false:=by rfl)(hw:swappedStores [tg] e X.env=pure none:=by rfl)
 (h1:(Ij [tg] X.env).map (·.2)=[Io tg X.env]:=by rfl):DSt X (.Assign [tg] e pos) (cK te g):=
 bW (AB he hg hs hw h1) fun E σ H zz13_0=>by obtain⟨δ,M,hs,a,B,ok,q⟩:=zz13_0;exact(⟨δ,M,_,hs,a,q,fun d M1 v H1 g1 r1 a1 q1=>
  ⟨d,δ,M1,B.nx,r1,hs.mono g1,a1,q1,fun δ' M' σ' H' g' s' a' q'=>ok.nx _ _ _ _ (g1.trans g') s' a' q'⟩⟩)
theorem aA(i:Nat){x:Str}{e:Expr}{te:TD}{pos':Pos}(hN:X.N.Nodup)(he:DE X e te)(hi:X.N[i]?=some x:=by rfl)(hx:Loc X.env.scope x:=by first|exact Or.inl rfl|exact Or.inr rfl)(hs:HI e (some (.Name x pos')) pos.line X.env=pure false:=by rfl) (hf:X.fn x=true\/X.env.scope.names.lookup x=some .local:=by first|exact .inl rfl|exact .inr rfl|assumption):DSt X (.Assign [.Name x pos'] e pos) (cK te (bc i)):=bW (AE hN hi hx he hs hf) fun E σ H zz14_0=>by obtain⟨δ,M,hs,a,B,ok,q⟩:=zz14_0;exact(⟨δ,M,_,hs,a,q,fun d M1 v H1 g1 r1 a1 q1=>ok.nx _ _ _ _ g1 ((hs.mono g1).set r1 i) a1 q1⟩)
def C7(i j:Nat)(ta:TAD):TSD:=fun B δ M=>ta δ M fun ds M1=>∃d e,ds=[d,e]/\B.nx ((δ.set i (some d)).set j (some e)) M1
theorem dM(i j:Nat){x y:Str}{a b:Expr}{ta:TAD}{px py pt:Pos}{kt k2 pt2}(hc:X.calm=true)(hN:X.N.Nodup)(ha:DA X [a,b] ta)(hij:i≠j:=by decide)(hi:X.N[i]?=some x:=by rfl)(hj:X.N[j]?=some y:=by rfl)
 (hx:X.env.scope.names.lookup x=some .local:=by rfl) (hy:X.env.scope.names.lookup y=some .local:=by rfl)
 (hw:swappedStores [.Tuple [.Name x px,.Name y py] kt pt] (.Tuple [a,b] k2 pt2) X.env=pure (some [x,y]):=by rfl)
 (hs:swapsWithSole [.Tuple [.Name x px,.Name y py] kt pt] (.Tuple [a,b] k2 pt2) pos.line X.env=pure false:=by rfl) :
 DSt X (.Assign [.Tuple [.Name x px,.Name y py] kt pt] (.Tuple [a,b] k2 pt2) pos) (C7 i j ta):=
 bW (Aw hc hN hi hj hij hx hy ha hw hs) fun E σ H zz15_0=>by obtain⟨δ,M,hs,a,B,ok,q⟩:=zz15_0;exact(⟨δ,M,_,hs,a,q,fun ds M1 vs H1 g1 r1 a1 z9=>by
  obtain⟨d,e,z,q1⟩:=z9
  subst z
  obtain⟨v,u,rfl,r2,r3⟩:=d5 r1
  exact⟨v,u,rfl,ok.nx _ _ _ _ g1 (((hs.mono g1).set r2 i).set r3 j) a1 q1⟩⟩)
def yV(c:TTD)(tb:TSD):TSD:=fun B δ M=>∃W:Nat->DS->MH->Prop,(∃m,W m δ M)/\∀m δ M,W m δ M->
 c δ M fun b M1=>if b=true then tb { B with nx:=fun δ' M'=>∃m',m'<m/\W m' δ' M',ct:=fun δ' M'=>∃m',m'<m/\W m' δ' M',bk:=B.nx } δ M1 else B.nx δ M1
theorem gv{c:Expr}{body:List Stmt}{tc:TTD}{tb:TSD}(hp:PassesOwn (F6 X.prog X.w) X.A X.env X.xe)(hc:DT X c tc)(hb:DSs X body tb):DSt X (.While c body [] pos) (yV tc tb):=
 bW (ur hp hc hb) fun E σ H z9=>by
  obtain⟨δ,M,hs,a,B,ok,W,⟨m,w0⟩,turn⟩:=z9
  refine⟨fun m σ H'=>Grow X.K H H'/\∃δ M,Slots X.K H' δ σ/\Abs X.K H' M/\W m δ M,⟨m,.refl,δ,M,hs,a,w0⟩,?_⟩
  rintro m σ H' ⟨g,δ,M,hs,a,w0⟩
  refine⟨δ,M,_,hs,a,turn m δ M w0,fun b M1 H1 g1 a1 q1=>?_⟩
  cases b with
  |true=>
   rw[if_pos rfl]at q1 ⊢
   refine⟨fun σ2 H2=>∃m',m'<m/\(Grow X.K H H2/\∃δ M,Slots X.K H2 δ σ2/\Abs X.K H2 M/\W m' δ M),fun σ' H' h=>h,δ,M1,hs.mono g1,a1,_,?_,q1⟩
   refine⟨fun δ' M' σ' H' g' s' a' zz16_0=>by obtain⟨m',l,w'⟩:=zz16_0;exact(⟨m',l,(g.trans g1).trans g',δ',M',s',a',w'⟩),fun d M v H' g'=>ok.rt d M v H' ((g.trans g1).trans g'),fun δ' M' σ' H' g' s' a' q'=>ok.nx _ _ _ _ ((g.trans g1).trans g') s' a' q',fun δ' M' σ' H' g' s' a' zz17_0=>by obtain⟨m',l,w'⟩:=zz17_0;exact(⟨m',l,(g.trans g1).trans g',δ',M',s',a',w'⟩)⟩
  |false=>
   rw[if_neg F4]at q1 ⊢
   exact ok.nx _ _ _ _ (g.trans g1) (hs.mono g1) a1 q1
inductive ForW(g:TGD)(tb:TSD)(B:EndsD)(n:Nat)(δ0:DS)(M0:MH):Prop
 |mk (W:Nat->DS->MH->Prop) (w0:W 0 δ0 M0) (turn:∀i δ M,i<n->W i δ M->g (.int (i:Int)) δ M fun δ2 M2=>tb { B with nx:=W (i+1),ct:=W (i+1),bk:=B.nx } δ2 M2) (done:∀δ M,W n δ M->B.nx δ M):ForW g tb B n δ0 M0
inductive ForR(g:TGD)(tb:TSD)(B:EndsD)(ds:List D)(δ0:DS)(M0:MH):Prop
 |mk (n:Nat) (e:ds=[.int (n:Int)]) (q:n<2^60/\ForW g tb B n δ0 M0):ForR g tb B ds δ0 M0
def BR(ta:TAD)(g:TGD)(tb:TSD):TSD:=fun B δ M=>ta δ M fun ds M1=>ForR g tb B ds δ M1
theorem gw{tg e:Expr}{body:List Stmt}{ta:TAD}{g:TGD}{tb:TSD}{p p2:Pos}(hp:PassesOwn (F6 X.prog X.w) X.A X.env X.xe)(hc:X.calm=true)(hg:Gl X "range")(hm:X.mg "range"=none)(ha:DA X [e] ta)(hG:DG X tg g)(hb:DSs X body tb)
 (hs:Fc [e] X.env=[(false,eval e X.env)]:=by rfl) (hf:∀x,FD (.Call (.Name "range" p) [e] [] p2) X.env x=pure x:=by intro _;rfl):DSt X (.For tg (.Call (.Name "range" p) [e] [] p2) body [] pos) (BR ta g tb):=
 bW (wV hp hc (sH hg hm ha hs) hG hb hf) fun E σ H ⟨δ,M,hs,a,B,ok,q⟩=>⟨δ,M,_,hs,a,q,fun ds M1 vs H1 g1 r1 a1 z9=>by
  obtain⟨n,e,hn,W,w0,turn,done⟩:=z9
  subst e
  obtain⟨v,rfl,r⟩:=bL r1
  rw[Rep]at r;subst r
  refine⟨(n:Int),rfl,by omega,by omega,?_⟩
  rw[show((n:Int)).toNat=n from by simp]
  refine sD (fun i σ H'=>Grow X.K H H'/\∃δ M,Slots X.K H' δ σ/\Abs X.K H' M/\W i δ M) ⟨g1,δ,M1,hs.mono g1,a1,w0⟩ ?_ ?_
  ·rintro i σ H2 hi ⟨g2,δ,M,s2,a2,w2⟩
   refine⟨.int (i:Int),δ,M,_,by rw[Rep];simp,s2,a2,turn i δ M hi w2,fun δ3 M3 σ3 H3 g3 s3 a3 q3=>?_⟩
   refine⟨δ3,M3,s3,a3,_,?_,q3⟩
   exact⟨fun δ' M' σ' H' g' s' a' w'=>⟨(g2.trans g3).trans g',δ',M',s',a',w'⟩,fun d M v H' g'=>ok.rt d M v H' ((g2.trans g3).trans g'),fun δ' M' σ' H' g' s' a' q'=>ok.nx _ _ _ _ ((g2.trans g3).trans g') s' a' q',fun δ' M' σ' H' g' s' a' w'=>⟨(g2.trans g3).trans g',δ',M',s',a',w'⟩⟩
  ·rintro σ H2 ⟨g2,δ,M,s2,a2,w2⟩
   exact ok.nx _ _ _ _ g2 s2 a2 (done δ M w2)⟩
end
theorem tP{b:Bool}{A B:Prop}(e:b=true)(h:A):if b=true then A else B:=by rw[if_pos e];exact h
theorem iF{b:Bool}{A B:Prop}(e:b=false)(h:B):if b=true then A else B:=by rw[if_neg (by rw[e];exact F4)];exact h
theorem orV{ta tb:TD}{δ:DS}{M:MH}{Q:DK}(c1 c2:Bool)(ha:∀K:DK,K (.bl c1) M->ta δ M K)(hb:c1=false->∀K:DK,K (.bl c2) M->tb δ M K)(hq:Q (.bl (c1||c2)) M):zl ta tb δ M Q:=
 ha _ ⟨c1,rfl,by
  cases c1 with
  |true=>rw[if_pos rfl];exact hq
  |false=>rw[if_neg F4];exact hb rfl _ hq⟩
theorem xU{ta tb:TD}{δ:DS}{M:MH}{Q:DK}(c1 c2:Bool)(ha:∀K:DK,K (.bl c1) M->ta δ M K)(hb:c1=true->∀K:DK,K (.bl c2) M->tb δ M K)(hq:Q (.bl (c1&&c2)) M):uD ta tb δ M Q:=
 ha _ ⟨c1,rfl,by
  cases c1 with
  |true=>rw[if_pos rfl];exact hb rfl _ hq
  |false=>rw[if_neg F4];exact hq⟩
theorem orT{ta tb:TTD}{δ:DS}{M:MH}{Q:Bool->MH->Prop}(c1 c2:Bool)(ha:∀K:Bool->MH->Prop,K c1 M->ta δ M K)(hb:c1=false->∀K:Bool->MH->Prop,K c2 M->tb δ M K)(hq:Q (c1||c2) M):Aa ta tb δ M Q:=
 ha _ (by
  cases c1 with
  |true=>rw[if_pos rfl];exact hq
  |false=>rw[if_neg F4];exact hb rfl _ hq)
theorem wg{ta tb:TTD}{δ:DS}{M:MH}{Q:Bool->MH->Prop}(c1 c2:Bool)(ha:∀K:Bool->MH->Prop,K c1 M->ta δ M K)(hb:c1=true->∀K:Bool->MH->Prop,K c2 M->tb δ M K)(hq:Q (c1&&c2) M):zV ta tb δ M Q:=
 ha _ (by
  cases c1 with
  |true=>rw[if_pos rfl];exact hb rfl _ hq
  |false=>rw[if_neg F4];exact hq)
def yX(r r':R2D)(ta tb tc:TD):TD:=fun δ M Q=>ta δ M fun x M1=>tb δ M1 fun y M2=>r x y M2 fun z M3=>∃k,z=.bl k/\if k=true then tc δ M3 fun u M4=>r' y u M4 Q else Q (.bl false) M3
theorem tS{X:Cx}{a b c:Expr}{ta tb tc:TD}{pos:Pos}{op op':CmpOp}{r r':R2D}(ho:OpD X (FC op) r)(ho':OpD X (FC op') r')(ha:DE X a ta)(hb:DE X b tb)(hc:DE X c tc)
 (hm:lastMarks [op,op'] [b,c]=false:=by with_unfolding_all rfl):DE X (.Compare a [op,op'] [b,c] pos) (yX r r' ta tb tc):=
 aP (tV ho ho' ha hb hc hm) fun σ H Q z9=>by
  obtain⟨δ,M,R,hs,hM,q,fin⟩:=z9
  refine⟨δ,M,_,hs,hM,q,fun x M1 v H1 g1 r1 a1 q1=>?_⟩
  refine⟨δ,M1,_,hs.mono g1,a1,q1,fun y M2 u H2 g2 r2 a2 q2=>?_⟩
  refine⟨x,y,M2,_,r1.mono g2,r2,a2,q2,fun z M3 w H3 g3 r3 a3 zz18_0=>?_⟩
  obtain⟨k,e,q3⟩:=zz18_0
  subst e
  rw[Rep]at r3
  refine⟨k,r3,?_⟩
  cases k with
  |true=>
   rw[if_pos rfl]at q3 ⊢
   exact⟨δ,M3,_,hs.mono ((g1.trans g2).trans g3),a3,q3,fun u' M4 w' H4 g4 r4 a4 q4=>⟨y,u',M4,R,r2.mono (g3.trans g4),r4,a4,q4,fin.go (((g1.trans g2).trans g3).trans g4)⟩⟩
  |false=>
   rw[if_neg F4]at q3 ⊢
   exact fin _ _ _ _ ((g1.trans g2).trans g3) (by rw[Rep]) a3 q3
theorem gc{t u:TSD}{B:EndsD}{δ:DS}{M:MH}(W:DS->MH->Prop)(hu:∀δ' M',W δ' M'->u B δ' M')(ht:(∀δ' M',W δ' M'->u B δ' M')->t { B with nx:=u B } δ M):d6 t u B δ M:=ht hu
def Sub(M' M:MH):Prop:=∀a o,M' a=some o->M a=some o
def Ex(r:Addr)(M' M:MH):Prop:=∀a o,a≠r->M' a=some o->M a=some o
theorem Sub.refl{M:MH}:Sub M M:=fun _ _ h=>h
theorem Sub.trans{M M1 M2:MH}(a:Sub M M1)(b:Sub M1 M2):Sub M M2:=fun x o h=>b x o (a x o h)
theorem Sub.new{M M':MH}{p:Addr}{o:MO}(hp:M p=none)(s:Sub M' M):Sub M' (aw M p o):=fun a u h=>by rw[ar (fun e=>by subst e;rw[s _ _ h]at hp;cases hp)];exact s _ _ h
theorem Sub.Ej{M M':MH}{r:Addr}{o:MO}(s:Ex r M' M):Sub (aw M' r o) (aw M r o):=fun a u h=>by
 by_cases e:a=r
 ·subst e;rw[aj]at h ⊢;exact h
 ·rw[ar e]at h ⊢;exact s _ _ e h
inductive Ret(Q:DK)(d:D)(M:MH):Prop
 |mk (M':MH) (s:Sub M' M) (q:Q d M'):Ret Q d M
theorem rtn{Q:DK}{d:D}{M:MH}(q:Q d M):Ret Q d M:=⟨M,.refl,q⟩
abbrev SpD:=List D->MH->DK->Prop
def fV(K:E2)(sp:SpD):Sp:=fun vs H Q _=>∃ds M R,aB K H ds vs/\Abs K H M/\sp ds M R/\Fin K H R Q
def Cal(P:F8)(w:Fy)(K:E2)(mg:Str->Option E1)(base:Heap)(k:Nat)(x:Str)(sp:SpD):Prop:=
 ∃f fd ps,FnOk P w K mg base CX0 k f fd ps (fV K sp)/\mg x=some (.ref f)/\PySem.W.keepIn K (.ref f)=true/\Binds K fd ps []
theorem Cal.mono{P:F8}{w:Fy}{K:E2}{mg:Str->Option E1}{base:Heap}{j k:Nat}{x:Str}{sp:SpD}(h:Cal P w K mg base j x sp)(l:j<=k):Cal P w K mg base k x sp:=let⟨f,fd,ps,F,r⟩:=h;⟨f,fd,ps,F.mono l,r⟩
section
variable{X:Cx}{k:Nat}{x:Str}{sp:SpD}{p pos:Pos}{e:Expr}{es:List Expr}{t:TAD}
def BJ(sp:SpD)(t:TAD):TD:=fun δ M Q=>t δ M fun ds M1=>sp ds M1 Q
theorem ak(C:Cal X.prog X.w X.K X.mg X.base k x sp)(hr:Room k X.A)(ha:DA X (e::es) t)(hg:Gl X x:=by rfl)(hdb:(x==("__debug__":Str))=false:=by decide)
 (he:Fc (e::es) X.env=(false,eval e X.env)::Fc es X.env:=by rfl) (hpl:(GK pos (Fc es X.env)).any (·.1)=false:=by rfl):DE X (.Call (.Name x p) (e::es) [] pos) (BJ sp t):=by
 obtain⟨f,fd,ps,F,hm,hk,hb⟩:=C
 refine aP (yr F hr hg hm hk hb .nil Cg ha hdb he hpl) fun σ H Q zz19_0=>?_
 obtain⟨δ,M,R,hs,hM,q,fin⟩:=zz19_0
 refine⟨δ,M,_,hs,hM,q,fun ds M1 vs H1 g1 r1 a1 q1=>?_⟩
 show fV X.K sp (vs++[]) H1 Q E0
 rw[GC]
 exact⟨ds,M1,R,r1,a1,q1,fin.go g1⟩
end
def ez(N:List Str)(ds:List D):DS:=ds.map some++Fv (N.length-ds.length) none
section
variable{P:F8}{w:Fy}{K:E2}{mg:Str->Option E1}{base:Heap}
theorem fnD{x qual:Str}{st:Stmt}{f:Addr}{fd:Iy}{N ps:List Str}{k:Nat}{sp:SpD}(F:Fun K x qual st f fd)(S:FnScope N ps (ao st))(len:∀ds M Q,sp ds M Q->ds.length=ps.length)
 (hbody:∀X:Cx,X.prog=P->True) (body:∀(cdv:E1) (A:FK) (outer:List Env) (s:E3) (H:Hp) (E:XK),Room k (A.deeper (envOfC qual (ao st) s.heap.objs.size f cdv))->
  ∃t,DSs (ia CX0 P w K mg base N qual (ao st) f cdv A outer s H E).nox (aQ st) t/\∀ds M Q,sp ds M Q->t { nx:=fun _ M'=>Ret Q .non M',rt:=Ret Q } (ez N ds) M):FnOk P w K mg base CX0 (k+1) f fd ps (fV K sp):=by
 refine F.ok S (fun vs H Q E zz20_0=>by obtain⟨ds,M,R,rs,_,q,_⟩:=zz20_0;rw[<-rs.length];exact len _ _ _ q) fun cdv A outer s H vs Q E hr zz21_0=>?_
 obtain⟨ds,M,R,rs,a,q,fin⟩:=zz21_0
 obtain⟨t,h,hq⟩:=body cdv A outer s H E hr
 refine⟨_,h,ez N ds,M,nH rs,a,{ nx:=fun _ M'=>Ret R .non M',rt:=Ret R },⟨fun δ' M' σ' H' g s' a' q'=>?_,fun d M' v H' g r a' zz22_0=>by obtain⟨M2,s2,q'⟩:=zz22_0;exact(fin _ _ _ _ g r (a'.sub s2) q'),fun _ _ _ _ _ _ _ z=>z,fun _ _ _ _ _ _ _ z=>z⟩,hq ds M R q⟩
 obtain⟨M2,s2,q'⟩:=q'
 exact fin .non M2 .non H' g (by rw[Rep]) (a'.sub s2) q'
def Txt(K:E2)(mg:Str->Option E1)(x:Str)(st:Stmt):Prop:=∃f fd,Fun K x x st f fd/\mg x=some (.ref f)
theorem Txt.mk{h:Heap}{x:Str}{st:Stmt}{f:Addr}{oc:E1}{od an:Option Addr}{osl:Array (Option E1)}{kV doc pm cdv ct:E1}(X:K.In h)(G:h.Ns Ia mg)(a:PySem.W.nsIn K Ia x=some (some (.ref f))) (l:K.lookup f=some ⟨oc,od,.func (GP x x (bO st) (aQ st) (ao st) .none kV doc pm an cdv ct),osl⟩) (c:PySem.W.codeIn K cdv x=true) (k:PySem.W.keepIn K (.ref f)=true):Txt K mg x st:=⟨f,_,Ar l c k,PySem.W.mg_of X G a⟩
theorem wM{x:Str}{st:Stmt}{N ps:List Str}{k:Nat}{sp:SpD}(T:Txt K mg x st)(S:FnScope N ps (ao st))
 (hb:∀(kV doc pm:E1) (an:Option Addr) (cdv ct:E1) (us:List E1),us.length=ps.length->bindArgs (GP x x (bO st) (aQ st) (ao st) .none kV doc pm an cdv ct) ⟨us,[]⟩=pure (ps.zip us))
 (len:∀ds M Q,sp ds M Q->ds.length=ps.length)
 (body:∀(f:Addr) (cdv:E1) (A:FK) (outer:List Env) (s:E3) (H:Hp) (E:XK),Room k (A.deeper (envOfC x (ao st) s.heap.objs.size f cdv))->
  ∃t,DSs (ia CX0 P w K mg base N x (ao st) f cdv A outer s H E).nox (aQ st) t/\∀ds M Q,sp ds M Q->t { nx:=fun _ M'=>Ret Q .non M',rt:=Ret Q } (ez N ds) M):Cal P w K mg base (k+1) x sp:=by
 obtain⟨f,fd,F,hm⟩:=T
 exact⟨f,fd,ps,fnD F S len (fun _ _=>trivial) (body f),hm,F.kp,F.binds hb⟩
end
theorem mh:G5 "abs"=some (.builtin "abs"):=by decide +kernel
theorem tX:G5 "max"=some (.builtin "max"):=by decide +kernel
theorem pL:G5 "min"=some (.builtin "min"):=by decide +kernel
theorem dW:G5 "len"=some (.builtin "len"):=by decide +kernel
theorem AW:G5 "all"=some (.builtin "all"):=by decide +kernel
theorem fv:G5 "isinstance"=some (.builtin "isinstance"):=by decide +kernel
theorem nW:G5 "tuple"=some (.type "tuple"):=by decide +kernel
theorem rD:G5 "list"=some (.type "list"):=by decide +kernel
theorem lQ:G5 "int"=some (.type "int"):=by decide +kernel
theorem yD:G5 "bool"=some (.type "bool"):=by decide +kernel
section
variable{P:F8}{w:Fy}{K:E2}{mg:Str->Option E1}
theorem EC{x:Str}{st:Stmt}{N:List Str}{p:Str}{k:Nat}{sp:SpD}{fa:Addr}(T:Txt K mg x st)(hfa:mg x=some (.ref fa))(S:FnScope N [p] (ao st))
 (hb:∀(kV doc pm:E1) (an:Option Addr) (cdv ct:E1) (us:List E1),us.length=[p].length->bindArgs (GP x x (bO st) (aQ st) (ao st) .none kV doc pm an cdv ct) ⟨us,[]⟩=pure ([p].zip us))
 (len:∀ds M Q,sp ds M Q->ds.length=[p].length)
 (body:∀(base:Heap) (f:Addr) (cdv:E1) (A:FK) (outer:List Env) (s:E3) (H:Hp) (E:XK),Room k (A.deeper (envOfC x (ao st) s.heap.objs.size f cdv))->
  ∃t,DSs (ia CX0 P w K mg base N x (ao st) f cdv A outer s H E).nox (aQ st) t/\∀ds M Q,sp ds M Q->t { nx:=fun _ M'=>Ret Q .non M',rt:=Ret Q } (ez N ds) M) :
 ∃fd,(∀(s:E3) (u:E1),BindsTo s fd ⟨[u],[]⟩ [(p,u)])/\∀base:Heap,FnOk P w K mg base CX0 (k+1) fa fd [p] (fV K sp):=by
 obtain⟨f,fd,F,hm⟩:=T
 have e:=hfa.symm.trans hm
 cases e
 refine⟨fd,fun s u=>?_,fun base=>fnD F S len (fun _ _=>trivial) (body base _)⟩
 obtain⟨oc,od,kV,doc,pm,an,cdv,ct,osl,rfl,lk,hcd⟩:=F.ex
 exact .of_eq (hb kV doc pm an cdv ct [u] rfl)
end
theorem uO{l:PySem.W.OpenLaw}{k:Nat}{q:F8}{loose:List Str}{XP:(Str->Option E1)->Heap->Prop}{YP:Fy->Heap->Prop}{d:DefRec}{K:Fz->E2}{sp:SpD}{x:Str}
 (hn:l.most=some 63) (hdf:d.params.defaults=[]) (hr:Room k callerA)
 (hY:∀(w:Fy) (h:Heap),YP w h->(K w.params).In h)
 (F:∀(w:Fy) (mg:Str->Option E1) (fa:Addr) (h:Heap),(K w.params).In h->h.Ns Ia mg->mg d.name=some (.ref fa)->
  ∃fd:Iy,(∀(s:E3) (u:E1),BindsTo s fd ⟨[u],[]⟩ [(x,u)])/\
   ∀base:Heap,FnOk l.prog w (K w.params) mg base CX0 k fa fd [x] (fV (K w.params) sp))
 (hsp:∀(ns:List Int) (M:MH),ns.length<=63->sp [.rol (ns.map D.int)] M (fun d _=>d=.bl true)) :
 PySem.W.WalkO q loose XP YP l.row.toRowW d [] (fun f vs=>PySem.call f vs):=by
 refine xS (x:=x) (n:=63) (CX:=fun _=>CX0) (sp:=fun w=>fV (K w.params) sp) hn (by decide) hdf hr hY (fun w mg fa h a b c=>?_) (fun w H a ns hl hO hS=>?_) fun _ _ _ _ _ z=>z
 ·obtain⟨fd,h1,h2⟩:=F w mg fa h a b c
  exact⟨fd,h1,fun base _ _=>h2 base⟩
 ·have hF:SqF (K w.params) H a (ns.map V.int):=by
   rcases hS with(z|z)|z
   ·rcases hO a with y|⟨o,xs,y⟩
    ·rw[z]at y;cases y
    ·rw[z]at y;cases y
   ·exact .inl z
   ·exact .inr z
  refine⟨[.rol (ns.map D.int)],fun _=>none,_,.cons (by rw[Rep];exact⟨a,_,rfl,hF,ig ns⟩) .nil,(fun _ _ e=>nomatch e:Abs (K w.params) H fun _=>none),hsp ns _ hl,fun d M' v H' g r a' e=>?_⟩
  subst e
  rw[Rep]at r
  exact r
end SD
namespace Ma
open PySem PySem.Spec PyProof.Rows L2 SD
abbrev fr(q:Rat):D:=.tup [.int q.num,.int (q.den:Int)]
theorem den_pos(q:Rat):(0:Int)<(q.den:Int):=by have:=q.den_pos;omega
def Bq(n:Nat)(q:Rat):Prop:=Bd n q.num/\Bd n (q.den:Int)
theorem Bq.mono{m n:Nat}{q:Rat}(h:Bq m q)(l:m<=n):Bq n q:=⟨h.1.mono l,h.2.mono l⟩
theorem nX{t b:Int}(hb:0<b):t.fdiv b=t/b:=Gi _ (by omega)
theorem fdiv_neg{t b:Int}(hd:b ∣ t)(hb:0<b):t.fdiv (-b)=-(t/b):=by
 obtain⟨c,rfl⟩:=hd;have hb':b≠0:=by omega
 rw[Int.mul_ediv_cancel_left _ hb'];have:b*c=-b * -c:=by rw[Int.neg_mul_neg]
 rw[this];exact Int.mul_fdiv_cancel_left _ (by omega)
theorem qA(t b:Int):((HW t.natAbs b.natAbs:Nat):Int) ∣ t:=Int.ofNat_dvd_left.mpr (Nat.gcd_dvd_left _ _)
theorem rE(t b:Int):((HW t.natAbs b.natAbs:Nat):Int) ∣ b:=Int.ofNat_dvd_left.mpr (Nat.gcd_dvd_right _ _)
theorem lG(t b:Int):Int.gcd b t=HW t.natAbs b.natAbs:=by unfold Int.gcd;exact Nat.gcd_comm _ _
theorem dJ{t b:Int}(hb:b≠0):0<HW t.natAbs b.natAbs:=Nat.gcd_pos_of_pos_right _ (by omega)
theorem qZ{t b:Int}(hb:0<b):t.fdiv (HW t.natAbs b.natAbs:Nat)=(Rat.divInt t b).num/\b.fdiv (HW t.natAbs b.natAbs:Nat)=((Rat.divInt t b).den:Int):=by
 have hg:=dJ (t:=t) (b:=b) (by omega);rw[nX (by omega),nX (by omega),Rat.num_divInt,Rat.den_divInt,if_neg (by omega),Gm hb,Int.one_mul,lG];refine⟨rfl,?_⟩;rw[Int.natCast_ediv]
 congr 1
 omega
theorem rM{t b:Int}(hb:b<0):t.fdiv (-((HW t.natAbs b.natAbs:Nat):Int))=(Rat.divInt t b).num/\b.fdiv (-((HW t.natAbs b.natAbs:Nat):Int))=((Rat.divInt t b).den:Int):=by
 have hg:=dJ (t:=t) (b:=b) (by omega);rw[fdiv_neg (qA t b) (by omega),fdiv_neg (rE t b) (by omega),Rat.num_divInt,Rat.den_divInt,if_neg (by omega),FU hb,lG];constructor
 ·rw[show(-1:Int)*t=-t from by omega,Int.neg_ediv_of_dvd (qA t b)]
 ·rw[Int.natCast_ediv,show((b.natAbs:Nat):Int)=-b from by omega,Int.neg_ediv_of_dvd (rE t b)]
theorem pE{t b:Int}(hb:b≠0):(Rat.divInt t b).num.natAbs<=t.natAbs/\(Rat.divInt t b).den<=b.natAbs:=by
 constructor
 ·rw[Rat.num_divInt];refine Gp (Int.natAbs_ediv_le_natAbs _ _) ?_;rw[Int.natAbs_mul];rcases FJ b 0 with h|h|h
  ·rw[FU h];simp
  ·exact absurd h hb
  ·rw[Gm h];simp
 ·rw[Rat.den_divInt,if_neg hb];exact Nat.div_le_self _ _
theorem Bq.divInt{n:Nat}{t b:Int}(hb:b≠0)(h1:Bd n t)(h2:Bd n b):Bq n (Rat.divInt t b):=by obtain⟨a1,a2⟩:=pE (t:=t) hb;exact⟨Nat.lt_of_le_of_lt a1 h1,Nat.lt_of_le_of_lt (by simpa using a2) h2⟩
theorem rN(x y:Nat):Int.fmod (x:Int) (y:Int)=((x%y:Nat):Int):=by rw[Int.fmod_eq_emod_of_nonneg _ (by omega)];rfl
theorem qf(q r:Rat):FG (.tuple [.int q.num,.int (q.den:Int)]) (.tuple [.int r.num,.int (r.den:Int)])=decide (q=r):=by
 simp only[FG,G8,Bool.and_true];by_cases h:q=r
 ·subst h;simp
 ·rw[decide_eq_false h];rw[Bool.eq_false_iff];intro z;rw[GF,beq_iff_eq,beq_iff_eq]at z;exact h (Rat.ext z.1 (by have:=z.2;omega))
theorem Dk(q r:Rat):decide (q.num*(r.den:Int)<r.num*(q.den:Int))=decide (q<r):=by rw[decide_eq_decide,Rat.lt_iff]
abbrev spt(a b:Rat):D:=.tup [fr a,fr b]
theorem gB(a b c d:Rat):FG (.tuple [.tuple [.int a.num,.int (a.den:Int)],.tuple [.int b.num,.int (b.den:Int)]]) (.tuple [.tuple [.int c.num,.int (c.den:Int)],.tuple [.int d.num,.int (d.den:Int)]])=decide (a=c/\b=d):=by rw[FG,G8,G8,G8,qf,qf,Bool.and_true,HY]
theorem fJ(q:Rat):(q.den:Int)≠0:=by have:=q.den_pos;omega
theorem sub_eq(q r:Rat):Rat.divInt (q.num*(r.den:Int)-r.num*(q.den:Int)) ((q.den:Int)*(r.den:Int))=q-r:=by rw[<-Rat.divInt_sub_divInt _ _ (fJ q) (fJ r),Rat.num_divInt_den,Rat.num_divInt_den]
theorem rO(q r:Rat):(q.den:Int)*(r.den:Int)≠0:=Int.mul_ne_zero (fJ q) (fJ r)
theorem Bq.qK{n:Nat}{q r:Rat}(a:Bq n q)(b:Bq n r):Bd (2*n+1) (q.num*(r.den:Int)-r.num*(q.den:Int)):=((a.1.mul b.2).sub (b.1.mul a.2)).mono (by omega)
def sgn(z:Rat):Int:=if 0<z then 1 else if z<0 then -1 else 0
def cr(a b c d x y:Rat):Rat:=(c-a)*(y-b)-(d-b)*(x-a)
abbrev wll(a b c d:Rat):D:=.tup [spt a b,spt c d]
def ah(a b c d:Rat):Prop:=a<c\/a=c/\b<d
instance(a b c d:Rat):Decidable (ah a b c d):=inferInstanceAs (Decidable (_\/_))
theorem mZ(z:Rat):sgn z=0↔z=0:=by
 unfold sgn;split
 ·grind
 ·split<;>grind
theorem pos_int{i:Int}(h:0<i):(0:Rat)<(i:Rat):=by rw[Rat.lt_iff];simpa using h
end Ma
namespace SD
open PySem PySem.Spec PyProof.Rows L2
def dC(names:List (Str×Hx))(env:Env):List (Str×Addr):=(names.filter fun y=>y.2==.free).reverse.map fun y=>(y.1,(env.cells.lookup y.1).getD 0)
theorem pU{scope:HN}{env:Env}(h:∀y∈scope.names,y.2=.free->∃c,env.cells.lookup y.1=some c):closureFor scope env=pure (dC scope.names env):=by
 have key:∀(names:List (Str×Hx)) (acc:List (Str×Addr)),(∀y∈names,y.2=.free->∃c,env.cells.lookup y.1=some c)->
  (forIn names acc (fun(x:Str×Hx) (r:List (Str×Addr))=>if(x.2==HG)=true then do let a <-cellOf env x.1;pure (Hv ((x.1,a)::r))else pure (Hv r)):Sem (List (Str×Addr)))=pure (dC names env++acc):=by
  intro names
  induction names with
  |nil=>intro acc _;rfl
  |cons y ys ih=>
   intro acc hy
   obtain⟨n,k⟩:=y
   rw[HZ]
   by_cases hk:(k==HG)=true
   ·obtain⟨c,hc⟩:=hy (n,k) (G9 ..) (by simpa using hk)
    have e1:cellOf env n=pure c:=by unfold cellOf;rw[hc]
    dsimp only
    rw[if_pos hk,e1]
    simp only[GG]
    rw[ih _ fun y hm=>hy y (FH _ hm)]
    unfold dC
    rw[List.filter_cons_of_pos (by simpa using hk),List.reverse_cons,FI,List.append_assoc]
    simp[hc]
   ·dsimp only
    rw[if_neg hk]
    simp only[GG]
    rw[ih _ fun y hm=>hy y (FH _ hm)]
    unfold dC
    rw[List.filter_cons_of_neg (by simpa using hk)]
 have:=key scope.names [] h;rw[GC]at this;unfold closureFor;exact Eq.trans (congrArg (fun t:Sem (List (Str×Addr))=>t >>= fun cs=>pure cs) this) rfl
theorem mW{env:Env}{y:Str}{c:Addr}:∀{names:List (Str×Hx)},(∀z∈names,z.2=.free->∃c,env.cells.lookup z.1=some c)->(dC names env).lookup y=some c->env.cells.lookup y=some c:=by intro names h e;have hm:=FV e;unfold dC at hm;obtain⟨z,hz,e2⟩:=Fm.mp hm;rw[List.mem_reverse,Ge]at hz;obtain⟨c',hc⟩:=h z hz.1 (by simpa using hz.2);rw[hc]at e2;cases e2;exact hc
theorem m8{env:Env}{y:Str}{names:List (Str×Hx)}(hm:(y,HG)∈names):∃c,(dC names env).lookup y=some c:=by
 cases e:(dC names env).lookup y with
 |some c=>exact⟨c,rfl⟩
 |none=>
  have:=List.lookup_eq_none_iff.mp e (y,(env.cells.lookup y).getD 0) (Fm.mpr ⟨(y,.free),List.mem_reverse.mpr (Ge.mpr ⟨hm,rfl⟩),rfl⟩)
  simp at this
theorem eB{env:Env}(hk:env.scope.kind=.function):∀{names:List (Str×Hx)} {y:Str} {k:Hx},
 (names.map fun(n,k)=>if(k==HG&&env.scope.kind==.function&&env.kindOf n==some .cell)then(n,NameKind.cell)else(n,k)).lookup y=some k->
  names.lookup y=some k\/(k=.cell/\names.lookup y=some .free)
 |[],_,_,h=>by simp at h
 |(n,q)::r,y,k,h=>by
  have ih:=@eB env hk r y k
  rw[EW]at h
  dsimp only at h
  by_cases hy:(y==n)=true
  ·by_cases hc:(q==HG&&env.scope.kind==.function&&env.kindOf n==some .cell)=true
   ·rw[if_pos hc,Gw,hy]at h
    have hf:q=.free:=by
     rw[GF,GF]at hc
     simpa using hc.1.1
    cases h
    right
    exact⟨rfl,by rw[Gw,hy,hf]⟩
   ·rw[if_neg hc,Gw,hy]at h
    left
    rw[Gw,hy];exact h
  ·have hy':(y==n)=false:=by simpa using hy
   have h':(r.map fun(n,k)=>if(k==HG&&env.scope.kind==.function&&env.kindOf n==some .cell)then(n,NameKind.cell)else(n,k)).lookup y=some k:=by
    split at h
    ·rw[Gw,hy']at h;exact h
    ·rw[Gw,hy']at h;exact h
   rw[Gw,hy']
   exact ih h'
theorem pN{X:Cx}{tg iter:Expr}{wi wi':TI}(h:PI X tg iter wi)(k:∀σ H R,wi' σ H R->wi σ H R):PI X tg iter wi':=fun pins s σ H R I q=>h pins s σ H R I (k _ _ _ q)
def Em(K:E2)(tl:TE):TI:=fun σ H R=>tl σ H fun x H1=>∃a,x=.ref a/\(((∃xs,SqL K H1 a xs)/\R (Itl K a) H1)\/((∃xs,SqT K H1 a xs)/\R (Itt K a) H1))
theorem Bc{X:Cx}{tg l:Expr}{tl:TE}(hl:PE X l tl):PI X tg l (Em X.K tl):=by
 intro pins s σ H R I h;refine thn (hl pins s σ H _ I h) fun v s1 zz1_0=>?_;obtain⟨x,H1,I1,r1,q1⟩:=zz1_0;obtain⟨a,e,z⟩:=q1;subst e;cases r1
 have fp:∀b∈[s1.heap.objs.size],cf X pins H1 b:=fun b hb=>by
  obtain rfl:b=s1.heap.objs.size:=by simpa using hb
  exact I1.qg (E8 _) (I1.hok.fresh (E8 _))
 rcases z with⟨⟨xs,hq⟩,q⟩|⟨⟨xs,hq⟩,q⟩
 ·obtain⟨its,rv,p,hz⟩:=I1.list hq;exact wpAny_pyIter_list p.isList ⟨_,[s1.heap.objs.size],_,_,H1,rfl,I1.kept (t':=s1.toks) fun b o e=>E5 _ e,sO a _,⟨_,EY _ rfl,rfl,rfl⟩,fp,q⟩
 ·obtain⟨its,rv,p,hz⟩:=I1.tuple hq;exact HQ (show s1.heap.IsTuple a its.toArray from p) ⟨_,[s1.heap.objs.size],_,_,H1,rfl,I1.kept (t':=s1.toks) fun b o e=>E5 _ e,pT a _,⟨_,EY _ rfl,rfl,rfl⟩,fp,q⟩
structure ItD where
 n:Nat
 item:Nat->Option D
 C:MH->Prop
abbrev TID:=DS->MH->(ItD->MH->Prop)->Prop
structure ItOk(K:E2)(H1:Hp)(I:ItD)(J:It):Prop where
 stop:∀H2 M2,Grow K H1 H2->Abs K H2 M2->I.C M2->J.stop I.n H2
 go:∀i H2 M2,i<I.n->Grow K H1 H2->Abs K H2 M2->I.C M2->J.go i H2
 yld:∀i H2 M2 v H3,i<I.n->Grow K H1 H2->Abs K H2 M2->I.C M2->J.yld i H2 v H3->Grow K H2 H3/\Abs K H3 M2/\∃d,I.item i=some d/\Rep K H3 d v
def lO(K:E2)(t:TID):TI:=fun σ H R=>∃δ M RD,Slots K H δ σ/\Abs K H M/\t δ M RD/\∀I M' H' J,Grow K H H'->Abs K H' M'->RD I M'->ItOk K H' I J->R J H'
def DI(X:Cx)(tg iter:Expr)(t:TID):Prop:=PI X tg iter (lO X.K t)
def AI(M:MH):D->List D->Prop
 |.tup ds,es=>es=ds
 |.rol ds,es=>es=ds
 |.ref a,es=>M a=some (.lst es)
 |_,_=>False
inductive Sq1(d:D)(M:MH)(R:ItD->MH->Prop):Prop
 |mk (ds:List D) (h:AI M d ds) (q:R ⟨ds.length,fun i=>ds[i]?,fun M=>AI M d ds⟩ M):Sq1 d M R
def Ey(tl:TD):TID:=fun δ M R=>tl δ M fun d M1=>Sq1 d M1 R
section
variable{X:Cx}{tg:Expr}
theorem aO{l:Expr}{tl:TD}(hl:DE X l tl):DI X tg l (Ey tl):=
 pN (Bc hl) fun σ H R ⟨δ,M,RD,hs,hM,q,fin⟩=>⟨δ,M,_,hs,hM,q,fun d M1 v H1 g1 r1 a1 z9=>by
  obtain⟨ds,sq,q1⟩:=z9
  cases d with
  |tup es=>
   obtain rfl:ds=es:=sq
   rw[Rep]at r1
   obtain⟨a,xs,rfl,hq,rs⟩:=r1
   refine⟨a,rfl,.inr ⟨⟨xs,hq⟩,fin _ M1 H1 _ g1 a1 q1 ⟨fun H2 _ g2 _ _=>⟨xs,g2.t _ _ hq,by rw[rs.length];exact E8 _⟩,fun i H2 _ hi g2 _ _=>?_,?_⟩⟩⟩
   ·have hi':i<xs.length:=by rw[<-rs.length];exact hi
    exact⟨xs,xs[i],g2.t _ _ hq,by simp[hi']⟩
   ·rintro i H2 M2 v H3 hi g2 a2 _ ⟨rfl,hy⟩
    have hi:i<ds.length:=hi
    obtain⟨x,e1,e2⟩:=(rs.mono g2).get (show ds[i]?=some ds[i] by simp[hi])
    have:=hy xs (g2.t _ _ hq)
    rw[e1]at this;cases this
    exact⟨.refl,a2,_,by simp[hi],e2⟩
  |rol es=>
   obtain rfl:ds=es:=sq
   rw[Rep]at r1
   obtain⟨a,xs,rfl,hq,rs⟩:=r1
   refine⟨a,rfl,.inl ⟨⟨xs,hq.sql⟩,fin _ M1 H1 _ g1 a1 q1 ⟨fun H2 _ g2 _ _=>⟨xs,(g2.f _ _ hq).sql,by rw[rs.length];exact E8 _⟩,fun i H2 _ hi g2 _ _=>?_,?_⟩⟩⟩
   ·have hi':i<xs.length:=by rw[<-rs.length];exact hi
    exact⟨xs,xs[i],(g2.f _ _ hq).sql,by simp[hi']⟩
   ·rintro i H2 M2 v H3 hi g2 a2 _ ⟨rfl,hy⟩
    have hi:i<ds.length:=hi
    obtain⟨x,e1,e2⟩:=(rs.mono g2).get (show ds[i]?=some ds[i] by simp[hi])
    have:=hy xs (g2.f _ _ hq).sql
    rw[e1]at this;cases this
    exact⟨.refl,a2,_,by simp[hi],e2⟩
  |ref a=>
   rw[Rep]at r1;subst r1
   obtain⟨xs,hx,rs⟩:=a1 _ _ (show M1 a=some (.lst ds)from sq)
   refine⟨a,rfl,.inl ⟨⟨xs,SqL.of hx⟩,fin _ M1 H1 _ g1 a1 q1 ⟨fun H2 M2 g2 a2 c2=>?_,fun i H2 M2 hi g2 a2 c2=>?_,?_⟩⟩⟩
   ·obtain⟨ys,hy,ry⟩:=a2 _ _ (show M2 a=some (.lst ds)from c2)
    exact⟨ys,SqL.of hy,by rw[ry.length];exact E8 _⟩
   ·obtain⟨ys,hy,ry⟩:=a2 _ _ (show M2 a=some (.lst ds)from c2)
    have hi':i<ys.length:=by rw[<-ry.length];exact hi
    exact⟨ys,ys[i],SqL.of hy,by simp[hi']⟩
   ·rintro i H2 M2 v H3 hi g2 a2 c2 ⟨rfl,hy⟩
    have hi:i<ds.length:=hi
    obtain⟨ys,hys,ry⟩:=a2 _ _ (show M2 a=some (.lst ds)from c2)
    obtain⟨x,e1,e2⟩:=ry.get (show ds[i]?=some ds[i] by simp[hi])
    have:=hy ys (SqL.of hys)
    rw[e1]at this;cases this
    exact⟨.refl,a2,_,by simp[hi],e2⟩
  |_=>exact sq.elim⟩
inductive ForD(g:TGD)(tb:TSD)(B:EndsD)(I:ItD)(δ0:DS)(M0:MH):Prop
 |mk (W:Nat->DS->MH->Prop) (w0:W 0 δ0 M0) (hC:∀i δ M,i<=I.n->W i δ M->I.C M) (turn:∀i d δ M,i<I.n->I.item i=some d->W i δ M->g d δ M fun δ2 M2=>tb { B with nx:=W (i+1),ct:=W (i+1),bk:=B.nx } δ2 M2) (done:∀δ M,W I.n δ M->B.nx δ M):ForD g tb B I δ0 M0
def DU(wd:TID)(g:TGD)(tb:TSD):TSD:=fun B δ M=>wd δ M fun I M1=>ForD g tb B I δ M1
theorem bH{iter:Expr}{body:List Stmt}{wd:TID}{g:TGD}{tb:TSD}{pos:Pos}(hp:PassesOwn (F6 X.prog X.w) X.A X.env X.xe)(hc:X.calm=true)(hi:DI X tg iter wd)(hG:DG X tg g)(hb:DSs X body tb)
 (hf:∀x,FD iter X.env x=pure x:=by intro _;rfl):DSt X (.For tg iter body [] pos) (DU wd g tb):=
 bW (wV hp hc hi hG hb hf) fun E σ H ⟨δ,M,hs,a,B,ok,q⟩=>⟨δ,M,_,hs,a,q,fun I M1 H1 J g1 a1 z9 io=>by
  obtain⟨W,w0,hC,turn,done⟩:=z9
  refine⟨fun i m σ H2=>m=I.n-i/\i<=I.n/\Grow X.K H1 H2/\∃δ M,Slots X.K H2 δ σ/\Abs X.K H2 M/\W i δ M,⟨I.n,by simp,FQ _,.refl,δ,M1,hs.mono g1,a1,w0⟩,?_⟩
  rintro i m σ H2 ⟨rfl,hi,g2,δ2,M2,s2,a2,w2⟩
  by_cases hlt:i<I.n
  ·refine .inr ⟨io.go i H2 M2 hlt g2 a2 (hC _ _ _ hi w2),fun σ' H3=>Grow X.K H1 H3/\∃δ M,Slots X.K H3 δ σ'/\Abs X.K H3 M/\W (i+1) δ M,fun σ' H3 z=>⟨I.n-(i+1),by omega,rfl,hlt,z⟩,fun x H3 y=>?_⟩
   obtain⟨g3,a3,d,ed,rd⟩:=io.yld i H2 M2 x H3 hlt g2 a2 (hC _ _ _ hi w2) y
   refine⟨d,δ2,M2,_,rd,s2.mono g3,a3,turn i d δ2 M2 hlt ed w2,fun δ4 M4 σ4 H4 g4 s4 a4 q4=>⟨δ4,M4,s4,a4,_,?_,q4⟩⟩
   have G:Grow X.K H1 H4:=(g2.trans g3).trans g4
   exact⟨fun δ' M' σ' H' g' s' a' w'=>⟨G.trans g',δ',M',s',a',w'⟩,fun d M v H' g'=>ok.rt d M v H' ((g1.trans G).trans g'),fun δ' M' σ' H' g' s' a' q'=>ok.nx _ _ _ _ ((g1.trans G).trans g') s' a' q',fun δ' M' σ' H' g' s' a' w'=>⟨G.trans g',δ',M',s',a',w'⟩⟩
  ·obtain rfl:i=I.n:=by omega
   exact .inl ⟨io.stop H2 M2 g2 a2 (hC _ _ _ hi w2),ok.nx _ _ _ _ (g1.trans g2) s2 a2 (done δ2 M2 w2)⟩⟩
def Cw(i:Nat)(te:TD)(f:Int->Int->Int):TSD:=fun B δ M=>∃k,δ[i]?=some (some (.int k))/\te δ M fun y M1=>∃j,y=.int j/\B.nx (δ.set i (some (.int (f k j)))) M1
theorem wk(i:Nat){x:Str}{e:Expr}{te:TD}{op:Operator}{f:Int->Int->Int}{pos pos':Pos}(hN:X.N.Nodup)(ho:PIp X op (ipI f))(he:DE X e te)(hi:X.N[i]?=some x:=by rfl)(hx:Loc X.env.scope x:=by first|exact Or.inl rfl|exact Or.inr rfl)
 (hf:X.fn x=true\/X.env.scope.names.lookup x=some .local:=by first|exact .inl rfl|exact .inr rfl|assumption):DSt X (.AugAssign (.Name x pos') op e pos) (Cw i te f):=
 bW (z5 hN hi hx he ho hf) fun E σ H z9=>by
  obtain⟨δ,M,hs,a,B,ok,k,e1,q⟩:=z9
  obtain⟨v,e2,r⟩:=hs.at' i _ e1
  rw[Rep]at r;subst r
  refine⟨_,e2,δ,M,_,hs,a,q,fun y M1 u H1 g1 r1 a1 zz2_0=>?_⟩
  obtain⟨j,ej,q1⟩:=zz2_0
  subst ej
  rw[Rep]at r1;subst r1
  exact⟨k,j,rfl,rfl,ok.nx _ _ _ _ g1 ((hs.mono g1).set (by rw[Rep]) i) a1 q1⟩
end
end SD
namespace Ma
open SD
theorem jn{a b:Int}(h:0<b):0<Rat.divInt a b↔0<a:=by
 have h1:=Rat.divInt_nonneg_iff_of_pos_right (a:=-a) h;rw[<-Rat.neg_divInt]at h1;have:¬(0<=-Rat.divInt a b)↔0<Rat.divInt a b:=by constructor<;>intro z<;>grind
 rw[<-this,h1];omega
theorem pV{a b:Int}(h:0<b):Rat.divInt a b<0↔a<0:=by
 have h1:=Rat.divInt_nonneg_iff_of_pos_right (a:=a) h;have:¬(0<=Rat.divInt a b)↔Rat.divInt a b<0:=by constructor<;>intro z<;>grind
 rw[<-this,h1];omega
theorem xY{t b:Int}(h:0<b):sgn (Rat.divInt t b)=if 0<t then 1 else if t<0 then -1 else 0:=by unfold sgn;simp only[jn h,pV h]
theorem xv(a b c d x y:Rat) :
 Rat.divInt ((c.num*(a.den:Int)-a.num*(c.den:Int))*(y.num*(b.den:Int)-b.num*(y.den:Int))*((d.den:Int)*(b.den:Int)*((x.den:Int)*(a.den:Int))) -
  (d.num*(b.den:Int)-b.num*(d.den:Int))*(x.num*(a.den:Int)-a.num*(x.den:Int))*((c.den:Int)*(a.den:Int)*((y.den:Int)*(b.den:Int))))
  ((c.den:Int)*(a.den:Int)*((y.den:Int)*(b.den:Int))*((d.den:Int)*(b.den:Int)*((x.den:Int)*(a.den:Int))))=cr a b c d x y:=by
 rw[<-Rat.divInt_sub_divInt _ _ (Int.mul_ne_zero (rO c a) (rO y b)) (Int.mul_ne_zero (rO d b) (rO x a)),<-Rat.divInt_mul_divInt,<-Rat.divInt_mul_divInt,sub_eq,sub_eq,sub_eq,sub_eq]
 rfl
end Ma
namespace SD
open PySem PySem.Spec PyProof.Rows L2
abbrev NoE:E1->E3->Prop:=fun _ _=>False
def cN(X:Cx)(xs:List Str)(js:List Nat):List Str:=xs++js.map fun j=>(X.N[j]?).getD ("":Str)
def cσ(os:L2.St)(js:List Nat)(σ:L2.St):L2.St:=os++js.map fun j=>(σ[j]?).join
theorem bZ:∀(names:List (Str×Hx)) (n:Nat) (acc:List (Str×Addr)),GX n names acc=GX n names []++acc
 |[],_,_=>rfl
 |(x,k)::r,n,acc=>by
  unfold GX
  split
  ·rw[bZ r (n+1) ((x,n)::acc),bZ r (n+1) [(x,n)],List.append_assoc];rfl
  ·exact bZ r n acc
theorem g9:∀(names:List (Str×Hx)) (n:Nat) {y:Str} {c:Addr},(y,c)∈GX n names []->(y,NameKind.cell)∈names
 |[],_,_,_,h=>by cases h
 |(x,k)::r,n,y,c,h=>by
  unfold GX at h
  split at h
  ·rename_i hk
   rw[bZ]at h
   rcases Fl.mp h with h|h
   ·exact FH _ (g9 r _ h)
   ·have e:(y,c)=(x,n):=by simpa using h
    cases e
    obtain rfl:k=.cell:=by simpa using hk
    exact G9
  ·exact FH _ (g9 r _ h)
theorem nA{l r:List (Str×Addr)}{y:Str}{c:Addr}(h:(l++r).lookup y=some c):l.lookup y=some c\/(l.lookup y=none/\r.lookup y=some c):=by
 rw[List.lookup_append]at h;cases e:l.lookup y with
 |some c'=>rw[e]at h;exact .inl h
 |none=>rw[e]at h;exact .inr ⟨rfl,h⟩
theorem uV{env:Env}{y:Str}{c:Addr}{names:List (Str×Hx)}(h:(dC names env).lookup y=some c):(y,HG)∈names:=by
 have hm:=FV h;unfold dC at hm;obtain⟨z,hz,e⟩:=Fm.mp hm;rw[List.mem_reverse,Ge]at hz;obtain⟨n,k⟩:=z;obtain rfl:k=.free:=by simpa using hz.2
 cases e;exact hz.1
theorem dQ{env:Env}{k:Hx}(hk:k≠.free):∀{names:List (Str×Hx)} {x:Str},names.lookup x=some k->
 (names.map fun(n,k)=>if(k==HG&&env.scope.kind==.function&&env.kindOf n==some .cell)then(n,NameKind.cell)else(n,k)).lookup x=some k
 |[],_,h=>by simp at h
 |(n,q)::r,x,h=>by
  have ih:=@dQ env k hk r x
  rw[EW]
  dsimp only
  by_cases hx:(x==n)=true
  ·rw[Gw,hx]at h
   cases h
   rw[if_neg (by intro z;rw[GF,GF]at z;exact hk (by simpa using z.1.1)),Gw,hx]
  ·have hx':(x==n)=false:=by simpa using hx
   rw[Gw,hx']at h
   split<;>(rw[Gw,hx'];exact ih h)
theorem lZ{M:Model}{A:FK}{E:E1->E3->Prop}{s:E3}{scope:HN}{globals:Addr}{cl:List (Str×Addr)}{qual:Str}{env:Env}{Q:Env->E3->Prop} (h:Q { scope:=scope,locals:=s.heap.objs.size,globals:=globals,cells:=GX (s.heap.objs.size+1) scope.names cl,qual:=qual,func:=none,code:=env.code,frame:=env.frame,builtins:=env.builtins } { s with heap:=pushCells (s.heap.push { cls:=.type "dict",data:=.dict #[] }) scope.names }) : EX M A (newFunctionEnv scope globals cl [] qual none .none (some env)) Q E s:=by simp only[newFunctionEnv,Option.isSome_some,if_true];refine cc (wpAny_alloc ?_);refine cc (wpAny_layCells _ (fun name kind cells=>by cases hkc:kind==NameKind.cell<;>simp[hkc]) _ _ _ _ ?_);rw[show({ s with heap:=s.heap.push { cls:=.type "dict",data:=.dict #[] } }:E3).heap.objs.size=s.heap.objs.size+1 from Gj ..];refine cc ?_;rw[Ip];exact E4 (E4 h)
def iD(scope:HN)(C:Addr)(env:Env):Env:=
 { scope:=relabel scope env,locals:=C,globals:=env.globals,cells:=GX (C+1) scope.names (dC scope.names env),qual:=env.qual,func:=none,code:=env.code,frame:=env.frame,builtins:=env.builtins }
def cxC(X:Cx)(xs:List Str)(js:List Nat)(scope:HN)(C:Addr)(s:E3)(H:Hp)(fp:List Addr):Cx where
 prog:=X.prog
 w:=X.w
 K:=X.K
 mg:=X.mg
 base:=X.base
 A:=X.A
 N:=cN X xs js
 s₀:=s
 H₀:=H
 env:=iD scope C X.env
 outer:=X.stack
 stack:=X.stack
 ex:=fp
 fn:=fun y=>xs.contains y
 calm:=X.calm
 pn:=[]
 xe:=fun _ _=>False
structure CScope(X:Cx)(xs:List Str)(js:List Nat)(scope:HN):Prop where
 kind:scope.kind=.function
 cell:∀y∈scope.names,y.2=.cell->y.1∈xs
 free':∀y∈scope.names,y.2=.free->y.1∉xs
 names:∀y∈scope.names,y.2=.local->scope.names.lookup y.1=some .local
 own:∀x∈xs,scope.names.lookup x=some .local\/scope.names.lookup x=some .cell
 out:∀y∈scope.names,y.2=.free->X.env.kindOf y.1=some .cell\/X.env.kindOf y.1=some .free
 nd:(cN X xs js).Nodup
 js:∀j∈js,scope.names.lookup ((X.N[j]?).getD ("":Str))≠some .local
section
variable{X:Cx}{xs:List Str}{js:List Nat}{scope:HN}{pins:List (Addr×Obj)}{σ:L2.St}{H:Hp}{s:E3}{fp:List Addr}
theorem CScope.cells(c:CScope X xs js scope)(ok:X.Ok):∀y∈scope.names,y.2=.free->∃a,X.env.cells.lookup y.1=some a:=fun y hy hf=>ok.has _ (c.out y hy hf)
theorem CScope.xF(c:CScope X xs js scope)(ok:X.Ok):closureFor scope X.env=pure (dC scope.names X.env):=pU (c.cells ok)
theorem CScope.kindOf(c:CScope X xs js scope)(ok:X.Ok){C:Addr}{y:Str}{k:Hx}(e:(iD scope C X.env).kindOf y=some k):scope.names.lookup y=some k\/(k=.cell/\scope.names.lookup y=some .free):=eB ok.kind e
theorem jT(c:CScope X xs js scope)(I:Inv X pins σ H s)(hf:∀b∈fp,cf X pins H b)(hfp:∀b∈fp,b<s.heap.objs.size){h':Heap}(eh:h'=pushCells (s.heap.push { cls:=.type "dict",data:=.dict #[] }) scope.names)(k:∀b o,s.heap.get? b=some o->h'.get? b=some o) :
 Inv (cxC X xs js scope s.heap.objs.size s H fp) [] (cσ (Fv xs.length none) js σ) H { s with heap:=h' }:=by
 have ok:=I.ok
 have hn:h'.Ns s.heap.objs.size fun _=>none:=by rw[eh];exact(Heap.Ns.new s.heap (.type "dict")).keeps (pushCells_keeps _ _)
 have cok:CellsOk h' (s.heap.objs.size+1) (GX (s.heap.objs.size+1) scope.names []):=by
  have:=cellsFrom_ok scope.names (s.heap.push { cls:=.type "dict",data:=.dict #[] }) (s.heap.objs.size+1) [] ⟨fun _ _ hm=>(nomatch hm),List.Pairwise.nil⟩ (by rw[Gj];exact E8 _)
  rw[Gj]at this
  rw[eh];exact this
 have cl:∀{y:Str} {a:Addr},(dC scope.names X.env).lookup y=some a->X.env.cells.lookup y=some a:=fun e=>mW (c.cells ok) e
 have olt:∀{y:Str} {a:Addr},X.env.cells.lookup y=some a->a<s.heap.objs.size:=fun e=>by obtain⟨v,z⟩:=I.cell _ _ e;exact z.lt
 have both:∀{y:Str} {a:Addr},(iD scope s.heap.objs.size X.env).cells.lookup y=some a->((y,a)∈GX (s.heap.objs.size+1) scope.names []/\s.heap.objs.size<a)\/X.env.cells.lookup y=some a:=fun{y a} e=>by
  have e:(GX (s.heap.objs.size+1) scope.names (dC scope.names X.env)).lookup y=some a:=e
  rw[bZ]at e
  rcases nA e with z|⟨_,z⟩
  ·exact .inl ⟨FV z,(cok.empty _ _ (FV z)).2⟩
  ·exact .inr (cl z)
 have free:∀{y:Str},(iD scope s.heap.objs.size X.env).kindOf y=some .cell\/(iD scope s.heap.objs.size X.env).kindOf y=some .free->scope.names.lookup y=some .cell\/scope.names.lookup y=some .free:=fun{y} e=>by
  rcases e with e|e
  ·rcases c.kindOf ok e with z|⟨_,z⟩
   ·exact .inl z
   ·exact .inr z
  ·rcases c.kindOf ok e with z|⟨z,_⟩
   ·exact .inr z
   ·cases z
 refine⟨⟨ok.mod,c.kind,ok.glob,ok.blt,E8 _,fun y z a h1 h2=>?_,fun y hy=>?_,fun y a h e=>?_,ok.hd,ok.frames,.inl rfl,fun b hb=>⟨Fs (hfp b hb),fun y a e=>?_⟩,
  I.bs,Gp ok.bsz I.sz,fun b o e hb=>?_,fun b hb=>?_,I.stack,I.rp⟩,rfl,I.bare,Un.kept k,?_,fun y a e=>?_,I.hok.fresh (E8 _),fun y a e=>?_,fun p hp=>absurd (show p∈([]:List (Addr×Obj))from hp) (by simp),I.hok.kept k,?_⟩
 ·rcases both h1 with⟨m1,l1⟩|o1<;>rcases both h2 with⟨m2,l2⟩|o2
  ·exact name_of_addr cok.apart m1 m2
  ·exact absurd (olt o2) (Nat.not_lt.mpr (Nat.le_of_lt l1))
  ·exact absurd (olt o1) (Nat.not_lt.mpr (Nat.le_of_lt l2))
  ·exact ok.inj y z a o1 o2
 ·show ∃c,(GX (s.heap.objs.size+1) scope.names (dC scope.names X.env)).lookup y=some c
  rw[bZ,List.lookup_append]
  rcases free hy with z|z
  ·obtain⟨a,e⟩:=jt (n:=s.heap.objs.size+1) z
   exact⟨a,by rw[e];rfl⟩
  ·obtain⟨a,e⟩:=m8 (env:=X.env) (FV z)
   cases q:(GX (s.heap.objs.size+1) scope.names []).lookup y with
   |none=>exact⟨a,by rw[e];rfl⟩
   |some a'=>exact⟨a',rfl⟩
 ·have hx:y∈xs:=by simpa[cxC]using h
  have e:(GX (s.heap.objs.size+1) scope.names (dC scope.names X.env)).lookup y=some a:=e
  rw[bZ]at e
  rcases nA e with z|⟨_,z⟩
  ·exact Nat.le_of_lt (cok.empty _ _ (FV z)).2
  ·exact absurd hx (c.free' _ (uV z) rfl)
 ·rcases both e with⟨_,l⟩|o
  ·exact Nat.ne_of_gt (Nat.lt_trans (hfp b hb) l)
  ·exact(hf b hb).2.2.2.2.1 y a o
 ·rcases(hf b hb).2.2.2.1 with z|z
  ·exact ok.noex b o e z
  ·exact absurd (Fh (Fh (F9 e) ok.bsz) z) (HD _)
 ·intro z
  rcases FN.mp (I.pg b z)with y|y
  ·exact(hf b hb).2.1 y
  ·exact(hf b hb).2.2.1 y
 ·refine⟨_,hn,fun i y v h1 h2 h3=>?_⟩
  have h1:(xs++js.map fun j=>(X.N[j]?).getD ("":Str))[i]?=some y:=h1
  have h2:(Fv xs.length (none:Option V)++js.map fun j=>(σ[j]?).join)[i]?=some (some v):=h2
  by_cases hi:i<xs.length
  ·rw[FO (by simpa using hi),List.getElem?_replicate,if_pos hi]at h2
   cases h2
  ·have hout:y∉xs:=fun hy=>by
    rw[FL (by omega)]at h1
    have nd:=c.nd
    unfold cN at nd
    exact(List.nodup_append.mp nd).2.2 y hy y (EZ h1) rfl
   rw[FL (by omega)]at h1
   rw[FL (by simp;omega)]at h2
   rw[List.length_replicate]at h2
   rw[E9]at h1 h2
   cases ej:js[i-xs.length]? with
   |none=>rw[ej]at h1;cases h1
   |some j=>
    rw[ej]at h1 h2
    have e1:(X.N[j]?).getD ("":Str)=y:=Option.some.inj h1
    have e2:(σ[j]?).join=some v:=Option.some.inj h2
    have e3:σ[j]?=some (some v):=by
     cases q:σ[j]? with
     |none=>rw[q]at e2;cases e2
     |some o=>rw[q]at e2;exact congrArg some e2
    have hj:j<X.N.length:=by rw[<-I.len];exact(F0.mp e3).1
    have e4:X.N[j]?=some y:=by
     rw[E7 hj]at e1 ⊢
     exact congrArg some e1
    have nl:scope.names.lookup y≠some .local:=by
     have:=c.js j (EZ ej)
     rw[e1]at this
     exact this
    have kc:(iD scope s.heap.objs.size X.env).kindOf y=some .cell\/(iD scope s.heap.objs.size X.env).kindOf y=some .free:=by
     rcases h3 with z|z|z
     ·rcases c.kindOf (C:=s.heap.objs.size) ok z with q|⟨q,_⟩
      ·exact absurd q nl
      ·cases q
     ·exact .inl z
     ·exact .inr z
    have hm:(y,HG)∈scope.names:=by
     rcases free kc with z|z
     ·exact absurd (c.cell _ (FV z) rfl) hout
     ·exact FV z
    obtain⟨a,ha⟩:=m8 (env:=X.env) hm
    have ha2:(iD scope s.heap.objs.size X.env).cells.lookup y=some a:=by
     show(GX (s.heap.objs.size+1) scope.names (dC scope.names X.env)).lookup y=some a
     rw[bZ,List.lookup_append]
     cases q:(GX (s.heap.objs.size+1) scope.names []).lookup y with
     |none=>rw[ha];rfl
     |some a'=>exact absurd (c.cell _ (g9 _ _ (FV q)) rfl) hout
    have hvis:Vis X.env.scope y:=by
     rcases c.out _ hm rfl with z|z
     ·exact .inr (.inl z)
     ·exact .inr (.inr z)
    obtain⟨m,_,hl⟩:=I.loc
    obtain⟨u,r,l⟩:=hl j y v e4 e3 hvis
    refine⟨u,r,?_⟩
    rcases l with⟨z,_⟩|⟨_,a',ha',o,ho,hd⟩
    ·rcases c.out _ hm rfl with q|q
     ·have z':X.env.kindOf y=some .local:=z
      rw[q]at z';cases z'
     ·have z':X.env.kindOf y=some .local:=z
      rw[q]at z';cases z'
    ·refine .inr ⟨kc,a',?_,o,k _ _ ho,hd⟩
     have:=cl ha
     rw[ha']at this
     cases this
     exact ha2
 ·rcases both e with⟨m,_⟩|o
  ·exact⟨_,(cok.empty _ _ m).1⟩
  ·obtain⟨v,o,ho,hd⟩:=I.cell y a o
   exact⟨v,o,k _ _ ho,hd⟩
 ·rcases both e with⟨_,l⟩|o
  ·exact I.hok.fresh (Nat.le_of_lt l)
  ·exact I.freeC y a o
 ·show(cσ (Fv xs.length none) js σ).length=(cN X xs js).length
  unfold cσ cN
  simp
end
def PTs(X:Cx)(ifs:List Expr)(t:TT):Prop:=∀(pins:List (Addr×Obj)) (s:E3) (σ:L2.St) (H:Hp) (Q:Bool->Hp->Prop),Inv X pins σ H s->t σ H Q->
 EX (F6 X.prog X.w) X.A (forIn ifs true fun c r=>if r=true then do let ok <-isTrue c X.env (eval c X.env);pure (Hv ok)else pure (Hv r)) (TP X pins σ Q) X.xe s
theorem xW{X:Cx}:PTs X [] (fun _ H Q=>Q true H):=fun pins s σ H Q I q=>wpAny_tests_nil ⟨H,I,q⟩
theorem yZ{X:Cx}{c:Expr}{t:TT}(h:PT X c t):PTs X [c] t:=fun pins s σ H Q I q=>wpAny_tests_one (h pins s σ H Q I q)
theorem rT{prog:F8}{w:Fy}{A:FK}{R:Result->E3->Prop}{s:E3}{elt target iter:Expr}{ifs:List Expr}{scope:HN}{pos:Pos}{it acc:E1}{env:Env}(J:Nat->E3->Prop)
 (step:∀n s,J n s->EX (F6 prog w) A (HP it) (fun r s1=>match r with
  |none=>R (.ok .next) s1
  |some v=>EX (F6 prog w) A (Hd target it v) (fun _ s2=>EX (F6 prog w) A (Io target env v) (fun _ s3=>
   EX (F6 prog w) A (forIn ifs true fun c r=>if r=true then do let ok <-isTrue c env (eval c env);pure (Hv ok)else pure (Hv r)) (fun ok s4=>
    if ok=true then EX (F6 prog w) A (eval elt env) (fun x s5=>EX (F6 prog w) A (call (.builtin "list.append") [acc,x]) (fun _ s6=>∃m,m<n/\J m s6) NoE s5) NoE s4
    else ∃m,m<n/\J m s4) NoE s3) NoE s2) NoE s1) NoE s)
 (n:Nat) (h:J n s):Hh (F6 prog w) A (.compLoop (.ListComp elt [⟨target,iter,ifs,0⟩] scope pos) 0 it acc env) R s:=by
 have no:∀{E:E1->E3->Prop} e s',NoE e s'->E e s':=fun _ _ z=>z.elim
 refine codeAny_loop rfl J (fun n s hJ=>?_) n h
 show EX _ _ (Sem.onRaise (compTurn (.ListComp elt [⟨target,iter,ifs,0⟩] scope pos) 0 it acc env) (fun x=>do noteFrame x env;theTreesLotGoes x)) _ _ s
 refine wpAny_noted ?_
 rw[compTurn_list]
 refine cc (GL (cc (F7 (step n s hJ) (fun r s1 h1=>?_) no)))
 cases r with
 |none=>exact E4 h1
 |some v=>
  refine cc (F7 h1 (fun _ s2 h2=>cc (F7 h2 (fun _ s3 h3=>cc (F7 h3 (fun ok s4 h4=>?_) no)) no)) no)
  cases ok with
  |false=>exact E4 ⟨rfl,h4⟩
  |true=>exact cc (cc (F7 h4 (fun x s5 h5=>cc (F7 h5 (fun _ s6 h6=>E4 (E4 ⟨rfl,h6⟩)) no)) no))
abbrev Own:=V->Hp->L2.St->Prop
structure TgOk(n:Nat)(g:TG)(own:Own):Prop where
 len:∀y H os,own y H os->os.length=n
 run:∀y H os0 tail os (Q:L2.St->Hp->Prop),os0.length=n->own y H os->Q (os++tail) H->g y (os0++tail) H Q
def ze(js:List Nat)(own:Own)(tc:TT)(te:TE)(σ:L2.St)(J:It)(H1:Hp)(Q:VK):Prop:=∀D,H1 D=none->∃W:Nat->Nat->Hp->Prop,(∃m,W 0 m (upd H1 D (.lst [])))/\∀i m H,W i m H->
 (J.stop i H/\Q (.ref D) H)\/(J.go i H/\∀y H',J.yld i H y H'->∃os,own y H' os/\tc (cσ os js σ) H' fun b H2=>if b=true then
  te (cσ os js σ) H2 fun v H3=>∃xs,H3 D=some (.lst xs)/\xs.length<Fb/\∃m',m'<m/\W (i+1) m' (upd H3 D (.lst (xs++[v])))else ∃m',m'<m/\W (i+1) m' H2)
def pb(js:List Nat)(own:Own)(wi:TI)(tc:TT)(te:TE):TE:=fun σ H Q=>wi σ H fun J H1=>ze js own tc te σ J H1 Q
section
variable{X:Cx}{xs:List Str}{tg:Expr}{pos:Pos}{js:List Nat}{scope:HN}{elt iter:Expr}{ifs:List Expr}{te:TE}{tc:TT}{g:TG}{own:Own}{wi:TI}{pins:List (Addr×Obj)}{σ:L2.St}{H:Hp}{s:E3}{fp:List Addr}{it:Addr}{tn:Nat->Heap->Prop}{J:It}
theorem oJ(c:CScope X xs js scope)(hc:X.calm=true)(hG:TgOk xs.length g own)(hg:∀C s H fp,PG (cxC X xs js scope C s H fp) tg g)(ht:∀C s H fp,PTs (cxC X xs js scope C s H fp) ifs tc)(he:∀C s H fp,PE (cxC X xs js scope C s H fp) elt te)
 {R:E1->Addr->Result->E3->Prop} {E:E1->E3->Prop} {Q:VK}
 (I:Inv X pins σ H s) (T:Turn X.prog X.w X.K tg J fp it tn) (st:tn 0 s.heap) (hf:∀b∈fp,cf X pins H b) (wc:ze js own tc te σ J H Q)
 (hR:∀D C H' s',Inv X pins σ H' s'->cf X pins H' C->(∃m,s'.heap.Ns C m)->Q (.ref D) H'->R (.ref D) C (.ok .next) s') :
 EX (F6 X.prog X.w) X.A (newList []) (fun acc s₃=>EX (F6 X.prog X.w) X.A (newFunctionEnv scope X.env.globals (dC scope.names X.env) [] X.env.qual none .none (some X.env)) (fun cenv s₄=>
  Hh (F6 X.prog X.w) X.A (.compStart (.ListComp elt [⟨tg,iter,ifs,0⟩] scope pos) 0 (.ref it) acc { cenv with scope:=relabel scope X.env }) (R acc cenv.locals) s₄) E s₃) E s:=by
 have hfp:∀b∈fp,b<s.heap.objs.size:=fun b hb=>let⟨o,e,_⟩:=T.obj 0 _ st b hb;F9 e
 have hD:H s.heap.objs.size=none:=I.hok.fresh (E8 _)
 refine FR (lZ ?_)
 generalize hh:s.heap.push { cls:=.type "list",dict:=none,data:=.seq ([]:List E1).toArray }=h3
 generalize hh1:pushCells (({ s with heap:=h3 }:E3).heap.push { cls:=.type "dict",data:=.dict #[] }) scope.names=h₁
 have k3:∀b o,s.heap.get? b=some o->h3.get? b=some o:=fun b o e=>by rw[<-hh];exact E5 _ e
 have I3:Inv X pins σ (upd H s.heap.objs.size (.lst [])) { s with heap:=h3 }:=by
  refine I.laid (t':=s.toks) k3 (E8 _) ?_
  refine⟨FQ _,[],0,.nil,?_⟩
  rw[<-hh]
  exact EY _ rfl
 have hf3:∀b∈fp,cf X pins (upd H s.heap.objs.size (.lst [])) b:=fun b hb=>⟨by rw[aK (Fs (hfp b hb))];exact(hf b hb).1,(hf b hb).2⟩
 have hsz:h3.objs.size=s.heap.objs.size+1:=by rw[<-hh,Gj]
 have hfp3:∀b∈fp,b<h3.objs.size:=fun b hb=>by rw[hsz];exact Hq (hfp b hb)
 have k4:∀b o,h3.get? b=some o->h₁.get? b=some o:=fun b o e=>by rw[<-hh1];exact pushCells_keeps _ _ b o (E5 _ e)
 have I4:=jT c I3 hf3 hfp3 (h':=h₁) hh1.symm k4
 obtain⟨W,⟨m0,w0⟩,turn⟩:=wc _ hD
 have st4:tn 0 h₁:=T.keep 0 _ _ st fun b hb o e=>k4 b o (k3 b o e)
 generalize hX:cxC X xs js scope h3.objs.size { s with heap:=h3 } (upd H s.heap.objs.size (.lst [])) fp=X' at I4
 have fok:∀{pins':List (Addr×Obj)} {H':Hp} {σ':L2.St} {s':E3},Inv X' [] σ' H' s'->(∀b∈fp,H' b=none)->∀b∈fp,cf X' [] H' b:=fun{pins' H' σ' s'} J' hn b hb=>by
  subst hX
  obtain⟨a1,a2⟩:=J'.ok.exf b hb
  exact⟨hn b hb,a1,J'.ok.exfs b hb,.inl hb,a2,fun p hp=>absurd (show p∈([]:List (Addr×Obj))from hp) (by simp)⟩
 have loop:Hh (F6 X.prog X.w) X.A (.compLoop (.ListComp elt [⟨tg,iter,ifs,0⟩] scope pos) 0 (.ref it) (.ref s.heap.objs.size) (iD scope h3.objs.size X.env)) (R (.ref s.heap.objs.size) h3.objs.size)
  { s with heap:=h₁ }:=by
  refine rT (fun n s'=>∃i os H',os.length=xs.length/\Inv X' [] (cσ os js σ) H' s'/\tn i s'.heap/\(∀b∈fp,H' b=none)/\W i n H') ?_ m0 ⟨0,_,_,by simp,I4,st4,fun b hb=>(hf3 b hb).1,w0⟩
  rintro n s5 ⟨i,os,H5,hl5,I5,st5,fr5,w5⟩
  rcases turn i n H5 w5 with⟨stop,q⟩|⟨go,step⟩
  ·subst hX
   refine F7 (T.done (cxC X xs js scope h3.objs.size { s with heap:=h3 } (upd H s.heap.objs.size (.lst [])) fp) rfl rfl rfl hc i [] s5 _ H5 NoE I5 (fok (pins':=[]) I5 fr5) st5 stop) (fun r s6 zz1_0=>?_) fun _ _ z=>z
   obtain⟨hr,I6⟩:=zz1_0
   subst hr
   refine hR _ _ H5 s6 (I3.vP I6.os I6.base I6.hok I6.bare fun b hb=>⟨(hf3 b hb).2.2.2.1,(hf3 b hb).2.1,(hf3 b hb).2.2.2.2.1,(hf3 b hb).2.2.2.2.2⟩) (I3.qg (E8 _) I6.free) (let⟨m,hm,_⟩:=I6.loc;⟨m,hm⟩) q
  ·subst hX
   refine F7 (T.item (cxC X xs js scope h3.objs.size { s with heap:=h3 } (upd H s.heap.objs.size (.lst [])) fp) rfl rfl rfl hc i [] s5 _ H5 NoE I5 (fok (pins':=[]) I5 fr5) st5 go) (fun r s6 zz2_0=>?_) fun _ _ z=>z
   obtain⟨u,hr,h6⟩:=zz2_0
   subst hr
   refine F7 h6 (fun _ s7 zz3_0=>?_) fun _ _ z=>z
   obtain⟨y,H7,I7,r7,y7,st7,fr7⟩:=zz3_0
   have I7':=I7.pinned (fok (pins':=[]) I7 fr7) (T.obj _ _ st7)
   obtain⟨os8,ow8,q8⟩:=step y H7 y7
   have l8:=hG.len _ _ _ ow8
   refine F7 (hg _ _ _ _ _ s7 _ H7 y u (fun σ' H'=>σ'=cσ os8 js σ/\H'=H7) I7' r7 (hG.run y H7 os _ os8 _ hl5 ow8 ⟨rfl,rfl⟩)) (fun _ s8 zz4_0=>?_) fun _ _ z=>z
   obtain⟨σ8,H8,I8,e8,e8'⟩:=zz4_0
   subst e8 e8'
   refine F7 (ht _ _ _ _ _ s8 _ _ _ I8 q8) (fun ok s9 zz5_0=>?_) fun _ _ z=>z
   obtain⟨H9,I9,q9⟩:=zz5_0
   have back:∀{m':Nat} {H10:Hp} {s10:E3},Inv (cxC X xs js scope h3.objs.size { s with heap:=h3 } (upd H s.heap.objs.size (.lst [])) fp) ([]++eE fp s7.heap) (cσ os8 js σ) H10 s10->m'<n->W (i+1) m' H10->
    ∃m,m<n/\∃i os H',os.length=xs.length/\Inv (cxC X xs js scope h3.objs.size { s with heap:=h3 } (upd H s.heap.objs.size (.lst [])) fp) [] (cσ os js σ) H' s10/\tn i s10.heap/\(∀b∈fp,H' b=none)/\W i m H':=fun{m' H10 s10} I10 hm' w10=>by
    refine⟨m',hm',i+1,os8,H10,l8,I10.cY,T.keep _ _ _ st7 fun b hb o e=>(I10.pin (b,o) (Ff _ (Ff _ (ba hb e)))).1,fun b hb=>?_,w10⟩
    obtain⟨o',e,d⟩:=T.obj _ _ st7 b hb
    exact(I10.pin (b,o') (Ff _ (Ff _ (ba hb e)))).2.1
   cases ok with
   |false=>
    rw[if_neg F4]at q9 ⊢
    obtain⟨m',hm',w9⟩:=q9
    exact back I9 hm' w9
   |true=>
    rw[if_pos rfl]at q9 ⊢
    refine F7 (he _ _ _ _ _ s9 _ _ _ I9 q9) (fun v s10 zz6_0=>?_) fun _ _ z=>z
    obtain⟨vv,H10,I10,r10,ys,hd10,hl10,q10⟩:=zz6_0
    refine F7 (gM (X:=(cxC X xs js scope h3.objs.size { s with heap:=h3 } (upd H s.heap.objs.size (.lst [])) fp)) _ s10 _ H10 (.ref s.heap.objs.size) [vv] (.ref s.heap.objs.size) [v] (fun _ H'=>∃m',m'<n/\W (i+1) m' H') I10 rfl (.cons r10 .nil) ⟨_,ys,vv,rfl,rfl,hd10,hl10,q10⟩) (fun _ s11 zz7_0=>?_) fun _ _ z=>z
    obtain⟨_,H11,I11,_,m',hm',w11⟩:=zz7_0
    exact back I11 hm' w11
 exact codeAny_compStart_list loop (T.self X.A 0 _ _ _ st4 loop)
theorem xE(c:CScope X xs js scope)(hc:X.calm=true)(hi:PI X tg iter wi)(hG:TgOk xs.length g own)(hg:∀C s H fp,PG (cxC X xs js scope C s H fp) tg g)(ht:∀C s H fp,PTs (cxC X xs js scope C s H fp) ifs tc)(he:∀C s H fp,PE (cxC X xs js scope C s H fp) elt te)(hs:∀x,FD iter X.env x=pure x:=by intro _;rfl) : PE X (.ListComp elt [⟨tg,iter,ifs,0⟩] scope pos) (pb js own wi tc te):=by intro pins s σ H Q I h;rw[eval_ListComp];refine wpAny_comprehension_free (use:=none) rfl hs (c.xF I.ok) c.kind c.names (thn (hi pins s σ H _ I h) fun v s1 h1=>thn h1 fun itv s2 zz8_0=>?_);obtain⟨it,fp,tn,J,H2,e,I2,T,st,f2,w⟩:=zz8_0;subst e;refine oJ (R:=fun acc C=>compPost (F6 X.prog X.w) X.A X.xe none (EP X pins σ Q) acc C) c hc hG hg ht he I2 T st f2 w fun D C H' s' I' fC zz9_0 q=>?_;obtain⟨m,hm⟩:=zz9_0;exact⟨m,hm,fun h' hsb=>⟨.ref D,H',I'.turned (t':=s'.toks) (fun b o ne e=>hsb.extBut b o ne e) fC.1 fC.2.1 fC.2.2.2.1 fC.2.2.2.2.1 fC.2.2.2.2.2,rfl,q⟩⟩
theorem yq{i:Nat}{y:Str}{py spos:Pos}(c:CScope X xs js scope)(hc:X.calm=true)(hN:X.N.Nodup)(hi:PI X tg iter wi)(hG:TgOk xs.length g own)(hg:∀C s H fp,PG (cxC X xs js scope C s H fp) tg g)(ht:∀C s H fp,PTs (cxC X xs js scope C s H fp) ifs tc)(he:∀C s H fp,PE (cxC X xs js scope C s H fp) elt te)(hy:X.N[i]?=some y)(hl:X.env.scope.names.lookup y=some .local)
 (hsw:HI (.ListComp elt [⟨tg,iter,ifs,0⟩] scope pos) (some (.Name y py)) spos.line X.env=pure true) (hs:∀x,FD iter X.env x=pure x:=by intro _;rfl) :
 PS X (.Assign [.Name y py] (.ListComp elt [⟨tg,iter,ifs,0⟩] scope pos) spos) (yy (pb js own wi tc te) (d3 i)):=by
 intro pins s σ H B I h
 rw[exec_Assign_Name_used _ _ _ _ hsw]
 refine cc (GL (cc ?_))
 show EX _ X.A (do let _ <-comprehension (.ListComp elt [⟨tg,iter,ifs,0⟩] scope pos) scope X.env _ (newList []) false (eval iter X.env) (some (Io (.Name y py) X.env))) _ _ s
 refine cc (F7 (wpAny_comprehension_free (use:=some (Io (.Name y py) X.env)) (Q:=fun _ s'=>SP X pins B .next s') rfl hs (c.xF I.ok) c.kind c.names
  (thn (hi pins s σ H _ I h) fun v s1 h1=>thn h1 fun itv s2 z=>?_)) (fun _ s' hq=>E4 (E4 hq)) fun _ _ e=>e)
 obtain⟨it,fp,tn,J,H2,e,I2,T,st,f2,w⟩:=z
 subst e
 refine oJ (R:=fun acc C=>compPost (F6 X.prog X.w) X.A X.xe (some (Io (.Name y py) X.env)) (fun _ s'=>SP X pins B .next s') acc C) c hc hG hg ht he I2 T st f2 w fun D C H' s' I' fC zz10_0 q=>?_
 obtain⟨m,hm⟩:=zz10_0
 show EX _ X.A (Io (.Name y py) X.env (.ref D)) _ _ _
 refine wpAny_assign_Name (ij I' hN hy (.inl hl) (v:=.ref D) rfl (fun s9 I9 zz11_0=>?_) (.inr hl))
 obtain⟨a,sb,ha⟩:=zz11_0
 have hne:C≠a:=by
  rcases ha with z|z
  ·rw[z];exact fC.2.1
  ·exact fun e=>fC.2.2.2.2.1 y a z e.symm
 refine⟨m,hm.sameBut sb hne,fun h' hsb=>?_⟩
 exact⟨_,H',I9.turned (t':=s9.toks) (fun b o ne e=>hsb.extBut b o ne e) fC.1 fC.2.1 fC.2.2.2.1 fC.2.2.2.2.1 fC.2.2.2.2.2,q⟩
end
inductive Tgt where
 |one|many (n:Nat)
def nI(K:E2):Tgt->Own
 |.one=>fun y _ os=>os=[some y]
 |.many n=>fun y H os=>∃a xs,y=.ref a/\SqT K H a xs/\xs.length=n/\os=xs.map some
theorem qh{K:E2}:TgOk 1 (d3 0) (nI K .one):=⟨fun _ _ os h=>by rw[h];rfl,fun y H os0 tail os Q hl ho q=>by
 obtain⟨o,rfl⟩:=BB hl
 rw[show os=[some y]from ho]at q;exact q⟩
theorem B9{K:E2}:TgOk 2 (Bm K 2 (oG (d3 0) (oG (d3 1) By))) (nI K (.many 2)):=⟨fun _ _ os z=>by
 obtain⟨a,xs,_,_,hl,e⟩:=z
 rw[e];simpa using hl,fun y H os0 tail os Q hl z q=>by
 obtain⟨a,xs,e,hq,hx,ho⟩:=z
 obtain⟨o,o',rfl⟩:=xI hl
 obtain⟨u,v,rfl⟩:=xI hx
 rw[ho]at q;exact⟨a,_,e,hq,hx,u,_,rfl,v,_,rfl,rfl,q⟩⟩
def uq:Tgt->D->DS->Prop
 |.one,d,os=>os=[some d]
 |.many n,d,os=>∃ds,d=.tup ds/\ds.length=n/\os=ds.map some
def cδ(os:DS)(js:List Nat)(δ:DS):DS:=os++js.map fun j=>(δ[j]?).join
theorem iM{K:E2}{H:Hp}{δ os:DS}{σ us:L2.St}{js:List Nat}(hs:Slots K H δ σ)(r:Slots K H os us):Slots K H (cδ os js δ) (cσ us js σ):=by
 refine⟨by simp[cδ,cσ,r.len],fun i e q=>?_⟩;unfold cδ at q;unfold cσ;by_cases hi:i<os.length
 ·rw[FO hi]at q;rw[FO (by rw[<-r.len];exact hi)];exact r.at' i e q
 ·rw[FL (by omega)]at q;rw[FL (by rw[<-r.len];omega),<-r.len];rw[E9]at q ⊢;cases ej:js[i-os.length]? with
  |none=>rw[ej]at q;cases q
  |some j=>
   rw[ej]at q
   have e2:(δ[j]?).join=some e:=Option.some.inj q
   have e3:δ[j]?=some (some e):=by
    cases z:δ[j]? with
    |none=>rw[z]at e2;cases e2
    |some o=>rw[z]at e2;exact congrArg some e2
   obtain⟨v',e4,e5⟩:=hs.at' j e e3
   exact⟨v',by rw[show(some j).map (fun j=>(σ[j]?).join)=some ((σ[j]?).join)from rfl,e4];rfl,e5⟩
theorem ic{K:E2}{H:Hp}{ds:List D}{xs:List V}(r:aB K H ds xs):Slots K H (ds.map some) (xs.map some):=by
 refine⟨by simp[r.length],fun i d e=>?_⟩;rw[E9]at e ⊢;cases q:ds[i]? with
 |none=>rw[q]at e;cases e
 |some d'=>
  rw[q]at e;cases e
  obtain⟨x,e1,e2⟩:=r.get q
  exact⟨x,by rw[e1];rfl,e2⟩
theorem ng{K:E2}{H:Hp}{tk:Tgt}{d:D}{v:V}{os:DS}(r:Rep K H d v)(h:uq tk d os):∃us,nI K tk v H us/\Slots K H os us:=by
 cases tk with
 |one=>
  rw[show os=[some d]from h]
  exact⟨[some v],rfl,ic (.cons r .nil)⟩
 |many n=>
  obtain⟨ds,rfl,hl,rfl⟩:=h
  rw[Rep]at r
  obtain⟨a,xs,rfl,hq,rs⟩:=r
  exact⟨_,⟨a,xs,rfl,hq,by rw[<-rs.length];exact hl,rfl⟩,ic rs⟩
def iV:TTD:=fun _ M Q=>Q true M
def uF(I:ItD)(tk:Tgt)(js:List Nat)(tc:TTD)(te:TD)(δ:DS)(M1:MH)(Q:DK):Prop:=I.n<=1000000/\∀p,M1 p=none->∃W:Nat->List D->MH->Prop,W 0 [] (aw M1 p (.lst []))/\(∀i ys M,i<=I.n->W i ys M->I.C M)/\
 (∀i ys d M,i<I.n->I.item i=some d->W i ys M->∃os,uq tk d os/\tc (cδ os js δ) M fun b M2=>if b=true then te (cδ os js δ) M2 fun e M'=>∃M3,Sub M3 M'/\M3 p=some (.lst ys)/\W (i+1) (ys++[e]) (aw M3 p (.lst (ys++[e])))else ∃M3,Sub M3 M2/\W (i+1) ys M3)/\∀ys M,W I.n ys M->Q (.ref p) M
def gR(wd:TID)(tk:Tgt)(js:List Nat)(tc:TTD)(te:TD):TD:=fun δ M Q=>wd δ M fun I M1=>uF I tk js tc te δ M1 Q
section
variable{X:Cx}{K:E2}
theorem kZ{wd:TID}{tk:Tgt}{js:List Nat}{tc:TTD}{te:TD}{σ:L2.St}{H:Hp}{Q:VK}(h:lift K (gR wd tk js tc te) σ H Q):pb js (nI K tk) (lO K wd) (liftT K tc) (lift K te) σ H Q:=by
 obtain⟨δ,M,R,hs,hM,q,fin⟩:=h;refine⟨δ,M,_,hs,hM,q,fun I M1 H1 J g1 a1 kc io p hp=>?_⟩;obtain⟨hn,kc⟩:=kc;obtain⟨W,w0,hC,turn,done⟩:=kc p (a1.fresh hp);refine⟨fun i m H2=>m=I.n-i/\i<=I.n/\Grow K H1 H2/\∃ys M,ys.length<=i/\Abs K H2 M/\W i ys M,⟨I.n,by simp,FQ _,.new hp,[],_,E8 _,a1.mi hp .nil,w0⟩,?_⟩;rintro i m H2 ⟨rfl,hi,g2,ys,M2,hl,a2,w2⟩;by_cases hin:i<I.n
 ·refine .inr ⟨io.go i H2 M2 hin g2 a2 (hC _ _ _ hi w2),fun v H3 hy=>?_⟩;obtain⟨g3,a3,d,ed,rd⟩:=io.yld i H2 M2 v H3 hin g2 a2 (hC _ _ _ hi w2) hy;obtain⟨os,ow,q3⟩:=turn i ys d M2 hin ed w2;obtain⟨us,uv,su⟩:=ng rd ow;have s3:=iM (js:=js) (hs.mono ((g1.trans g2).trans g3)) su;refine⟨us,uv,cδ os js δ,M2,_,s3,a3,q3,fun b M4 H4 g4 a4 q4=>?_⟩;cases b with
  |false=>
   rw[if_neg F4]at q4 ⊢
   obtain⟨M5,s5,w5⟩:=q4
   exact⟨I.n-(i+1),by omega,rfl,hin,(g2.trans g3).trans g4,ys,M5,by omega,a4.sub s5,w5⟩
  |true=>
   rw[if_pos rfl]at q4 ⊢
   refine⟨cδ os js δ,M4,_,s3.mono g4,a4,q4,fun e M' u H5 g5 r5 a5 zz2_0=>?_⟩
   obtain⟨M6,s6,e6,w6⟩:=zz2_0
   obtain⟨zs,hx,rs⟩:=(a5.sub s6) _ _ e6
   refine⟨zs,hx,?_,I.n-(i+1),by omega,rfl,hin,(((g2.trans g3).trans g4).trans g5).trans (.lst hx),ys++[e],_,by simp;omega,(a5.sub s6).wW hx (rs.append (.cons r5 .nil)),w6⟩
   rw[<-rs.length]
   exact Nat.lt_of_le_of_lt hl (Fh hin (Gp hn (by decide)))
 ·obtain rfl:i=I.n:=by omega
  exact .inl ⟨io.stop H2 M2 g2 a2 (hC _ _ _ hi w2),fin _ _ _ _ (g1.trans g2) (by rw[Rep]) a2 (done ys M2 w2)⟩
variable{xs:List Str}{tg:Expr}{pos:Pos}{js:List Nat}{scope:HN}{elt iter:Expr}{ifs:List Expr}{te:TD}{tc:TTD}{g:TG}{tk:Tgt}{wd:TID}
def DTs(X:Cx)(ifs:List Expr)(t:TTD):Prop:=PTs X ifs (liftT X.K t)
theorem dh:DTs X [] iV:=fun pins s σ H Q I zz3_0=>by obtain⟨δ,M,R,hs,hM,q,fin⟩:=zz3_0;exact(xW pins s σ H Q I (fin _ _ _ .refl hM q))
theorem yH{c:Expr}{t:TTD}(h:DT X c t):DTs X [c] t:=yZ h
theorem qD(c:CScope X xs js scope)(hc:X.calm=true)(hi:DI X tg iter wd)(hG:TgOk xs.length g (nI X.K tk))(hg:∀C s H fp,PG (cxC X xs js scope C s H fp) tg g)(ht:∀C s H fp,DTs (cxC X xs js scope C s H fp) ifs tc)(he:∀C s H fp,DE (cxC X xs js scope C s H fp) elt te) (hs:∀x,FD iter X.env x=pure x:=by intro _;rfl):DE X (.ListComp elt [⟨tg,iter,ifs,0⟩] scope pos) (gR wd tk js tc te):=aP (xE (te:=lift X.K te) (tc:=liftT X.K tc) c hc hi hG hg ht he hs) fun _ _ _ h=>kZ h
theorem yf(i:Nat){y:Str}{py spos:Pos}(hN:X.N.Nodup)(c:CScope X xs js scope)(hc:X.calm=true)(hi:DI X tg iter wd)(hG:TgOk xs.length g (nI X.K tk))(hg:∀C s H fp,PG (cxC X xs js scope C s H fp) tg g)(ht:∀C s H fp,DTs (cxC X xs js scope C s H fp) ifs tc)(he:∀C s H fp,DE (cxC X xs js scope C s H fp) elt te) (hy:X.N[i]?=some y:=by rfl) (hl:X.env.scope.names.lookup y=some .local:=by rfl) (hsw:HI (.ListComp elt [⟨tg,iter,ifs,0⟩] scope pos) (some (.Name y py)) spos.line X.env=pure true:=by rfl) (hs:∀x,FD iter X.env x=pure x:=by intro _;rfl) : DSt X (.Assign [.Name y py] (.ListComp elt [⟨tg,iter,ifs,0⟩] scope pos) spos) (cK (gR wd tk js tc te) (bc i)):=bW (yq (te:=lift X.K te) (tc:=liftT X.K tc) c hc hN hi hG hg ht he hy hl hsw hs) fun E σ H zz4_0=>by obtain⟨δ,M,hs,a,B,ok,q⟩:=zz4_0;exact(kZ ⟨δ,M,_,hs,a,q,fun d M1 v H1 g1 r1 a1 q1=>ok.nx _ _ _ _ g1 ((hs.mono g1).set r1 i) a1 q1⟩)
theorem comp_map{I:ItD}{tk:Tgt}{js:List Nat}{te:TD}{δ:DS}{M1:MH}{Q:DK}(f:Nat->D)(hn:I.n<=1000000)(hC:∀p ys,M1 p=none->I.C (aw M1 p (.lst ys))) (h:∀i d M,i<I.n->I.item i=some d->Sub M1 M->∃os,uq tk d os/\∀K:DK,(∀M',Sub M M'->K (f i) M')->te (cδ os js δ) M K) (hq:∀p,M1 p=none->Q (.ref p) (aw M1 p (.lst ((Fg I.n).map f)))):uF I tk js iV te δ M1 Q:=by
 refine⟨hn,fun p hp=>⟨fun i ys M=>ys=(Fg i).map f/\M=aw M1 p (.lst ys),⟨rfl,rfl⟩,?_,?_,?_⟩⟩
 ·rintro i ys M _ ⟨_,rfl⟩;exact hC p ys hp
 ·rintro i ys d M hi hd ⟨rfl,rfl⟩;obtain⟨os,ow,k⟩:=h i d _ hi hd (.new hp .refl);refine⟨os,ow,?_⟩;unfold iV;refine A8 (k _ ?_);exact fun M' s'=>⟨_,s',aj,by rw[List.range_succ,FI];rfl,by rw[aX]⟩
 ·rintro ys M ⟨rfl,rfl⟩;exact hq p hp
end
def CD(X:Cx)(xs:List Str)(js:List Nat)(scope:HN):Bool:=
 scope.kind==.function&&scope.names.all (fun y=>(y.2 != .cell||xs.contains y.1)&&(y.2 != .free||!xs.contains y.1))&&scope.names.all (fun y=>y.2 != .local||scope.names.lookup y.1==some .local)&&xs.all (fun x=>scope.names.lookup x==some .local||scope.names.lookup x==some .cell) &&
  scope.names.all (fun y=>y.2 != .free||(X.env.kindOf y.1==some .cell||X.env.kindOf y.1==some .free))&&decide (cN X xs js).Nodup&&js.all (fun j=>scope.names.lookup ((X.N[j]?).getD ("":Str)) != some .local)
theorem CScope.of{X:Cx}{xs:List Str}{js:List Nat}{scope:HN}(h:CD X xs js scope=true):CScope X xs js scope:=by
 unfold CD at h;simp only[GF]at h;obtain⟨⟨⟨⟨⟨⟨h1,h2⟩,h3⟩,h4⟩,h5⟩,h6⟩,h7⟩:=h;refine⟨by simpa using h1,fun y hy hc=>?_,fun y hy hf=>?_,fun y hy hl=>?_,fun x hx=>?_,fun y hy hf=>?_,of_decide_eq_true h6,fun j hj=>?_⟩
 ·have:=Hj.mp h2 y hy;rw[hc]at this;simpa using this
 ·have:=Hj.mp h2 y hy;rw[hf]at this;simpa using this
 ·have:=Hj.mp h3 y hy;rw[hl]at this;simpa using this
 ·have:=Hj.mp h4 x hx;simpa using this
 ·have:=Hj.mp h5 y hy;rw[hf]at this;simpa using this
 ·have:=Hj.mp h7 j hj;simpa using this
section
variable{X:Cx}{x y z:Str}{px py pz pt pos:Pos}{kt:Nat}{js:List Nat}{scope:HN}{elt iter:Expr}{ifs:List Expr}{te:TD}{tc:TTD}{wd:TID}{xs:List Str}
theorem fU(c:CScope X xs js scope)(i:Nat)(hx:xs[i]?=some x){C:Addr}{s:E3}{H:Hp}{fp:List Addr}:PG (cxC X xs js scope C s H fp) (.Name x px) (d3 i):=by
 have hi:i<xs.length:=(F0.mp hx).1;have hm:=EZ hx
 have hl:Loc (cxC X xs js scope C s H fp).env.scope x:=by
  rcases c.own x hm with z|z
  ·exact .inl (dQ (by decide) z)
  ·exact .inr (dQ (by decide) z)
 refine qF (i:=i) c.nd ?_ hl (.inl (by show xs.contains x=true;simpa using hm));show(xs++js.map fun j=>(X.N[j]?).getD ("":Str))[i]?=some x;rw[FO hi];exact hx
theorem yn(c:CScope X [x,y] js scope)(hc:X.calm=true){C:Addr}{s:E3}{H:Hp}{fp:List Addr}:PG (cxC X [x,y] js scope C s H fp) (.Tuple [.Name x px,.Name y py] kt pt) (Bm X.K 2 (oG (d3 0) (oG (d3 1) By))):=wI (X:=cxC X [x,y] js scope C s H fp) hc (i9 (fU c 0 rfl) (i9 (fU c 1 rfl) rJ)) rfl rfl
theorem jK(c:CScope X [x] js scope)(hc:X.calm=true)(hi:DI X (.Name x px) iter wd)(ht:∀C s H fp,DTs (cxC X [x] js scope C s H fp) ifs tc)(he:∀C s H fp,DE (cxC X [x] js scope C s H fp) elt te) (hs:∀x,FD iter X.env x=pure x:=by intro _;rfl):DE X (.ListComp elt [⟨.Name x px,iter,ifs,0⟩] scope pos) (gR wd .one js tc te):=qD c hc hi qh (fun _ _ _ _=>fU c 0 rfl) ht he hs
theorem we(c:CScope X [x,y] js scope)(hc:X.calm=true)(hi:DI X (.Tuple [.Name x px,.Name y py] kt pt) iter wd)(ht:∀C s H fp,DTs (cxC X [x,y] js scope C s H fp) ifs tc)(he:∀C s H fp,DE (cxC X [x,y] js scope C s H fp) elt te) (hs:∀x,FD iter X.env x=pure x:=by intro _;rfl):DE X (.ListComp elt [⟨.Tuple [.Name x px,.Name y py] kt pt,iter,ifs,0⟩] scope pos) (gR wd (.many 2) js tc te):=qD c hc hi B9 (fun _ _ _ _=>yn c hc) ht he hs
theorem f6(i:Nat){v:Str}{pv spos:Pos}(hN:X.N.Nodup)(c:CScope X [x] js scope)(hc:X.calm=true)(hi:DI X (.Name x px) iter wd)(ht:∀C s H fp,DTs (cxC X [x] js scope C s H fp) ifs tc)(he:∀C s H fp,DE (cxC X [x] js scope C s H fp) elt te) (hy:X.N[i]?=some v:=by rfl) (hl:X.env.scope.names.lookup v=some .local:=by rfl) (hsw:HI (.ListComp elt [⟨.Name x px,iter,ifs,0⟩] scope pos) (some (.Name v pv)) spos.line X.env=pure true:=by rfl) (hs:∀x,FD iter X.env x=pure x:=by intro _;rfl) : DSt X (.Assign [.Name v pv] (.ListComp elt [⟨.Name x px,iter,ifs,0⟩] scope pos) spos) (cK (gR wd .one js tc te) (bc i)):=yf i hN c hc hi qh (fun _ _ _ _=>fU c 0 rfl) ht he hy hl hsw hs
end
section
variable{prog:F8}{w:Fy}{A:FK}{E:E1->E3->Prop}{s:E3}
theorem max_two{a b:E1}{c:Bool}{Q:E1->E3->Prop}(hh:A.handled=none)
 (cmp:∀(t:E3) (Q':E1->E3->Prop) (E':E1->E3->Prop),(∀x o,s.heap.get? x=some o->t.heap.get? x=some o)->Q' (.bool c) t->EX (F6 prog w) A.in1 (richCompare .Gt b a) Q' E' t)
 (h:∀h' tk,(∀x o,s.heap.get? x=some o->h'.get? x=some o)->Q (if c=true then b else a) { s with heap:=h',toks:=tk }) :
 EX (F6 prog w) A (call (.builtin "max") [a,b]) Q E s:=by
 have nm:(toString "max"++toString ".loop":String)="max.loop":=by decide
 refine call_function_tree F.kind_max F.plain_max F.entry_max (F.args_max2 _ _) ?_
 show EX _ A.in1 (Builtin.Builtins.bindParams "max" ["key","default"] 0 ⟨[],[]⟩ >>= fun _=>_) _ _ s
 refine cc (wpAny_of_eq (a:=[none,none]) rfl ?_)
 show EX _ A.in1 (newTuple [a,b] >>= fun _=>_) _ _ s
 refine cc (FR ?_)
 generalize e1:s.heap.push { cls:=.type "tuple",dict:=none,data:=.seq ([a,b]:List E1).toArray }=h1
 have k1:∀x o,s.heap.get? x=some o->h1.get? x=some o:=fun x o q=>by rw[<-e1];exact E5 _ q
 have hT:h1.IsTuple s.heap.objs.size #[a,b]:=by rw[<-e1];exact⟨_,EY _ rfl,rfl,0,rfl⟩
 have z1:h1.objs.size=s.heap.objs.size+1:=by rw[<-e1,Gj]
 refine cc (HQ (s:={ s with heap:=h1 }) hT ?_)
 refine cc (FR ?_)
 dsimp only
 generalize eI:h1.objs.size=I
 generalize e2:h1.push _=h2
 have k2:∀x o,h1.get? x=some o->h2.get? x=some o:=fun x o q=>by rw[<-e2];exact E5 _ q
 have hI:h2.IsTupleIter I s.heap.objs.size 0:=by rw[<-e2,<-eI];exact⟨_,EY _ rfl,rfl,rfl⟩
 have z2:h2.objs.size=I+1:=by rw[<-e2,Gj,eI]
 generalize eS:h2.objs.size=S
 generalize e3:h2.push _=h3
 have k3:∀x o,h2.get? x=some o->h3.get? x=some o:=fun x o q=>by rw[<-e3];exact E5 _ q
 have hS:h3.get? S=some { cls:=.type "list",dict:=none,data:=.seq #[] 0,slots:=#[] }:=by rw[<-e3,<-eS];exact EY _ rfl
 have SI:S≠I:=by omega
 have old:∀x o,s.heap.get? x=some o->x≠I/\x≠S:=fun x o q=>⟨Fs (Fh (F9 q) (by omega)),Fs (Fh (F9 q) (by omega))⟩
 have hT3:h3.IsTuple s.heap.objs.size #[a,b]:=by
  obtain⟨o,q,r⟩:=hT
  exact⟨o,k3 _ _ (k2 _ _ q),r⟩
 have hI3:h3.IsTupleIter I s.heap.objs.size 0:=hI.at fun o q=>k3 _ _ q
 have TI:s.heap.objs.size≠I:=by omega
 have TS:s.heap.objs.size≠S:=by omega
 have keep3:∀x o,s.heap.get? x=some o->h3.get? x=some o:=fun x o q=>k3 _ _ (k2 _ _ (k1 _ _ q))
 rw[nm]
 refine E4 ⟨GN HK _,?_⟩
 have last:∀(t:E3) (v:E1) (n:Nat),t.heap.IsTupleIter I s.heap.objs.size 2->t.heap.IsTuple s.heap.objs.size #[a,b]->t.heap.get? S=some { cls:=.type "list",dict:=none,data:=.seq #[v,v] n,slots:=#[] }->
  (∃h' tk,t={ s with heap:=h',toks:=tk }/\∀x o,s.heap.get? x=some o->h'.get? x=some o)->v=(if c=true then b else a)->Hh (F6 prog w) A (.builtin "max.loop" ⟨[.ref I,.none,.ref S],[]⟩) (fun r s'=>match r with|.ok (.ret v)=>Q v s'|.ok _=>False|.error e=>E e s') t:=by
  rintro t v n i2 tT lS ⟨h',tk,rfl,kt⟩ ev
  refine Gf F.entry_max_loop ?_
  rw[Gd HK _]
  show EX _ A.in1 (seqItems? (.ref S) >>= fun _=>_) _ _ _
  refine cc (GA lS rfl ?_)
  show EX _ A.in1 (tryCatch (HP (.ref I)) _ >>= fun _=>_) _ _ _
  refine cc (HR (wpAny_pyNext_tuple_end (A:=A.in1) hh i2 tT (by simp) fun h4 q4=>?_))
  have lS4:h4.get? S=some _:=q4 _ _ SI lS
  show EX _ A.in1 (updateSeq S (fun _=>#[]) >>= fun _=>_) _ _ _
  refine cc (wpAny_updateSeq lS4 rfl (cc (wpAny_letGo (E4 ?_))))
  show Q v _
  rw[ev]
  exact h _ _ fun x o q=>(FT _ _ (old x o q).2.symm).trans (q4 x o (old x o q).1 (kt x o q))
 refine Gf F.entry_max_loop ?_
 rw[Gd HK _]
 show EX _ A.in1 (seqItems? (.ref S) >>= fun _=>_) _ _ _
 refine cc (GA (s:={ s with heap:=h3 }) hS rfl ?_)
 show EX _ A.in1 (tryCatch (HP (.ref I)) _ >>= fun _=>_) _ _ _
 refine cc (HR (Ho (s:={ s with heap:=h3 }) hI3 hT3 (x:=a) (by simp) fun h4 i4 q4=>?_))
 have hS4:h4.get? S=some _:=(q4.2 _ SI).trans hS
 have hT4:h4.IsTuple s.heap.objs.size #[a,b]:=by
  obtain⟨o,q,r⟩:=hT3
  exact⟨o,(q4.2 _ TI).trans q,r⟩
 show EX _ A.in1 (updateSeq S (fun _=>#[a,a]) >>= fun _=>_) _ _ _
 refine cc (wpAny_updateSeq hS4 rfl ?_)
 rw[nm]
 refine E4 ⟨GN HK _,?_⟩
 generalize e5:h4.update S _=h5
 have o5:∀x,x≠S->h5.get? x=h4.get? x:=fun x q=>by rw[<-e5];exact FT _ _ q.symm
 have hS5:∃n,h5.get? S=some { cls:=.type "list",dict:=none,data:=.seq #[a,a] n,slots:=#[] }:=⟨_,by rw[<-e5];exact G7 _ hS4 rfl⟩
 obtain⟨n5,hS5⟩:=hS5
 have i5:h5.IsTupleIter I s.heap.objs.size 1:=i4.at fun o q=>(o5 _ SI.symm).trans q
 have hT5:h5.IsTuple s.heap.objs.size #[a,b]:=by
  obtain⟨o,q,r⟩:=hT4
  exact⟨o,(o5 _ TS).trans q,r⟩
 have keep5:∀x o,s.heap.get? x=some o->h5.get? x=some o:=fun x o q=>(o5 _ (old x o q).2).trans ((q4.2 _ (old x o q).1).trans (keep3 x o q))
 refine Gf F.entry_max_loop ?_
 rw[Gd HK _]
 show EX _ A.in1 (seqItems? (.ref S) >>= fun _=>_) _ _ _
 refine cc (GA (s:={ s with heap:=h5 }) hS5 rfl ?_)
 show EX _ A.in1 (tryCatch (HP (.ref I)) _ >>= fun _=>_) _ _ _
 refine cc (HR (Ho (s:={ s with heap:=h5 }) i5 hT5 (x:=b) (by simp) fun h6 i6 q6=>?_))
 have hS6:h6.get? S=some _:=(q6.2 _ SI).trans hS5
 have hT6:h6.IsTuple s.heap.objs.size #[a,b]:=by
  obtain⟨o,q,r⟩:=hT5
  exact⟨o,(q6.2 _ TI).trans q,r⟩
 have keep6:∀x o,s.heap.get? x=some o->h6.get? x=some o:=fun x o q=>(q6.2 _ (old x o q).1).trans (keep5 x o q)
 show EX _ A.in1 (tryCatch (holding [b,b] (richCompare .Gt b a >>= fun _=>_)) _ >>= fun _=>_) _ _ _
 refine cc (HR (FX (cc (cmp _ _ _ keep6 ?_))))
 refine cc (FX (Gs ?_))
 refine cc (wpAny_letGo (E4 ?_))
 cases c with
 |true=>
  simp only[if_true]at last ⊢
  refine cc (wpAny_updateSeq hS6 rfl (cc (wpAny_letGo ?_)))
  rw[nm]
  refine E4 ⟨GN HK _,last _ b _ (i6.at fun o q=>(FT _ _ SI).trans q) ?_ (G7 _ hS6 rfl) ⟨_,_,rfl,fun x o q=>(FT _ _ (old x o q).2.symm).trans (keep6 x o q)⟩ rfl⟩
  obtain⟨o,q,r⟩:=hT6
  exact⟨o,(FT _ _ TS.symm).trans q,r⟩
 |false=>
  simp only[F5,if_false]at last ⊢
  refine cc (wpAny_letGo ?_)
  rw[nm]
  exact E4 ⟨GN HK _,last _ a _ i6 hT6 hS6 ⟨_,_,rfl,keep6⟩ rfl⟩
theorem min_two{a b:E1}{c:Bool}{Q:E1->E3->Prop}(hh:A.handled=none)
 (cmp:∀(t:E3) (Q':E1->E3->Prop) (E':E1->E3->Prop),(∀x o,s.heap.get? x=some o->t.heap.get? x=some o)->Q' (.bool c) t->EX (F6 prog w) A.in1 (richCompare .Lt b a) Q' E' t)
 (h:∀h' tk,(∀x o,s.heap.get? x=some o->h'.get? x=some o)->Q (if c=true then b else a) { s with heap:=h',toks:=tk }) :
 EX (F6 prog w) A (call (.builtin "min") [a,b]) Q E s:=by
 have nm:(toString "min"++toString ".loop":String)="min.loop":=by decide
 refine call_function_tree F.kind_min F.plain_min F.entry_min (F.args_min2 _ _) ?_
 show EX _ A.in1 (Builtin.Builtins.bindParams "min" ["key","default"] 0 ⟨[],[]⟩ >>= fun _=>_) _ _ s
 refine cc (wpAny_of_eq (a:=[none,none]) rfl ?_)
 show EX _ A.in1 (newTuple [a,b] >>= fun _=>_) _ _ s
 refine cc (FR ?_)
 generalize e1:s.heap.push { cls:=.type "tuple",dict:=none,data:=.seq ([a,b]:List E1).toArray }=h1
 have k1:∀x o,s.heap.get? x=some o->h1.get? x=some o:=fun x o q=>by rw[<-e1];exact E5 _ q
 have hT:h1.IsTuple s.heap.objs.size #[a,b]:=by rw[<-e1];exact⟨_,EY _ rfl,rfl,0,rfl⟩
 have z1:h1.objs.size=s.heap.objs.size+1:=by rw[<-e1,Gj]
 refine cc (HQ (s:={ s with heap:=h1 }) hT ?_)
 refine cc (FR ?_)
 dsimp only
 generalize eI:h1.objs.size=I
 generalize e2:h1.push _=h2
 have k2:∀x o,h1.get? x=some o->h2.get? x=some o:=fun x o q=>by rw[<-e2];exact E5 _ q
 have hI:h2.IsTupleIter I s.heap.objs.size 0:=by rw[<-e2,<-eI];exact⟨_,EY _ rfl,rfl,rfl⟩
 have z2:h2.objs.size=I+1:=by rw[<-e2,Gj,eI]
 generalize eS:h2.objs.size=S
 generalize e3:h2.push _=h3
 have k3:∀x o,h2.get? x=some o->h3.get? x=some o:=fun x o q=>by rw[<-e3];exact E5 _ q
 have hS:h3.get? S=some { cls:=.type "list",dict:=none,data:=.seq #[] 0,slots:=#[] }:=by rw[<-e3,<-eS];exact EY _ rfl
 have SI:S≠I:=by omega
 have old:∀x o,s.heap.get? x=some o->x≠I/\x≠S:=fun x o q=>⟨Fs (Fh (F9 q) (by omega)),Fs (Fh (F9 q) (by omega))⟩
 have hT3:h3.IsTuple s.heap.objs.size #[a,b]:=by
  obtain⟨o,q,r⟩:=hT
  exact⟨o,k3 _ _ (k2 _ _ q),r⟩
 have hI3:h3.IsTupleIter I s.heap.objs.size 0:=hI.at fun o q=>k3 _ _ q
 have TI:s.heap.objs.size≠I:=by omega
 have TS:s.heap.objs.size≠S:=by omega
 have keep3:∀x o,s.heap.get? x=some o->h3.get? x=some o:=fun x o q=>k3 _ _ (k2 _ _ (k1 _ _ q))
 rw[nm]
 refine E4 ⟨GN HL _,?_⟩
 have last:∀(t:E3) (v:E1) (n:Nat),t.heap.IsTupleIter I s.heap.objs.size 2->t.heap.IsTuple s.heap.objs.size #[a,b]->t.heap.get? S=some { cls:=.type "list",dict:=none,data:=.seq #[v,v] n,slots:=#[] }->
  (∃h' tk,t={ s with heap:=h',toks:=tk }/\∀x o,s.heap.get? x=some o->h'.get? x=some o)->v=(if c=true then b else a)->Hh (F6 prog w) A (.builtin "min.loop" ⟨[.ref I,.none,.ref S],[]⟩) (fun r s'=>match r with|.ok (.ret v)=>Q v s'|.ok _=>False|.error e=>E e s') t:=by
  rintro t v n i2 tT lS ⟨h',tk,rfl,kt⟩ ev
  refine Gf F.entry_min_loop ?_
  rw[Gd HL _]
  show EX _ A.in1 (seqItems? (.ref S) >>= fun _=>_) _ _ _
  refine cc (GA lS rfl ?_)
  show EX _ A.in1 (tryCatch (HP (.ref I)) _ >>= fun _=>_) _ _ _
  refine cc (HR (wpAny_pyNext_tuple_end (A:=A.in1) hh i2 tT (by simp) fun h4 q4=>?_))
  have lS4:h4.get? S=some _:=q4 _ _ SI lS
  show EX _ A.in1 (updateSeq S (fun _=>#[]) >>= fun _=>_) _ _ _
  refine cc (wpAny_updateSeq lS4 rfl (cc (wpAny_letGo (E4 ?_))))
  show Q v _
  rw[ev]
  exact h _ _ fun x o q=>(FT _ _ (old x o q).2.symm).trans (q4 x o (old x o q).1 (kt x o q))
 refine Gf F.entry_min_loop ?_
 rw[Gd HL _]
 show EX _ A.in1 (seqItems? (.ref S) >>= fun _=>_) _ _ _
 refine cc (GA (s:={ s with heap:=h3 }) hS rfl ?_)
 show EX _ A.in1 (tryCatch (HP (.ref I)) _ >>= fun _=>_) _ _ _
 refine cc (HR (Ho (s:={ s with heap:=h3 }) hI3 hT3 (x:=a) (by simp) fun h4 i4 q4=>?_))
 have hS4:h4.get? S=some _:=(q4.2 _ SI).trans hS
 have hT4:h4.IsTuple s.heap.objs.size #[a,b]:=by
  obtain⟨o,q,r⟩:=hT3
  exact⟨o,(q4.2 _ TI).trans q,r⟩
 show EX _ A.in1 (updateSeq S (fun _=>#[a,a]) >>= fun _=>_) _ _ _
 refine cc (wpAny_updateSeq hS4 rfl ?_)
 rw[nm]
 refine E4 ⟨GN HL _,?_⟩
 generalize e5:h4.update S _=h5
 have o5:∀x,x≠S->h5.get? x=h4.get? x:=fun x q=>by rw[<-e5];exact FT _ _ q.symm
 have hS5:∃n,h5.get? S=some { cls:=.type "list",dict:=none,data:=.seq #[a,a] n,slots:=#[] }:=⟨_,by rw[<-e5];exact G7 _ hS4 rfl⟩
 obtain⟨n5,hS5⟩:=hS5
 have i5:h5.IsTupleIter I s.heap.objs.size 1:=i4.at fun o q=>(o5 _ SI.symm).trans q
 have hT5:h5.IsTuple s.heap.objs.size #[a,b]:=by
  obtain⟨o,q,r⟩:=hT4
  exact⟨o,(o5 _ TS).trans q,r⟩
 have keep5:∀x o,s.heap.get? x=some o->h5.get? x=some o:=fun x o q=>(o5 _ (old x o q).2).trans ((q4.2 _ (old x o q).1).trans (keep3 x o q))
 refine Gf F.entry_min_loop ?_
 rw[Gd HL _]
 show EX _ A.in1 (seqItems? (.ref S) >>= fun _=>_) _ _ _
 refine cc (GA (s:={ s with heap:=h5 }) hS5 rfl ?_)
 show EX _ A.in1 (tryCatch (HP (.ref I)) _ >>= fun _=>_) _ _ _
 refine cc (HR (Ho (s:={ s with heap:=h5 }) i5 hT5 (x:=b) (by simp) fun h6 i6 q6=>?_))
 have hS6:h6.get? S=some _:=(q6.2 _ SI).trans hS5
 have hT6:h6.IsTuple s.heap.objs.size #[a,b]:=by
  obtain⟨o,q,r⟩:=hT5
  exact⟨o,(q6.2 _ TI).trans q,r⟩
 have keep6:∀x o,s.heap.get? x=some o->h6.get? x=some o:=fun x o q=>(q6.2 _ (old x o q).1).trans (keep5 x o q)
 show EX _ A.in1 (tryCatch (holding [b,b] (richCompare .Lt b a >>= fun _=>_)) _ >>= fun _=>_) _ _ _
 refine cc (HR (FX (cc (cmp _ _ _ keep6 ?_))))
 refine cc (FX (Gs ?_))
 refine cc (wpAny_letGo (E4 ?_))
 cases c with
 |true=>
  simp only[if_true]at last ⊢
  refine cc (wpAny_updateSeq hS6 rfl (cc (wpAny_letGo ?_)))
  rw[nm]
  refine E4 ⟨GN HL _,last _ b _ (i6.at fun o q=>(FT _ _ SI).trans q) ?_ (G7 _ hS6 rfl) ⟨_,_,rfl,fun x o q=>(FT _ _ (old x o q).2.symm).trans (keep6 x o q)⟩ rfl⟩
  obtain⟨o,q,r⟩:=hT6
  exact⟨o,(FT _ _ TS.symm).trans q,r⟩
 |false=>
  simp only[F5,if_false]at last ⊢
  refine cc (wpAny_letGo ?_)
  rw[nm]
  exact E4 ⟨GN HL _,last _ a _ i6 hT6 hS6 ⟨_,_,rfl,keep6⟩ rfl⟩
end
end SD
namespace HT
open PySem PyProof.Rows
def lexLe:List Int->List Int->Bool
 |[],[]=>true
 |[],_::_=>true
 |_::_,[]=>false
 |x::xs,y::ys=>if x=y then lexLe xs ys else decide (x<=y)
theorem oZ(x y:Int)(xs ys:List Int):lexLe (x::xs) (y::ys)=if x=y then lexLe xs ys else decide (x<=y):=rfl
theorem kJ:lexLe [] []=true:=rfl
theorem jr(y:Int)(ys:List Int):lexLe [] (y::ys)=true:=rfl
theorem jG(x:Int)(xs:List Int):lexLe (x::xs) []=false:=rfl
theorem v9(A:FK)(s:E3)(a:Int)(t:Tok)(c:Int)(u:Tok)(prog:F8)(w:Fy)(E:E1->E3->Prop)(Q:E1->E3->Prop)(h:Q (.bool (decide (a<=c))) s) : EX (F6 prog w) A (richCompare .LtE (.int a t) (.int c u)) Q E s:=(PyProof.Rows.le_int h:EX (F6 prog w) A (FC .LtE (.int a t) (.int c u)) Q E s)
section
open PySem.SeqAt
open PySem.AutoSeq1 (wpAny_loadPart')
open PySem.MeetsSeq PySem.MeetsSeq2 PySem.MeetsSeq3
theorem kg(l b:Addr)(items items2:Array E1)(n n2:Nat)(dd dd2:Option Addr)(sl sl2:Array (Option E1))(ns ms:List Int)(hi:Gv items.toList ns)(hj:Gv items2.toList ms) :
 Meets (GQ.«tuple.__le__» ⟨[.ref l,.ref b],[]⟩)
  (fun _ R s=>s.heap.get? l=some { cls:=.type "tuple",dict:=dd,data:=.seq items n,slots:=sl }/\s.heap.get? b=some { cls:=.type "tuple",dict:=dd2,data:=.seq items2 n2,slots:=sl2 }/\
   R (.ok (.ret (.bool (lexLe ns ms)))) s):=
 .of_wp fun prog w A R s h=>by
  obtain⟨hp,g,d,tk,os⟩:=s;obtain⟨hl,hb,h⟩:=h
  have f2:=AutoSeq1.sub_tuple_tuple
  have z1:items.size=ns.length:=by rw[<-hi.length];simp
  have z2:items2.size=ms.length:=by rw[<-hj.length];simp
  wp_walk using FF hl,FF hb,wpAny_forIn_list _ (fun rest b s'=>b.1=none/\s'=⟨hp,g,d,tk,os⟩/\∃(vs ws:List E1) (ns' ms':List Int),rest=vs.zip ws/\
   Gv vs ns'/\Gv ws ms'/\ns'.length+items2.size=ms'.length+items.size/\R (.ok (.ret (.bool (lexLe ns' ms')))) ⟨hp,g,d,tk,os⟩) _
  case turn=>
   rintro⟨y,x⟩ rest b s' ⟨hb',rfl,vs,ws,ns',ms',hz,hvi,hwi,hlen,hR⟩
   cases hvi with
   |nil=>rw[List.zip_nil_left]at hz;cases hz
   |cons a t hvi'=>
    cases hwi with
    |nil=>rw[List.zip_nil_right]at hz;cases hz
    |cons c u hwi'=>
     rw[GV]at hz
     injection hz with hyx hrest
     injection hyx with hy hx
     subst hy hx
     rw[oZ]at hR
     simp only[Fi]at hlen
     obtain⟨e,he,hiff⟩:=gF A.in1 ⟨hp,g,d,tk,os⟩ a t c u
     refine cc (he prog w _ _ ?_)
     cases e with
     |true=>
      rw[if_pos (hiff.mp rfl)]at hR
      wp_walk
      exact⟨rfl,rfl,_,_,_,_,hrest,hvi',hwi',by omega,hR⟩
     |false=>
      rw[if_neg (fun q=>absurd (hiff.mpr q) F4)]at hR
      have hri:=v9 A.in1 ⟨hp,g,d,tk,os⟩ a t c u prog w
      wp_walk using hri
      exact⟨_,rfl,by simpa using hR⟩
  case fin=>
   rintro⟨b1,b2⟩ s' ⟨hb',rfl,vs,ws,ns',ms',hz,hvi,hwi,hlen,hR⟩
   simp only at hb'
   subst hb'
   have hv:lexLe ns' ms'=decide (items.size<=items2.size):=by
    cases hvi with
    |nil=>
     cases hwi with
     |nil=>
      simp only[Gb]at hlen
      rw[kJ]
      exact(decide_eq_true (by omega)).symm
     |cons c u hw=>
      simp only[Gb,Fi]at hlen
      rw[jr]
      exact(decide_eq_true (by omega)).symm
    |cons a t hv=>
     cases hwi with
     |nil=>
      simp only[Gb,Fi]at hlen
      rw[jG]
      exact(decide_eq_false (by omega)).symm
     |cons c u hw=>
      rw[GV]at hz
      cases hz
   rw[hv]at hR
   wp_walk
   exact⟨_,rfl,by simpa[Hg]using hR⟩
  case h=>
   exact⟨rfl,rfl,items.toList,items2.toList,ns,ms,rfl,hi,hj,by omega,h⟩
end
section
variable{prog:F8}{w:Fy}{A:FK}{E:E1->E3->Prop}{s:E3}
theorem oY{l b:Addr}{items items2:Array E1}{ns ms:List Int}{Q:E1->E3->Prop}(hl:IsTup s.heap l items)(hb:IsTup s.heap b items2)(hi:Gv items.toList ns)(hj:Gv items2.toList ms) (hu:A.units<G0) (h:Q (.bool (lexLe ns ms)) s):EX (F6 prog w) A (FC .LtE (.ref l) (.ref b)) Q E s:=by obtain⟨⟨cls,dd,data,sl⟩,ho,hc,n,hd⟩:=id hl;obtain⟨⟨cls2,dd2,data2,sl2⟩,ho2,hc2,n2,hd2⟩:=id hb;simp only at hc hd hc2 hd2;subst hc hd hc2 hd2;exact richCompare_meets_room (op:=.LtE) ⟨_,ho,rfl⟩ ⟨_,ho2,rfl⟩ PySem.F.slot_tuple_le PySem.F.entry_tuple_le (PySem.F.args_tuple_le_2 _ _) (kg l b items items2 n n2 dd dd2 sl sl2 ns ms hi hj) ⟨ho,ho2,show HM (lexLe ns ms)≠Value.notImplemented/\Q (.bool (lexLe ns ms)) s from⟨(fun x=>nomatch x),h⟩⟩ hu
end
def bD:List Int->List Int->Bool
 |[],[]=>false
 |[],_::_=>false
 |_::_,[]=>true
 |x::xs,y::ys=>if x=y then bD xs ys else decide (y<x)
theorem ql(x y:Int)(xs ys:List Int):bD (x::xs) (y::ys)=if x=y then bD xs ys else decide (y<x):=rfl
theorem kH:bD [] []=false:=rfl
theorem jk(y:Int)(ys:List Int):bD [] (y::ys)=false:=rfl
theorem jd(x:Int)(xs:List Int):bD (x::xs) []=true:=rfl
theorem vy(A:FK)(s:E3)(a:Int)(t:Tok)(c:Int)(u:Tok)(prog:F8)(w:Fy)(E:E1->E3->Prop)(Q:E1->E3->Prop)(h:Q (.bool (decide (c<a))) s) : EX (F6 prog w) A (richCompare .Gt (.int a t) (.int c u)) Q E s:=(PyProof.Rows.gt_int h:EX (F6 prog w) A (FC .Gt (.int a t) (.int c u)) Q E s)
section
open PySem.SeqAt
open PySem.AutoSeq1 (wpAny_loadPart')
open PySem.MeetsSeq PySem.MeetsSeq2 PySem.MeetsSeq3
theorem km(l b:Addr)(items items2:Array E1)(n n2:Nat)(dd dd2:Option Addr)(sl sl2:Array (Option E1))(ns ms:List Int)(hi:Gv items.toList ns)(hj:Gv items2.toList ms) :
 Meets (GQ.«tuple.__gt__» ⟨[.ref l,.ref b],[]⟩)
  (fun _ R s=>s.heap.get? l=some { cls:=.type "tuple",dict:=dd,data:=.seq items n,slots:=sl }/\s.heap.get? b=some { cls:=.type "tuple",dict:=dd2,data:=.seq items2 n2,slots:=sl2 }/\
   R (.ok (.ret (.bool (bD ns ms)))) s):=
 .of_wp fun prog w A R s h=>by
  obtain⟨hp,g,d,tk,os⟩:=s;obtain⟨hl,hb,h⟩:=h
  have f2:=AutoSeq1.sub_tuple_tuple
  have z1:items.size=ns.length:=by rw[<-hi.length];simp
  have z2:items2.size=ms.length:=by rw[<-hj.length];simp
  wp_walk using FF hl,FF hb,wpAny_forIn_list _ (fun rest b s'=>b.1=none/\s'=⟨hp,g,d,tk,os⟩/\∃(vs ws:List E1) (ns' ms':List Int),rest=vs.zip ws/\
   Gv vs ns'/\Gv ws ms'/\ns'.length+items2.size=ms'.length+items.size/\R (.ok (.ret (.bool (bD ns' ms')))) ⟨hp,g,d,tk,os⟩) _
  case turn=>
   rintro⟨y,x⟩ rest b s' ⟨hb',rfl,vs,ws,ns',ms',hz,hvi,hwi,hlen,hR⟩
   cases hvi with
   |nil=>rw[List.zip_nil_left]at hz;cases hz
   |cons a t hvi'=>
    cases hwi with
    |nil=>rw[List.zip_nil_right]at hz;cases hz
    |cons c u hwi'=>
     rw[GV]at hz
     injection hz with hyx hrest
     injection hyx with hy hx
     subst hy hx
     rw[ql]at hR
     simp only[Fi]at hlen
     obtain⟨e,he,hiff⟩:=gF A.in1 ⟨hp,g,d,tk,os⟩ a t c u
     refine cc (he prog w _ _ ?_)
     cases e with
     |true=>
      rw[if_pos (hiff.mp rfl)]at hR
      wp_walk
      exact⟨rfl,rfl,_,_,_,_,hrest,hvi',hwi',by omega,hR⟩
     |false=>
      rw[if_neg (fun q=>absurd (hiff.mpr q) F4)]at hR
      have hri:=vy A.in1 ⟨hp,g,d,tk,os⟩ a t c u prog w
      wp_walk using hri
      exact⟨_,rfl,by simpa using hR⟩
  case fin=>
   rintro⟨b1,b2⟩ s' ⟨hb',rfl,vs,ws,ns',ms',hz,hvi,hwi,hlen,hR⟩
   simp only at hb'
   subst hb'
   have hv:bD ns' ms'=decide (items.size>items2.size):=by
    cases hvi with
    |nil=>
     cases hwi with
     |nil=>
      simp only[Gb]at hlen
      rw[kH]
      exact(decide_eq_false (by omega)).symm
     |cons c u hw=>
      simp only[Gb,Fi]at hlen
      rw[jk]
      exact(decide_eq_false (by omega)).symm
    |cons a t hv=>
     cases hwi with
     |nil=>
      simp only[Gb,Fi]at hlen
      rw[jd]
      exact(decide_eq_true (by omega)).symm
     |cons c u hw=>
      rw[GV]at hz
      cases hz
   rw[hv]at hR
   wp_walk
   exact⟨_,rfl,by simpa[Hg]using hR⟩
  case h=>
   exact⟨rfl,rfl,items.toList,items2.toList,ns,ms,rfl,hi,hj,by omega,h⟩
end
section
variable{prog:F8}{w:Fy}{A:FK}{E:E1->E3->Prop}{s:E3}
theorem jZ{l b:Addr}{items items2:Array E1}{ns ms:List Int}{Q:E1->E3->Prop}(hl:IsTup s.heap l items)(hb:IsTup s.heap b items2)(hi:Gv items.toList ns)(hj:Gv items2.toList ms) (hu:A.units<G0) (h:Q (.bool (bD ns ms)) s):EX (F6 prog w) A (FC .Gt (.ref l) (.ref b)) Q E s:=by obtain⟨⟨cls,dd,data,sl⟩,ho,hc,n,hd⟩:=id hl;obtain⟨⟨cls2,dd2,data2,sl2⟩,ho2,hc2,n2,hd2⟩:=id hb;simp only at hc hd hc2 hd2;subst hc hd hc2 hd2;exact richCompare_meets_room (op:=.Gt) ⟨_,ho,rfl⟩ ⟨_,ho2,rfl⟩ PySem.F.slot_tuple_gt PySem.F.entry_tuple_gt (PySem.F.args_tuple_gt_2 _ _) (km l b items items2 n n2 dd dd2 sl sl2 ns ms hi hj) ⟨ho,ho2,show HM (bD ns ms)≠Value.notImplemented/\Q (.bool (bD ns ms)) s from⟨(fun x=>nomatch x),h⟩⟩ hu
end
end HT
namespace SD
open PySem PySem.Spec PyProof.Rows L2
section
variable{X:Cx}
theorem dU{K:E2}{H:Hp}:∀{ns:List Int} {xs:List V},aB K H (ns.map D.int) xs->xs=ns.map V.int
 |[],xs,h=>by rw[GR,aB]at h;exact h
 |n::ns,xs,h=>by
  rw[EW,aB]at h
  obtain⟨x,r,rfl,h1,h2⟩:=h
  rw[Rep]at h1
  rw[h1,dU h2];rfl
theorem BU(hu:X.A.units<G0):OpR X (FC .LtE) (fun x y H Q=>∃a b ns ms,x=.ref a/\y=.ref b/\SqT X.K H a (ns.map V.int)/\SqT X.K H b (ms.map V.int)/\Q (.bl (HT.lexLe ns ms)) H):=by intro pins s σ H x y v u Q I rx ry h;obtain⟨a,b,ns,ms,rfl,rfl,ha,hb,q⟩:=h;cases rx;cases ry;obtain⟨its,r1,p1,_⟩:=I.tuple ha;obtain⟨its2,r2,p2,_⟩:=I.tuple hb;exact HT.oY p1 p2 (intsAre_of r1) (intsAre_of r2) hu ⟨.bl (HT.lexLe ns ms),H,I,rfl,q⟩
theorem Bt(hu:X.A.units<G0):OpR X (FC .Gt) (fun x y H Q=>∃a b ns ms,x=.ref a/\y=.ref b/\SqT X.K H a (ns.map V.int)/\SqT X.K H b (ms.map V.int)/\Q (.bl (HT.bD ns ms)) H):=by intro pins s σ H x y v u Q I rx ry h;obtain⟨a,b,ns,ms,rfl,rfl,ha,hb,q⟩:=h;cases rx;cases ry;obtain⟨its,r1,p1,_⟩:=I.tuple ha;obtain⟨its2,r2,p2,_⟩:=I.tuple hb;exact HT.jZ p1 p2 (intsAre_of r1) (intsAre_of r2) hu ⟨.bl (HT.bD ns ms),H,I,rfl,q⟩
def lJ(f:Int->Int->Bool)(g:List Int->List Int->Bool):R2D:=fun x y M Q=>match x,y with
 |.int i,.int j=>True/\Q (.bl (f i j)) M
 |.tup a,.tup b=>∃ns ms,a=Hl D.int ns/\b=Hl D.int ms/\Q (.bl (g ns ms)) M
 |_,_=>False
theorem rC{op:CmpOp}{f:Int->Int->Bool}{g:List Int->List Int->Bool}(h1:OpD X (FC op) (rI2 (fun _ _=>True) fun i j=>.bl (f i j))) (h2:OpR X (FC op) (fun x y H Q=>∃a b ns ms,x=.ref a/\y=.ref b/\SqT X.K H a (ns.map V.int)/\SqT X.K H b (ms.map V.int)/\Q (.bl (g ns ms)) H)):OpD X (FC op) (lJ f g):=by
 refine fN (h1.or h2) fun v u H Q zz1_0=>?_;obtain⟨x,y,M,R,r1,r2,a,q,fin⟩:=zz1_0;unfold lJ at q;split at q
 ·exact .inl ⟨_,_,M,R,r1,r2,a,q,fin⟩
 ·obtain⟨ns,ms,rfl,rfl,q⟩:=q;rw[Rep]at r1;obtain⟨p,xs,rfl,hx,rx⟩:=r1;obtain⟨p',ys,rfl,hy,ry⟩:∃a xs,u=V.ref a/\SqT X.K H a xs/\aB X.K H (Hl D.int ms) xs:=by rw[Rep]at r2;exact r2
  rw[dU rx]at hx;rw[dU ry]at hy;exact .inr ⟨p,p',ns,ms,rfl,rfl,hx,hy,fin _ _ _ _ .refl (by rw[Rep]) a q⟩
 ·exact q.elim
theorem eN(hu:X.A.units+64<G0):OpD X (FC .Lt) (lJ (fun i j=>decide (i<j)) HT.lexLt):=rC Dh (BN (by omega))
theorem vM(hu:X.A.units+64<G0):OpD X (FC .LtE) (lJ (fun i j=>decide (i<=j)) HT.lexLe):=rC C5 (BU (by omega))
theorem l6(hu:X.A.units+64<G0):OpD X (FC .Gt) (lJ (fun i j=>decide (j<i)) HT.bD):=rC Cq (Bt (by omega))
theorem sY(hc:X.calm=true)(hu:X.A.units+64<G0):bE X (.builtin "max") (fun xs H Q=>∃p q ns ms,xs=[.ref p,.ref q]/\SqT X.K H p (ns.map V.int)/\SqT X.K H q (ms.map V.int)/\Q (if HT.bD ms ns=true then .ref q else .ref p) H):=by
 intro pins s σ H xs us Q I r z0;obtain⟨p,q,ns,ms,e,hp,hq,k⟩:=z0;subst e;obtain⟨u,v,rfl,ru,rv⟩:=vals2 r;cases ru;cases rv;obtain⟨its,r1,p1,_⟩:=I.tuple hp;obtain⟨its2,r2,p2,_⟩:=I.tuple hq;refine max_two (c:=HT.bD ms ns) (I.ok.hd hc) (fun t Q' E' kt q'=>?_) fun h' tk kt=>⟨_,H,I.kept kt,?_,k⟩
 ·obtain⟨o1,a1,b1⟩:=p1;obtain⟨o2,a2,b2⟩:=p2;exact HT.jZ (A:=X.A.in1) (s:=t) ⟨o2,kt _ _ a2,b2⟩ ⟨o1,kt _ _ a1,b1⟩ (intsAre_of r2) (intsAre_of r1) (by show X.A.units+1<G0;omega) q'
 ·cases HT.bD ms ns<;>rfl
theorem tj(hc:X.calm=true)(hu:X.A.units+64<G0):bE X (.builtin "min") (fun xs H Q=>∃p q ns ms,xs=[.ref p,.ref q]/\SqT X.K H p (ns.map V.int)/\SqT X.K H q (ms.map V.int)/\Q (if HT.lexLt ms ns=true then .ref q else .ref p) H):=by
 intro pins s σ H xs us Q I r z0;obtain⟨p,q,ns,ms,e,hp,hq,k⟩:=z0;subst e;obtain⟨u,v,rfl,ru,rv⟩:=vals2 r;cases ru;cases rv;obtain⟨its,r1,p1,_⟩:=I.tuple hp;obtain⟨its2,r2,p2,_⟩:=I.tuple hq;refine min_two (c:=HT.lexLt ms ns) (I.ok.hd hc) (fun t Q' E' kt q'=>?_) fun h' tk kt=>⟨_,H,I.kept kt,?_,k⟩
 ·obtain⟨o1,a1,b1⟩:=p1;obtain⟨o2,a2,b2⟩:=p2;exact HT.jY (A:=X.A.in1) (s:=t) ⟨o2,kt _ _ a2,b2⟩ ⟨o1,kt _ _ a1,b1⟩ (intsAre_of r2) (intsAre_of r1) (by show X.A.units+1<G0;omega) q'
 ·cases HT.lexLt ms ns<;>rfl
def zB:RC:=fun ds M Q=>match ds with
 |[.int i,.int j]=>Q (.int (max i j)) M
 |[.tup a,.tup b]=>∃ns ms,a=Hl D.int ns/\b=Hl D.int ms/\Q (.tup (Hl D.int (if HT.bD ms ns=true then ms else ns))) M
 |_=>False
def zh:RC:=fun ds M Q=>match ds with
 |[.int i,.int j]=>Q (.int (min i j)) M
 |[.tup a,.tup b]=>∃ns ms,a=Hl D.int ns/\b=Hl D.int ms/\Q (.tup (Hl D.int (if HT.lexLt ms ns=true then ms else ns))) M
 |_=>False
theorem rS(hc:X.calm=true)(hu:X.A.units+64<G0):cI X (.builtin "max") zB:=br (bE.or (zW hc) (sY hc hu)) fun vs H Q z9=>by
 obtain⟨ds,M,R,rs,a,q,fin⟩:=z9;unfold zB at q;split at q
 ·exact .inl ⟨_,M,R,rs,a,q,fin⟩
 ·obtain⟨ns,ms,rfl,rfl,q⟩:=q;obtain⟨v,u,rfl,r1,r2⟩:=d5 rs;rw[Rep]at r1;obtain⟨p,xs,rfl,hx,rx⟩:=r1;obtain⟨p',ys,rfl,hy,ry⟩:∃a xs,u=V.ref a/\SqT X.K H a xs/\aB X.K H (Hl D.int ms) xs:=by rw[Rep]at r2;exact r2
  have hx':=hx;have hy':=hy;rw[dU rx]at hx';rw[dU ry]at hy';refine .inr ⟨p,p',ns,ms,rfl,hx',hy',fin _ _ _ _ .refl ?_ a q⟩;by_cases z:HT.bD ms ns=true
  ·rw[if_pos z,if_pos z,Rep];exact⟨_,_,rfl,hy,ry⟩
  ·rw[if_neg z,if_neg z,Rep];exact⟨_,_,rfl,hx,rx⟩
 ·exact q.elim
theorem mH(hc:X.calm=true)(hu:X.A.units+64<G0):cI X (.builtin "min") zh:=br (bE.or (BE hc) (tj hc hu)) fun vs H Q z9=>by
 obtain⟨ds,M,R,rs,a,q,fin⟩:=z9;unfold zh at q;split at q
 ·exact .inl ⟨_,M,R,rs,a,q,fin⟩
 ·obtain⟨ns,ms,rfl,rfl,q⟩:=q;obtain⟨v,u,rfl,r1,r2⟩:=d5 rs;rw[Rep]at r1;obtain⟨p,xs,rfl,hx,rx⟩:=r1;obtain⟨p',ys,rfl,hy,ry⟩:∃a xs,u=V.ref a/\SqT X.K H a xs/\aB X.K H (Hl D.int ms) xs:=by rw[Rep]at r2;exact r2
  have hx':=hx;have hy':=hy;rw[dU rx]at hx';rw[dU ry]at hy';refine .inr ⟨p,p',ns,ms,rfl,hx',hy',fin _ _ _ _ .refl ?_ a q⟩;by_cases z:HT.lexLt ms ns=true
  ·rw[if_pos z,if_pos z,Rep];exact⟨_,_,rfl,hy,ry⟩
  ·rw[if_neg z,if_neg z,Rep];exact⟨_,_,rfl,hx,rx⟩
 ·exact q.elim
end
end SD
namespace Ma
open SD
theorem y6{p z:Int}(h:0<p):0<p*z↔0<z:=by
 constructor
 ·intro q;by_cases hz:0<z
  ·exact hz
  ·have:p*z<=0:=Int.mul_nonpos_of_nonneg_of_nonpos (by omega) (by omega);omega
 ·exact fun q=>Fj h q
theorem tu{a b c d:Int}(hb:0<b)(hd:0<d):Rat.divInt a b<Rat.divInt c d↔a*d<c*b:=by
 have e:=Rat.divInt_sub_divInt c a (d₁:=d) (d₂:=b) (by omega) (by omega);have h1:Rat.divInt a b<Rat.divInt c d↔0<Rat.divInt c d-Rat.divInt a b:=by constructor<;>intro z<;>grind
 rw[h1,e,jn (Fj hd hb)];omega
def ut(t b X m x:Int):Rat:=Rat.divInt (x*t+X*m) (b*m)
theorem rz{t b X m n x y:Int}(ht:0<t)(hb:0<b)(hm:0<m)(hn:0<n):ut t b X m x<ut t b X n y↔n*x<m*y:=by
 unfold ut;rw[tu (Fj hb hm) (Fj hb hn)];have e:(y*t+X*n)*(b*m)-(x*t+X*m)*(b*n)=(b*t)*(m*y-n*x):=by grind
 have:=y6 (z:=m*y-n*x) (Fj hb ht);omega
theorem d8{t b X m n x y:Int}(ht:0<t)(hb:0<b)(hm:0<m)(hn:0<n):ut t b X m x=ut t b X n y↔n*x=m*y:=by
 have h1:=rz (X:=X) (x:=x) (y:=y) ht hb hm hn;have h2:=rz (X:=X) (x:=y) (y:=x) ht hb hn hm;constructor
 ·intro e;have a:¬ut t b X m x<ut t b X n y:=by rw[e];exact Rat.lt_irrefl
  have c:¬ut t b X n y<ut t b X m x:=by rw[e];exact Rat.lt_irrefl
  rw[h1]at a;rw[h2]at c;omega
 ·intro e;have a:¬ut t b X m x<ut t b X n y:=by rw[h1];omega
  have c:¬ut t b X n y<ut t b X m x:=by rw[h2];omega
  grind
theorem vh{t b X x:Int}:Rat.divInt (x*t+X) b=ut t b X 1 x:=by unfold ut;rw[Int.mul_one,Int.mul_one]
theorem qU{t b X Y m n x y u v:Int}(ht:0<t)(hb:0<b)(hm:0<m)(hn:0<n) : ah (ut t b X m x) (ut t b Y m y) (ut t b X n u) (ut t b Y n v)↔HT.lexLt [n*x,n*y] [m*u,m*v]=true:=by
 unfold ah;rw[rz ht hb hm hn,d8 ht hb hm hn,rz ht hb hm hn];simp only[HT.lexLt];by_cases h:n*x=m*u
 ·rw[if_pos h];by_cases h2:n*y=m*v
  ·rw[if_pos h2];simp;omega
  ·rw[if_neg h2];simp;omega
 ·rw[if_neg h];simp;omega
theorem tG(a b c d:Int):HT.lexLe [a,b] [c,d]=!HT.lexLt [c,d] [a,b]:=by
 simp only[HT.lexLe,HT.lexLt];by_cases h:a=c
 ·subst h;rw[if_pos rfl,if_pos rfl];by_cases h2:b=d
  ·subst h2;rw[if_pos rfl,if_pos rfl];rfl
  ·rw[if_neg h2,if_neg (fun e=>h2 e.symm)];rw[<-decide_not,decide_eq_decide];omega
 ·rw[if_neg h,if_neg (fun e=>h e.symm),<-decide_not,decide_eq_decide];omega
theorem tm(a b c d:Int):HT.bD [a,b] [c,d]=HT.lexLt [c,d] [a,b]:=by
 simp only[HT.bD,HT.lexLt];by_cases h:a=c
 ·subst h;rw[if_pos rfl,if_pos rfl];by_cases h2:b=d
  ·subst h2;simp
  ·rw[if_neg h2,if_neg (fun e=>h2 e.symm)]
 ·rw[if_neg h,if_neg (fun e=>h e.symm)]
theorem dA{a b c d:Int}:HT.lexLt [a,b] [c,d]=true↔a<c\/(a=c/\b<d):=by
 simp only[HT.lexLt];by_cases h:a=c
 ·subst h;rw[if_pos rfl];by_cases h2:b=d
  ·subst h2;rw[if_pos rfl];simp
  ·rw[if_neg h2];simp
 ·rw[if_neg h];simp;omega
end Ma
namespace SD
open PySem PySem.Spec PyProof.Rows L2
theorem aC{M:MH}{a p:PySem.Addr}{o:MO}(h:M a=some o)(hp:M p=none):a≠p:=fun e=>by subst e;rw[h]at hp;cases hp
def scl(t b x y:Int):D:=.tup [.int t,.int b,.int x,.int y]
structure Scl(t b x y:Int):Prop where
 t0:0<t
 t1:t<=10^24
 b0:0<b
 b1:b<=10^26
 x0:-(10^30)<=x
 x1:x<=10^30
 y0:-(10^30)<=y
 y1:y<=10^30
def uw(w:Int×Int×Int×Int):D:=.tup [.tup [.int w.1,.int w.2.1],.tup [.int w.2.2.1,.int w.2.2.2]]
def rwl(t b x y:Int)(w:Int×Int×Int×Int):D:=Ma.wll (Ma.ut t b x 1 w.1) (Ma.ut t b y 1 w.2.1) (Ma.ut t b x 1 w.2.2.1) (Ma.ut t b y 1 w.2.2.2)
def Uok(n:Int)(w:Int×Int×Int×Int):Prop:=(-n<=w.1/\w.1<=n)/\(-n<=w.2.1/\w.2.1<=n)/\(-n<=w.2.2.1/\w.2.2.1<=n)/\(-n<=w.2.2.2/\w.2.2.2<=n)
def uby(m:Int)(w:Int×Int×Int×Int):Int×Int×Int×Int:=(m*w.1,m*w.2.1,m*w.2.2.1,m*w.2.2.2)
theorem range_getD(l:List D):(Fg l.length).map (fun i=>(l[i]?).getD .non)=l:=by refine List.ext_getElem (by simp) fun i h1 h2=>?_;simp[h2]
theorem getD_map{α:Type}{f:α->D}{l:List α}{i:Nat}{a:α}(h:l[i]?=some a):((l.map f)[i]?).getD .non=f a:=by rw[E9,h];rfl
theorem qY{a k n m:Int}(h0:0<=a)(h1:a<=n)(k0:0<=k)(k1:k<=m):0<=a*k/\a*k<=n*m:=⟨Int.mul_nonneg h0 k0,Int.mul_le_mul h1 k1 k0 (by omega)⟩
theorem zm{t b x m p:Int}(ht:0<t/\t<=10^24)(hb:0<b/\b<=10^26)(hx:-(10^30)<=x/\x<=10^30)(hm:0<m/\m<=10^6)(hp:-(10^6)<=p/\p<=10^6):Ma.Bq 200 (Ma.ut t b x m p):=by
 have bt:Bd 80 t:=by show t.natAbs<2^80;omega
 have bm:Bd 64 m:=by show m.natAbs<2^64;omega
 have bp:Bd 64 p:=by show p.natAbs<2^64;omega
 have bb:Bd 90 b:=by show b.natAbs<2^90;omega
 have bx:Bd 100 x:=by show x.natAbs<2^100;omega
 refine Ma.Bq.divInt (by have:=Fj hb.1 hm.1;omega) ?_ ((bb.mul bm).mono (by decide));exact(((bp.mul bt).mono (by decide:64+80<=164)).add (bx.mul bm)).mono (by decide)
theorem Scl.bx{t b x y m p:Int}(S:Scl t b x y)(hm:0<m/\m<=10^6)(hp:-(10^6)<=p/\p<=10^6):Ma.Bq 200 (Ma.ut t b x m p):=zm ⟨S.t0,S.t1⟩ ⟨S.b0,S.b1⟩ ⟨S.x0,S.x1⟩ hm hp
theorem Scl.by'{t b x y m p:Int}(S:Scl t b x y)(hm:0<m/\m<=10^6)(hp:-(10^6)<=p/\p<=10^6):Ma.Bq 200 (Ma.ut t b y m p):=zm ⟨S.t0,S.t1⟩ ⟨S.b0,S.b1⟩ ⟨S.y0,S.y1⟩ hm hp
theorem iQ(a b c d:Int):FG (.tuple [.int a,.int b]) (.tuple [.int c,.int d])=decide (a=c/\b=d):=by simp only[FG,G8,iL,Bool.and_true,HY]
open PySem PySem.Spec PyProof.Rows L2 Ma
instance(a b c d:Rat):Decidable (Ma.ah a b c d):=inferInstanceAs (Decidable (_\/_))
def crs(a b c d:Int):Int:=a*d-b*c
theorem ue{t b X m x:Int}(hb:0<b)(hm:0<m):Ma.ut t b X m x=((t:Rat)/b)*((x:Rat)/m)+(X:Rat)/b:=by
 unfold Ma.ut;rw[Rat.divInt_eq_div];have h1:(b:Rat)≠0:=by have:=Ma.pos_int hb;grind
 have h2:(m:Rat)≠0:=by have:=Ma.pos_int hm;grind
 rw[Rat.intCast_add,Gq,Gq,Gq];grind
theorem cy{t b X x:Int}(hb:0<b):Ma.ut t b X 1 x=((t:Rat)/b)*(x:Rat)+(X:Rat)/b:=by rw[ue hb (by decide)];have:((1:Int):Rat)=1:=rfl;rw[this];grind
theorem vk(k x y p q r s e f:Rat):Ma.cr (k*p+x) (k*q+y) (k*r+x) (k*s+y) (k*e+x) (k*f+y)=k*k*((r-p)*(f-q)-(s-q)*(e-p)):=by unfold Ma.cr;grind
theorem Dw{t b X Y p q r s e f:Int}(hb:0<b):Ma.cr (Ma.ut t b X 1 p) (Ma.ut t b Y 1 q) (Ma.ut t b X 1 r) (Ma.ut t b Y 1 s) (Ma.ut t b X 1 e) (Ma.ut t b Y 1 f)=((t:Rat)/b)*((t:Rat)/b)*((crs (r-p) (s-q) (e-p) (f-q):Int):Rat):=by rw[cy hb,cy hb,cy hb,cy hb,cy hb,cy hb,vk];unfold crs;rw[Hw,Gq,Gq,Hw,Hw,Hw,Hw]
theorem sgn_mul{k:Rat}(hk:0<k)(z:Int):Ma.sgn (k*(z:Rat))=Fo z:=by
 unfold Ma.sgn;by_cases h1:0<z
 ·rw[if_pos (Ig hk (Ma.pos_int h1)),Gm h1]
 ·by_cases h2:z<0
  ·have h3:0<k*((-z:Int):Rat):=Ig hk (Ma.pos_int (by omega));rw[Rat.intCast_neg]at h3;rw[if_neg (by grind),if_pos (by grind),FU h2]
  ·obtain rfl:z=0:=by omega
   have:((0:Int):Rat)=0:=rfl;rw[this];simp
theorem mT{k:Rat}(hk:0<k)(z:Int):k*(z:Rat)=0↔z=0:=by have h:=sgn_mul hk z;rw[<-Ma.mZ,h];exact Int.sign_eq_zero_iff_zero
theorem Dg{t b X Y p q e f:Int}(ht:0<t)(hb:0<b):Ma.ah (Ma.ut t b X 1 p) (Ma.ut t b Y 1 q) (Ma.ut t b X 1 e) (Ma.ut t b Y 1 f)↔(p<e\/(p=e/\q<f)):=by rw[Ma.qU ht hb (by decide) (by decide),Ma.dA];omega
theorem za(x:Str):FG (.str x) (.str x)=true:=by simp[FG]
end SD
namespace HT
open PySem PyProof.Rows
def cX:List Int->List Int->Bool
 |[],[]=>true
 |[],_::_=>false
 |_::_,[]=>true
 |x::xs,y::ys=>if x=y then cX xs ys else decide (y<=x)
theorem pK(x y:Int)(xs ys:List Int):cX (x::xs) (y::ys)=if x=y then cX xs ys else decide (y<=x):=rfl
theorem kB:cX [] []=true:=rfl
theorem ji(y:Int)(ys:List Int):cX [] (y::ys)=false:=rfl
theorem jh(x:Int)(xs:List Int):cX (x::xs) []=true:=rfl
theorem uQ(A:FK)(s:E3)(a:Int)(t:Tok)(c:Int)(u:Tok)(prog:F8)(w:Fy)(E:E1->E3->Prop)(Q:E1->E3->Prop)(h:Q (.bool (decide (c<=a))) s) : EX (F6 prog w) A (richCompare .GtE (.int a t) (.int c u)) Q E s:=(PyProof.Rows.ge_int h:EX (F6 prog w) A (FC .GtE (.int a t) (.int c u)) Q E s)
section
open PySem.SeqAt
open PySem.AutoSeq1 (wpAny_loadPart')
open PySem.MeetsSeq PySem.MeetsSeq2 PySem.MeetsSeq3
theorem kA(l b:Addr)(items items2:Array E1)(n n2:Nat)(dd dd2:Option Addr)(sl sl2:Array (Option E1))(ns ms:List Int)(hi:Gv items.toList ns)(hj:Gv items2.toList ms) :
 Meets (GQ.«tuple.__ge__» ⟨[.ref l,.ref b],[]⟩)
  (fun _ R s=>s.heap.get? l=some { cls:=.type "tuple",dict:=dd,data:=.seq items n,slots:=sl }/\s.heap.get? b=some { cls:=.type "tuple",dict:=dd2,data:=.seq items2 n2,slots:=sl2 }/\
   R (.ok (.ret (.bool (cX ns ms)))) s):=
 .of_wp fun prog w A R s h=>by
  obtain⟨hp,g,d,tk,os⟩:=s;obtain⟨hl,hb,h⟩:=h
  have f2:=AutoSeq1.sub_tuple_tuple
  have z1:items.size=ns.length:=by rw[<-hi.length];simp
  have z2:items2.size=ms.length:=by rw[<-hj.length];simp
  wp_walk using FF hl,FF hb,wpAny_forIn_list _ (fun rest b s'=>b.1=none/\s'=⟨hp,g,d,tk,os⟩/\∃(vs ws:List E1) (ns' ms':List Int),rest=vs.zip ws/\
   Gv vs ns'/\Gv ws ms'/\ns'.length+items2.size=ms'.length+items.size/\R (.ok (.ret (.bool (cX ns' ms')))) ⟨hp,g,d,tk,os⟩) _
  case turn=>
   rintro⟨y,x⟩ rest b s' ⟨hb',rfl,vs,ws,ns',ms',hz,hvi,hwi,hlen,hR⟩
   cases hvi with
   |nil=>rw[List.zip_nil_left]at hz;cases hz
   |cons a t hvi'=>
    cases hwi with
    |nil=>rw[List.zip_nil_right]at hz;cases hz
    |cons c u hwi'=>
     rw[GV]at hz
     injection hz with hyx hrest
     injection hyx with hy hx
     subst hy hx
     rw[pK]at hR
     simp only[Fi]at hlen
     obtain⟨e,he,hiff⟩:=gF A.in1 ⟨hp,g,d,tk,os⟩ a t c u
     refine cc (he prog w _ _ ?_)
     cases e with
     |true=>
      rw[if_pos (hiff.mp rfl)]at hR
      wp_walk
      exact⟨rfl,rfl,_,_,_,_,hrest,hvi',hwi',by omega,hR⟩
     |false=>
      rw[if_neg (fun q=>absurd (hiff.mpr q) F4)]at hR
      have hri:=uQ A.in1 ⟨hp,g,d,tk,os⟩ a t c u prog w
      wp_walk using hri
      exact⟨_,rfl,by simpa using hR⟩
  case fin=>
   rintro⟨b1,b2⟩ s' ⟨hb',rfl,vs,ws,ns',ms',hz,hvi,hwi,hlen,hR⟩
   simp only at hb'
   subst hb'
   have hv:cX ns' ms'=decide (items.size≥items2.size):=by
    cases hvi with
    |nil=>
     cases hwi with
     |nil=>
      simp only[Gb]at hlen
      rw[kB]
      exact(decide_eq_true (by omega)).symm
     |cons c u hw=>
      simp only[Gb,Fi]at hlen
      rw[ji]
      exact(decide_eq_false (by omega)).symm
    |cons a t hv=>
     cases hwi with
     |nil=>
      simp only[Gb,Fi]at hlen
      rw[jh]
      exact(decide_eq_true (by omega)).symm
     |cons c u hw=>
      rw[GV]at hz
      cases hz
   rw[hv]at hR
   wp_walk
   exact⟨_,rfl,by simpa[Hg]using hR⟩
  case h=>
   exact⟨rfl,rfl,items.toList,items2.toList,ns,ms,rfl,hi,hj,by omega,h⟩
end
section
variable{prog:F8}{w:Fy}{A:FK}{E:E1->E3->Prop}{s:E3}
theorem ph{l b:Addr}{items items2:Array E1}{ns ms:List Int}{Q:E1->E3->Prop}(hl:IsTup s.heap l items)(hb:IsTup s.heap b items2)(hi:Gv items.toList ns)(hj:Gv items2.toList ms) (hu:A.units<G0) (h:Q (.bool (cX ns ms)) s):EX (F6 prog w) A (FC .GtE (.ref l) (.ref b)) Q E s:=by obtain⟨⟨cls,dd,data,sl⟩,ho,hc,n,hd⟩:=id hl;obtain⟨⟨cls2,dd2,data2,sl2⟩,ho2,hc2,n2,hd2⟩:=id hb;simp only at hc hd hc2 hd2;subst hc hd hc2 hd2;exact richCompare_meets_room (op:=.GtE) ⟨_,ho,rfl⟩ ⟨_,ho2,rfl⟩ PySem.F.slot_tuple_ge PySem.F.entry_tuple_ge (PySem.F.args_tuple_ge_2 _ _) (kA l b items items2 n n2 dd dd2 sl sl2 ns ms hi hj) ⟨ho,ho2,show HM (cX ns ms)≠Value.notImplemented/\Q (.bool (cX ns ms)) s from⟨(fun x=>nomatch x),h⟩⟩ hu
end
end HT
namespace SD
open PySem PySem.Spec PyProof.Rows L2
section
variable{X:Cx}
theorem BK(hu:X.A.units<G0):OpR X (FC .GtE) (fun x y H Q=>∃a b ns ms,x=.ref a/\y=.ref b/\SqT X.K H a (ns.map V.int)/\SqT X.K H b (ms.map V.int)/\Q (.bl (HT.cX ns ms)) H):=by intro pins s σ H x y v u Q I rx ry h;obtain⟨a,b,ns,ms,rfl,rfl,ha,hb,q⟩:=h;cases rx;cases ry;obtain⟨its,r1,p1,_⟩:=I.tuple ha;obtain⟨its2,r2,p2,_⟩:=I.tuple hb;exact HT.ph p1 p2 (intsAre_of r1) (intsAre_of r2) hu ⟨.bl (HT.cX ns ms),H,I,rfl,q⟩
theorem p5(hu:X.A.units+64<G0):OpD X (FC .GtE) (lJ (fun i j=>decide (j<=i)) HT.cX):=rC C3 (BK (by omega))
def zX(g:Bool->Bool):R2D:=fun x y M Q=>∃p ps,Pd M x p/\(Pd M y (.list ps)\/Pd M y (.tuple ps))/\GD p=true/\H0 ps=true/\Q (.bl (g (ps.any fun q=>FG q p))) M
theorem jS{p:Im}{n:Nat}(h:GD p=true):min n p.depth<=63+1:=Gp (Nat.min_le_right _ _) (SeqAt.depth_of_shaped h)
theorem Cj(hu:X.A.units+66<G0):OpD X (FC .In) (zX fun b=>b):=by
 intro pins s σ H v u v' u' Q I rv ru h;obtain⟨x,y,M,R,r1,r2,a,⟨p,ps,p1,p2,s1,s2,hq⟩,fin⟩:=h;obtain⟨as,q1⟩:=aV I a p1 r1 rv;have hm:=jS (n:=I0 ps) s1;rcases p2 with p2|p2
 ·obtain⟨bs,q2⟩:=aV I a p2 r2 ru;exact SeqAt.in_list_reads q2 q1 s2 (Ha s1) (by omega) ⟨.bl _,H,I,rfl,fin _ _ _ _ .refl (by rw[Rep]) a hq⟩
 ·obtain⟨bs,q2⟩:=aV I a p2 r2 ru;exact SeqAt.in_tuple_reads q2 q1 s2 (Ha s1) (by omega) ⟨.bl _,H,I,rfl,fin _ _ _ _ .refl (by rw[Rep]) a hq⟩
theorem vX(hu:X.A.units+66<G0):OpD X (FC .NotIn) (zX fun b=>!b):=by
 intro pins s σ H v u v' u' Q I rv ru h;obtain⟨x,y,M,R,r1,r2,a,⟨p,ps,p1,p2,s1,s2,hq⟩,fin⟩:=h;obtain⟨as,q1⟩:=aV I a p1 r1 rv;have hm:=jS (n:=I0 ps) s1;rcases p2 with p2|p2
 ·obtain⟨bs,q2⟩:=aV I a p2 r2 ru;exact SeqAt.notIn_list_reads q2 q1 s2 (Ha s1) (by omega) ⟨.bl _,H,I,rfl,fin _ _ _ _ .refl (by rw[Rep]) a hq⟩
 ·obtain⟨bs,q2⟩:=aV I a p2 r2 ru;exact SeqAt.notIn_tuple_reads q2 q1 s2 (Ha s1) (by omega) ⟨.bl _,H,I,rfl,fin _ _ _ _ .refl (by rw[Rep]) a hq⟩
theorem oA{K:E2}{H:Hp}:∀{bs:List Bool} {xs:List V},aB K H (bs.map D.bl) xs->xs=bs.map V.bl
 |[],xs,h=>by rw[GR,aB]at h;exact h
 |n::ns,xs,h=>by
  rw[EW,aB]at h
  obtain⟨x,r,rfl,h1,h2⟩:=h
  rw[Rep]at h1
  rw[h1,oA h2];rfl
theorem jA:∀{bs:List Bool} {us:List E1},Vals (bs.map V.bl) us->us=bs.map HM
 |[],_,.nil=>rfl
 |b::bs,_,.cons r t=>by
  cases (show _=HM b from r)
  rw[jA t];rfl
def D4:RC:=fun ds M Q=>match ds with
 |[.ref l]=>∃bs:List Bool,M l=some (.lst (Hl D.bl bs))/\Q (.bl (bs.all id)) M
 |_=>False
theorem tI(hc:X.calm=true):bE X (.builtin "all") (fun xs H Q=>∃(p:Addr) (bs:List Bool),xs=[.ref p]/\SqL X.K H p (bs.map V.bl)/\Q (.bl (bs.all id)) H):=by
 intro pins s σ H xs us Q I r z0;obtain⟨l,bs,e,hp,k⟩:=z0;subst e;obtain⟨u,rfl,ru⟩:=vals1 r;cases ru;obtain⟨its,r1,p1,_⟩:=I.list hp;have hv:=jA r1;have hl:=p1.isList;have lt:l≠s.heap.objs.size:=Fs (let⟨_,e,_⟩:=hl;F9 e);refine call_all_walk (x:=.ref l) (wpAny_pyIter_list hl ⟨s.heap.objs.size,[s.heap.objs.size,l],[s.heap.objs.size],its.toArray.size,_,_,fun i=>(bs[i]?).getD true,rfl,Walks.list (A:=X.A.in1) (I.ok.hd hc) _ l lt its.toArray,⟨⟨_,EY _ rfl,rfl,rfl⟩,hl.push _⟩,fun i v s' Q' E' hP hQ=>?_,fun h' tk hk=>?_⟩)
 ·have hP':its[i]?=some v:=by simpa using hP
  rw[hv,E9]at hP';cases eb:bs[i]? with
  |none=>rw[eb]at hP';cases hP'
  |some b=>
   rw[eb]at hP'
   cases hP'
   have hQ':Q' b s':=by simpa[eb]using hQ
   exact Gs hQ'
 ·rw[show((Fg its.toArray.size).all fun i=>(bs[i]?).getD true)=bs.all id by rw[Fe,hv,E6];exact LSm.range_all bs];exact⟨.bl (bs.all id),H,I.kept (LSm.kept_iter hk),rfl,k⟩
theorem BD(hc:X.calm=true):cI X (.builtin "all") D4:=br (tI hc) fun vs H Q z9=>by
 obtain⟨ds,M,R,rs,a,q,fin⟩:=z9;unfold D4 at q;split at q
 ·obtain⟨bs,e,q⟩:=q;obtain⟨v,rfl,r⟩:=bL rs;rw[Rep]at r;subst r;obtain⟨xs,hx,rx⟩:=a _ _ e;rw[oA rx]at hx;exact⟨_,bs,rfl,SqL.of hx,fin _ _ _ _ .refl (by rw[Rep]) a q⟩
 ·exact q.elim
def Ck(to:TD)(t:TAD):TD:=fun δ M Q=>to δ M fun x M1=>∃l ys,x=.ref l/\M1 l=some (.lst ys)/\t δ M1 fun ds M2=>∃xs d,ds=[d]/\M2 l=some (.lst xs)/\xs.length<1000000/\Q .non (aw M2 l (.lst (xs++[d])))
variable{o e:Expr}{to:TD}{t:TAD}{apos cpos:Pos}
theorem b4(ho:DE X o to)(ha:DA X [e] t)
 (hbase:Ik o "append" X.env (eval o X.env)=eval o X.env:=by rfl)
 (hfew:((GK cpos (Fc [e] X.env)).all (fun x=>!x.1)&&(backToKw cpos (HE [] X.env)).all (fun x=>x.1.isSome)
  && decide ([e].length+([]:List Iw).length+(if([]:List Iw).isEmpty then 0 else 1)<30))=true:=by rfl)
 (hline:(apos.endLine==cpos.line)=true:=by rfl) (hs:Fc [e] X.env=(false,eval e X.env)::Fc [] X.env:=by rfl) (hplain:(GK cpos (Fc [] X.env)).any (·.1)=false:=by rfl) :
 DE X (.Call (.Attribute o "append" apos) [e] [] cpos) (Ck to t):=
 aP (wO PySem.F.plainAttrs_list PySem.F.slot_list_append PySem.F.type_list_append gM ho ha hbase hfew hline hs hplain) fun σ H Q z9=>by
  obtain⟨δ,M,R,hsl,hM,q,fin⟩:=z9
  refine⟨δ,M,_,hsl,hM,q,fun x M1 v H1 g1 r1 a1 zz1_0=>?_⟩
  obtain⟨l,ys,ex,hl,q1⟩:=zz1_0
  subst ex
  rw[Rep]at r1
  subst r1
  obtain⟨vs,hvs,_⟩:=a1 _ _ hl
  refine⟨.inl ⟨rfl,vs,SqL.of hvs⟩,δ,M1,_,hsl.mono g1,a1,q1,fun ds M2 us H2 g2 r2 a2 zz2_0=>?_⟩
  obtain⟨xs,d,ed,hx,hn,q2⟩:=zz2_0
  subst ed
  obtain⟨u,rfl,ru⟩:=bL r2
  obtain⟨ws,hws,rws⟩:=a2 _ _ hx
  have hlen:=rws.length
  refine⟨l,ws,u,rfl,rfl,hws,Fh (by omega) (show 1000000<=Fb from nbL rfl),?_⟩
  exact fin _ _ _ _ (g1.trans (g2.trans (.lst hws))) (by rw[Rep]) (a2.wW hws (rws.append (.cons ru .nil))) q2
end
theorem f7{k:Nat}{A:FK}(r:Room k A):A.units+66<G0:=by have:=r.un;omega
abbrev Wl:=Int×Int×Int×Int
def la(x y:Int):Int:=100*x+y
def l1(w:Wl):Int:=la w.1 w.2.1
def l2(w:Wl):Int:=la w.2.2.1 w.2.2.2
def sd(w:Wl)(x y:Int):Int:=crs (w.2.2.1-w.1) (w.2.2.2-w.2.1) (x-w.1) (y-w.2.1)
def sd1(w v:Wl):Int:=sd w v.1 v.2.1
def sd2(w v:Wl):Int:=sd w v.2.2.1 v.2.2.2
structure Un5(w:Wl):Prop where
 a:0<=w.1/\w.1<=20
 b:0<=w.2.1/\w.2.1<=20
 c:0<=w.2.2.1/\w.2.2.1<=20
 d:0<=w.2.2.2/\w.2.2.2<=20
 lt:l1 w<l2 w
def aY(w:Wl)(l s:Int):Prop:=l=l1 w\/l=l2 w\/l<l1 w\/l2 w<l\/s≠0
structure Fair(U V:Wl):Prop where
 ne:¬(l1 U=l1 V/\l2 U=l2 V)
 e1:aY U (l1 V) (sd1 U V)
 e2:aY U (l2 V) (sd2 U V)
 e3:aY V (l1 U) (sd1 V U)
 e4:aY V (l2 U) (sd2 V U)
 pr:0<=Fo (sd1 U V)*Fo (sd2 U V)\/0<=Fo (sd1 V U)*Fo (sd2 V U)
theorem Fair.swap{U V:Wl}(h:Fair U V):Fair V U:=⟨fun z=>h.ne ⟨z.1.symm,z.2.symm⟩,h.e3,h.e4,h.e1,h.e2,h.pr.symm⟩
def abv(U V:Wl):Bool:=
 if max (l1 U) (l1 V)<min (l2 U) (l2 V)then
  if l1 U=l1 V then(if l2 U<l2 V then decide (0<sd2 V U)else decide (sd2 U V<0))
  else if l1 V<l1 U then decide (0<sd1 V U)else decide (sd1 U V<0)
 else false
theorem sg1(z:Int):Fo z=1↔0<z:=Int.sign_eq_one_iff_pos
theorem sgm(z:Int):-Fo z=1↔z<0:=by
 rcases FJ z 0 with h|h|h
 ·rw[FU h];omega
 ·subst h;simp
 ·rw[Gm h];omega
theorem sgp{x y:Int}(h:0<=Fo x*Fo y):¬(0<x/\y<0)/\¬(x<0/\0<y):=by
 constructor
 ·rintro⟨a,b⟩;rw[Gm a,FU b]at h;omega
 ·rintro⟨a,b⟩;rw[FU a,Gm b]at h;omega
theorem dY{z k:Int}(hk:0<k)(h:0<z*k):0<z:=by
 rcases FJ z 0 with q|q|q
 ·have:=Fw q hk;omega
 ·subst q;simp at h
 ·exact q
theorem fP{z k:Int}(hk:0<k)(h:z*k<0):z<0:=by
 rcases FJ z 0 with q|q|q
 ·exact q
 ·subst q;simp at h
 ·have:=Fj q hk;omega
theorem within{a b c d u1 u2 v1 v2:Int}(I1:a*(v2-v1)=d*(u1-v1)-c*(u2-v1))(I2:b*(v2-v1)=d*(u1-v2)-c*(u2-v2))
 (h1:v1<u1) (h2:v1<u2) (h3:u1<v2) (h4:u2<v2) (F:(¬(0<c/\d<0)/\¬(c<0/\0<d))\/(¬(0<a/\b<0)/\¬(a<0/\0<b))) (c0:c≠0) (d0:d≠0):0<c↔0<d:=by
 have k:0<v2-v1:=by omega
 have A1:¬(0<c/\d<0):=fun z9=>by
  obtain⟨x,y⟩:=z9
  have p1:=Fw y (show 0<u1-v1 by omega)
  have p2:=Fj x (show 0<u2-v1 by omega)
  have p3:=FP y (show u1-v2<0 by omega)
  have p4:=Fx x (show u2-v2<0 by omega)
  have a1:=fP (z:=a) k (by omega)
  have b1:=dY (z:=b) k (by omega)
  omega
 have A2:¬(c<0/\0<d):=fun z9=>by
  obtain⟨x,y⟩:=z9
  have p1:=Fj y (show 0<u1-v1 by omega)
  have p2:=Fw x (show 0<u2-v1 by omega)
  have p3:=Fx y (show u1-v2<0 by omega)
  have p4:=FP x (show u2-v2<0 by omega)
  have a1:=dY (z:=a) k (by omega)
  have b1:=fP (z:=b) k (by omega)
  omega
 omega
theorem rB{a b c d u1 u2 v1 v2:Int}(I2:b*(v2-v1)=d*(u1-v2)-c*(u2-v2))(I3:c*(u2-u1)=b*(v1-u1)-a*(v2-u1))
 (h1:v1<u1) (h2:u1<v2) (h3:v2<u2) (F:(¬(0<c/\d<0)/\¬(c<0/\0<d))\/(¬(0<a/\b<0)/\¬(a<0/\0<b))) (c0:c≠0) (b0:b≠0):0<c↔b<0:=by
 have e:d*(u1-v2)=-(d*(v2-u1)):=by rw[<-Int.mul_neg];congr 1;omega
 have A1:¬(0<c/\0<b):=fun z9=>by
  obtain⟨x,y⟩:=z9
  have p1:=Fj y (show 0<v2-v1 by omega)
  have p2:=Fj x (show 0<u2-v2 by omega)
  have p3:=Fj x (show 0<u2-u1 by omega)
  have p4:=Fx y (show v1-u1<0 by omega)
  have a1:=fP (z:=a) (show 0<v2-u1 by omega) (by omega)
  have d1:=fP (z:=d) (show 0<v2-u1 by omega) (by omega)
  omega
 have A2:¬(c<0/\b<0):=fun z9=>by
  obtain⟨x,y⟩:=z9
  have p1:=Fw y (show 0<v2-v1 by omega)
  have p2:=Fw x (show 0<u2-v2 by omega)
  have p3:=Fw x (show 0<u2-u1 by omega)
  have p4:=FP y (show v1-u1<0 by omega)
  have a1:=dY (z:=a) (show 0<v2-u1 by omega) (by omega)
  have d1:=dY (z:=d) (show 0<v2-u1 by omega) (by omega)
  omega
 omega
theorem sM(U V:Wl):sd1 U V*(l2 V-l1 V)=sd2 V U*(l1 U-l1 V)-sd1 V U*(l2 U-l1 V):=by unfold sd1 sd2 sd l1 l2 la crs;grind
theorem rY(U V:Wl):sd2 U V*(l2 V-l1 V)=sd2 V U*(l1 U-l2 V)-sd1 V U*(l2 U-l2 V):=by unfold sd1 sd2 sd l1 l2 la crs;grind
theorem mS{x y u v:Int}(h1:0<=y/\y<=20)(h2:0<=v/\v<=20)(h:la x y=la u v):x=u/\y=v:=by unfold la at h;omega
theorem zU{U V:Wl}(hU:Un5 U)(hV:Un5 V)(h:l1 U=l1 V):sd1 U V=0:=by obtain⟨e1,e2⟩:=mS hU.b hV.b h;unfold sd1 sd crs;rw[e1,e2];simp
theorem mV{U V:Wl}(hU:Un5 U)(hV:Un5 V)(h:l2 U=l2 V):sd2 U V=0:=by obtain⟨e1,e2⟩:=mS hU.d hV.d h;unfold sd2 sd crs;rw[e1,e2];grind
theorem aY.nz{w:Wl}{l s:Int}(h:aY w l s)(h1:l1 w<l)(h2:l<l2 w):s≠0:=by
 unfold aY at h;rcases h with h|h|h|h|h
 ·omega
 ·omega
 ·omega
 ·omega
 ·exact h
theorem fR{u1 u2 v1 v2:Int}:max u1 v1<min u2 v2↔u1<u2/\u1<v2/\v1<u2/\v1<v2:=by rw[Int.max_lt,Int.lt_min,Int.lt_min,and_assoc]
section
variable{U V:Wl}(ap:max (l1 U) (l1 V)<min (l2 U) (l2 V))
include ap
theorem vm(z:l1 U<l1 V):abv U V=decide (sd1 U V<0):=by unfold abv;rw[if_pos ap,if_neg (Int.ne_of_lt z),if_neg (Int.not_lt.mpr (Gn z))]
theorem uY(z:l1 V<l1 U):abv U V=decide (0<sd1 V U):=by unfold abv;rw[if_pos ap,if_neg (fun e=>Int.ne_of_lt z e.symm),if_pos z]
theorem ui(z:l1 U=l1 V)(y:l2 U<l2 V):abv U V=decide (0<sd2 V U):=by unfold abv;rw[if_pos ap,if_pos z,if_pos y]
theorem vt(z:l1 U=l1 V)(y:¬l2 U<l2 V):abv U V=decide (sd2 U V<0):=by unfold abv;rw[if_pos ap,if_pos z,if_neg y]
end
theorem tU{a:Int}(h:a≠0):decide (0<a)=!decide (a<0):=by rw[<-decide_not,decide_eq_decide];omega
theorem uB{a:Int}(h:a≠0):decide (a<0)=!decide (0<a):=by rw[<-decide_not,decide_eq_decide];omega
theorem wz{U V:Wl}(hU:Un5 U)(hV:Un5 V)(F:Fair U V)(ap:max (l1 U) (l1 V)<min (l2 U) (l2 V)):abv V U=!abv U V:=by
 have pa:=ap;rw[Int.max_comm,Int.min_comm]at pa;have o:=fR.mp ap;rcases FJ (l1 U) (l1 V)with h|h|h
 ·rw[uY pa h,vm ap h,tU (F.e1.nz h o.2.2.1)]
 ·rcases FJ (l2 U) (l2 V)with h'|h'|h'
  ·rw[vt pa h.symm (Int.not_lt.mpr (Gn h')),ui ap h h',uB (F.e4.nz o.2.2.1 h')]
  ·exact absurd ⟨h,h'⟩ F.ne
  ·rw[ui pa h.symm h',vt ap h (Int.not_lt.mpr (Gn h')),tU (F.e2.nz o.2.1 h')]
 ·rw[vm pa h,uY ap h,uB (F.e3.nz h o.2.1)]
theorem wU{a b c d:Int}(hb:0<=b/\b<=20)(hd:0<=d/\d<=20):HT.lexLt [a,b] [c,d]=decide (la a b<la c d):=by have h:=Ma.dA (a:=a) (b:=b) (c:=c) (d:=d);rw[Bool.eq_iff_iff,h,decide_eq_true_eq];unfold la;omega
theorem zL{a b c d:Int}(hb:0<=b/\b<=20)(hd:0<=d/\d<=20):HT.lexLe [a,b] [c,d]=decide (la a b<=la c d):=by rw[Ma.tG,wU hd hb,<-decide_not,decide_eq_decide];omega
theorem DL{a b c d:Int}(hb:0<=b/\b<=20)(hd:0<=d/\d<=20):HT.bD [a,b] [c,d]=decide (la c d<la a b):=by rw[Ma.tm,wU hd hb]
theorem dH{z:Int}(h:0<=z/\z<=20):Bd 6 z:=by show z.natAbs<2^6;omega
theorem uA{x y u v:Int}(h1:0<=y/\y<=20)(h2:0<=v/\v<=20):(x=u/\y=v)↔la x y=la u v:=by unfold la;omega
theorem yw{I:ItD}{tk:Tgt}{js:List Nat}{tc:TTD}{te:TD}{δ:DS}{M1:MH}{Q:DK}(f:Nat->Option D)(hn:I.n<=1000000)(hC:∀p ys,M1 p=none->I.C (aw M1 p (.lst ys))) (h:∀i d M,i<I.n->I.item i=some d->Sub M1 M->∃os,uq tk d os/\(∀K:Bool->MH->Prop,K (f i).isSome M->tc (cδ os js δ) M K)/\∀e,f i=some e->∀K:DK,(∀M',Sub M M'->K e M')->te (cδ os js δ) M K) (hq:∀p,M1 p=none->Q (.ref p) (aw M1 p (.lst ((Fg I.n).filterMap f)))):uF I tk js tc te δ M1 Q:=by
 refine⟨hn,fun p hp=>⟨fun i ys M=>ys=(Fg i).filterMap f/\M=aw M1 p (.lst ys),⟨rfl,rfl⟩,?_,?_,?_⟩⟩
 ·rintro i ys M _ ⟨_,rfl⟩;exact hC p ys hp
 ·rintro i ys d M hi hd ⟨rfl,rfl⟩;obtain⟨os,ow,kt,ke⟩:=h i d _ hi hd (.new hp .refl);refine⟨os,ow,kt _ ?_⟩;cases e:f i with
  |none=>
   refine iF rfl ⟨_,.refl,?_,?_⟩
   ·rw[List.range_succ,List.filterMap_append];simp[e]
   ·rfl
  |some v=>
   refine tP rfl (ke v e _ fun M' s'=>⟨_,s',aj,?_,by rw[aX]⟩)
   rw[List.range_succ,List.filterMap_append];simp[e]
 ·rintro ys M ⟨rfl,rfl⟩;exact hq p hp
theorem vJ{A:Wl}{x y:Int}(hA:Un5 A)(hy:0<=y/\y<=20)(h:(!(decide (A.1=x/\A.2.1=y)||decide (A.2.2.1=x/\A.2.2.2=y))&&(decide (l1 A<=la x y)&&decide (la x y<=l2 A)&&decide (sd A x y=0)))=false):aY A (la x y) (sd A x y):=by
 unfold aY;by_cases h1:A.1=x/\A.2.1=y
 ·exact .inl ((uA hA.b hy).mp h1).symm
 ·by_cases h2:A.2.2.1=x/\A.2.2.2=y
  ·exact .inr (.inl ((uA hA.d hy).mp h2).symm)
  ·rw[decide_eq_false h1,decide_eq_false h2,Bool.or_false,Bool.not_false,Bool.true_and,<-HY,<-HY,decide_eq_false_iff_not]at h;by_cases h3:sd A x y=0
   ·rcases Int.lt_or_le (la x y) (l1 A)with z|z
    ·exact .inr (.inr (.inl z))
    ·rcases Int.lt_or_le (l2 A) (la x y)with z'|z'
     ·exact .inr (.inr (.inr (.inl z')))
     ·exact absurd ⟨⟨z,z'⟩,h3⟩ h
   ·exact .inr (.inr (.inr (.inr h3)))
theorem AV(M:MH)(A:Wl)(x y:Int)(g:Bool->Bool)(Q:DK)(q:Q (.bl (g (decide (A.1=x/\A.2.1=y)||decide (A.2.2.1=x/\A.2.2.2=y)))) M):zX g (.tup [.int x,.int y]) (uw A) M Q:=by refine⟨_,_,Pd.of rfl,.inr (Pd.of rfl),rfl,rfl,?_⟩;rw[HF,HF,List.any_nil,iQ,iQ,Bool.or_false];exact q
theorem zt(z:Int):Bd 64 (Fo z):=by
 rcases FJ z 0 with h|h|h
 ·rw[FU h];decide
 ·subst h;decide
 ·rw[Gm h];decide
def uwP(w:Wl):Im:=.tuple [.tuple [.int w.1,.int w.2.1],.tuple [.int w.2.2.1,.int w.2.2.2]]
theorem tW{M:MH}:∀ws:List Wl,Pds M (ws.map uw) (ws.map uwP)
 |[]=>.nil
 |w::ws=>.cons (Pd.of rfl) (tW ws)
theorem wX:∀ws:List Wl,H0 (ws.map uwP)=true
 |[]=>rfl
 |w::ws=>by rw[EW,H0,wX ws];rfl
theorem uU:∀ws:List Wl,I0 (ws.map uwP)<=10
 |[]=>nbL rfl
 |w::ws=>by
  rw[EW,I0]
  exact Nat.max_le.mpr ⟨nbL rfl,uU ws⟩
theorem sV(ws:List Wl):GD (.list (ws.map uwP))=true:=by unfold GD;have h1:=wX ws;have h2:=uU ws;rw[GF];refine⟨by rw[Iq];exact h1,decide_eq_true ?_⟩;rw[PyData.depth];omega
theorem pQ:∀ws:List Wl,FG (.list (ws.map uwP)) (.list [])=ws.isEmpty
 |[]=>by simp[FG,G8]
 |w::ws=>by simp[FG,G8]
def PF(ws:List Wl):Prop:=∀(i j:Nat) (U V:Wl),i≠j->ws[i]?=some U->ws[j]?=some V->Fair U V
theorem Af:PF []:=fun i j U V _ h=>by simp at h
theorem tO{ws:List Wl}{U:Wl}(h:PF ws)(hU:∀(j:Nat) (w:Wl),ws[j]?=some w->Fair U w):PF (ws++[U]):=by
 intro i j A B hij hA hB
 have get:∀{k:Nat} {C:Wl},(ws++[U])[k]?=some C->ws[k]?=some C\/(k=ws.length/\C=U):=fun{k C} e=>by
  rcases Hr k ws.length with z|z|z
  ·rw[FO z]at e;exact .inl e
  ·subst z;rw[FL (E8 _)]at e;simp at e;exact .inr ⟨rfl,e.symm⟩
  ·rw[List.getElem?_eq_none (by simp;omega)]at e;cases e
 rcases get hA with a|⟨a,rfl⟩<;>rcases get hB with b|⟨b,rfl⟩
 ·exact h i j A B hij a b
 ·exact(hU _ _ a).swap
 ·exact hU _ _ b
 ·omega
theorem vW{w:Wl}(h:Un5 w){v:Int}(h0:0<=v)(h1:v<2):∃x y,atI [D.tup [.int w.1,.int w.2.1],.tup [.int w.2.2.1,.int w.2.2.2]] v=some (.tup [.int x,.int y])/\(0<=x/\x<=20)/\(0<=y/\y<=20):=by
 rcases(show v=0\/v=1 by omega)with rfl|rfl
 ·exact⟨_,_,rfl,h.a,h.b⟩
 ·exact⟨_,_,rfl,h.c,h.d⟩
theorem yC{ws:List Wl}{v:Int}(h0:0<=v)(h1:v<ws.length):∃w,w∈ws/\atI (ws.map uw) v=some (uw w):=by
 obtain⟨j,rfl⟩:∃j:Nat,v=(j:Int):=⟨v.toNat,by omega⟩;have hj:j<ws.length:=by omega
 exact⟨ws[j],G6 hj,cQ (by simp[hj])⟩
theorem tN{p q e f:Int}(hp:0<=p/\p<=20)(hq:0<=q/\q<=20)(he:0<=e/\e<=20)(hf:0<=f/\f<=20)(ne:¬(p=e/\q=f)) :
 ∃w:Wl,(if HT.lexLt [e,f] [p,q]=true then[e,f]else[p,q])=[w.1,w.2.1]/\(if HT.bD [e,f] [p,q]=true then[e,f]else[p,q])=[w.2.2.1,w.2.2.2]/\Un5 w:=by
 rw[wU hf hq,DL hf hq]
 have nl:la p q≠la e f:=fun z=>ne ((uA hq hf).mpr z)
 by_cases h:la e f<la p q
 ·exact⟨(e,f,p,q),by rw[if_pos (decide_eq_true h)],by rw[if_neg (by simp;omega)],⟨he,hf,hp,hq,h⟩⟩
 ·have h':la p q<la e f:=by omega
  exact⟨(p,q,e,f),by rw[if_neg (by simpa using h)],by rw[if_pos (decide_eq_true h')],⟨hp,hq,he,hf,h'⟩⟩
theorem mz{t b X Y p q e f:Int}(ht:0<t)(hb:0<b)(hq:0<=q/\q<=20)(hf:0<=f/\f<=20):Ma.ah (Ma.ut t b X 1 p) (Ma.ut t b Y 1 q) (Ma.ut t b X 1 e) (Ma.ut t b Y 1 f)↔la p q<la e f:=by rw[Dg ht hb];unfold la;omega
theorem gH{t b X Y p q e f:Int}(ht:0<t)(hb:0<b)(hq:0<=q/\q<=20)(hf:0<=f/\f<=20):(Ma.ut t b X 1 p=Ma.ut t b X 1 e/\Ma.ut t b Y 1 q=Ma.ut t b Y 1 f)↔la p q=la e f:=by rw[Ma.d8 ht hb (by decide) (by decide),Ma.d8 ht hb (by decide) (by decide)];unfold la;omega
theorem gQ{t b X Y:Int}(ht:0<t)(hb:0<b)(w:Wl)(x y:Int):Ma.sgn (Ma.cr (Ma.ut t b X 1 w.1) (Ma.ut t b Y 1 w.2.1) (Ma.ut t b X 1 w.2.2.1) (Ma.ut t b Y 1 w.2.2.2) (Ma.ut t b X 1 x) (Ma.ut t b Y 1 y))=Fo (sd w x y):=by
 have k:(0:Rat)<(t:Rat)/b:=by rw[Rat.div_def];exact Ig (Ma.pos_int ht) (Rat.inv_pos.mpr (Ma.pos_int hb))
 rw[Dw hb,sgn_mul (Ig k k)];rfl
theorem EO(z:Int):Fo z=-1↔z<0:=by rw[<-sgm];omega
section
variable{X:Cx}
def cB{α:Type}(xs:List α)(j:Nat)(y:α):List α:=xs.take j++y::xs.drop j
def yK:V->List V->Hp->VK->Prop:=fun x vs H Q=>∃l xs y,∃(k:Int) (j:Nat),x=.ref l/\vs=[.int k,y]/\k=(j:Int)/\H l=some (.lst xs)/\j<=xs.length/\xs.length<1000000/\Q .non (upd H l (.lst (cB xs j y)))
theorem xr(its:List E1)(k:Int)(j:Nat)(u:E1)(hk:k=(j:Int))(hj:j<=its.length) :
 (its.toArray.extract 0 (if k<0 then(k+((its.toArray.size:Nat):Int)).toNat else min k.toNat its.toArray.size)).push u++its.toArray.extract (if k<0 then(k+((its.toArray.size:Nat):Int)).toNat else min k.toNat its.toArray.size)=(cB its j u).toArray:=by
 have e:(if k<0 then(k+((its.toArray.size:Nat):Int)).toNat else min k.toNat its.toArray.size)=j:=by
  rw[if_neg (by omega),Fe];omega
 rw[e]
 apply Array.toList_inj.mp
 simp[cB]
 exact GH (by simp)
theorem tF:MtM X "list.insert" yK:=by
 intro pins s σ H x vs v us Q I rx rv z0;obtain⟨l,xs,y,k,j,ex,ev,hk,hH,hj,hz,q⟩:=z0;subst ex ev;cases rx;obtain⟨u1,u2,rfl,r1,r2⟩:=rv.two;obtain⟨t,rfl⟩:=r1;obtain⟨z,its,n,r,hl,e⟩:=I.sC hH;have fits:Builtin.List.listFitsIndex k=true:=by unfold Builtin.List.listFitsIndex;simp;omega
 have hsz:its.toArray.size<=Fb:=by rw[Fe,<-hl];exact z
 refine call_meets PySem.F.slot_list_insert ⟨_,e,rfl⟩ PySem.F.entry_list_insert (PySem.F.args_list_insert_3 _ _ _) (PySem.AutoSeq1.list_insert_list_int_val_1 l its.toArray n k t u2 (by rw[fits];decide) hsz) ⟨e,?_⟩;refine⟨.non,_,I.Dc (its':=cB its j u2) hH e (xr its k j u2 hk (by omega)) ((Vals.take j r).append (.cons r2 (Vals.drop j r))) ?_,rfl,q⟩;show(xs.take j++y::xs.drop j).length<=Fb;simp only[Ga,HJ,Fi,List.length_drop];have:1000000<=Fb:=nbL rfl;omega
def CU(to:TD)(t:TAD):TD:=fun δ M Q=>to δ M fun x M1=>∃l ys,x=.ref l/\M1 l=some (.lst ys)/\t δ M1 fun ds M2=>∃xs d,∃j:Nat,ds=[.int (j:Int),d]/\M2 l=some (.lst xs)/\j<=xs.length/\xs.length<1000000/\Q .non (aw M2 l (.lst (cB xs j d)))
variable{o e1 e2:Expr}{to:TD}{t:TAD}{apos cpos:Pos}
theorem nG(ho:DE X o to)(ha:DA X [e1,e2] t)
 (hbase:Ik o "insert" X.env (eval o X.env)=eval o X.env:=by rfl)
 (hfew:((GK cpos (Fc [e1,e2] X.env)).all (fun x=>!x.1)&&(backToKw cpos (HE [] X.env)).all (fun x=>x.1.isSome)
  && decide ([e1,e2].length+([]:List Iw).length+(if([]:List Iw).isEmpty then 0 else 1)<30))=true:=by rfl)
 (hline:(apos.endLine==cpos.line)=true:=by rfl) (hs:Fc [e1,e2] X.env=(false,eval e1 X.env)::Fc [e2] X.env:=by rfl) (hplain:(GK cpos (Fc [e2] X.env)).any (·.1)=false:=by rfl) :
 DE X (.Call (.Attribute o "insert" apos) [e1,e2] [] cpos) (CU to t):=
 aP (wO PySem.F.plainAttrs_list PySem.F.slot_list_insert PySem.F.type_list_insert tF ho ha hbase hfew hline hs hplain) fun σ H Q z9=>by
  obtain⟨δ,M,R,hsl,hM,q,fin⟩:=z9
  refine⟨δ,M,_,hsl,hM,q,fun x M1 v H1 g1 r1 a1 zz1_0=>?_⟩
  obtain⟨l,ys,ex,hl,q1⟩:=zz1_0
  subst ex
  rw[Rep]at r1
  subst r1
  obtain⟨vs,hvs,_⟩:=a1 _ _ hl
  refine⟨.inl ⟨rfl,vs,SqL.of hvs⟩,δ,M1,_,hsl.mono g1,a1,q1,fun ds M2 us H2 g2 r2 a2 zz2_0=>?_⟩
  obtain⟨xs,d,j,ed,hx,hj,hn,q2⟩:=zz2_0
  subst ed
  obtain⟨u1,u2,rfl,ru1,ru2⟩:=d5 r2
  rw[Rep]at ru1
  subst ru1
  obtain⟨ws,hws,rws⟩:=a2 _ _ hx
  have hlen:=rws.length
  exact⟨l,ws,u2,_,j,rfl,rfl,rfl,hws,by omega,by omega,fin _ _ _ _ (g1.trans (g2.trans (.lst hws))) (by rw[Rep]) (a2.wW hws ((rws.take j).append (.cons ru2 (rws.drop j)))) q2⟩
def vS:RC:=fun ds M Q=>match ds with
 |[.ref l]=>∃xs,M l=some (.lst xs)/\∀p,M p=none->Q (.ref p) (aw M p (.lst xs))
 |[.tup xs]=>∀p,M p=none->Q (.ref p) (aw M p (.lst xs))
 |_=>False
theorem yJ:cI X (.type "list") vS:=br lW fun vs H Q z9=>by
 obtain⟨ds,M,R,rs,a,q,fin⟩:=z9;unfold vS at q;split at q
 ·obtain⟨ys,e,q⟩:=q;obtain⟨v,rfl,r⟩:=bL rs;rw[Rep]at r;subst r;obtain⟨xs,hx,rx⟩:=a _ _ e;exact⟨_,xs,rfl,.inl (SqL.of hx),fun z hz=>fin _ _ _ _ (.new hz) (by rw[Rep]) (a.mi hz rx) (q z (a.fresh hz))⟩
 ·obtain⟨v,rfl,r⟩:=bL rs;rw[Rep]at r;obtain⟨p,xs,rfl,hx,rx⟩:=r;exact⟨_,xs,rfl,.inr hx,fun z hz=>fin _ _ _ _ (.new hz) (by rw[Rep]) (a.mi hz rx) (q z (a.fresh hz))⟩
 ·exact q.elim
end
def lam(w:Wl):Int:=l2 w-l1 w
def Nm(w:Wl)(t:Int):Int:=2*w.1*lam w+(t-2*l1 w)*(w.2.2.1-w.1)
def Gh(U V:Wl)(t:Int):Int:=Nm V t*lam U-Nm U t*lam V
theorem CM(U V:Wl):Gh U V (2*l1 U)=2*(lam U*sd1 V U):=by unfold Gh Nm lam sd1 sd l1 l2 la crs;grind
theorem CO(U V:Wl):Gh U V (2*l2 U)=2*(lam U*sd2 V U):=by unfold Gh Nm lam sd2 sd l1 l2 la crs;grind
theorem uj(U V:Wl)(t:Int):Gh V U t=-Gh U V t:=by unfold Gh;grind
theorem Eu(U V:Wl):Gh U V (2*l1 V)=-(2*(lam V*sd1 U V)):=by rw[<-CM,uj]
theorem EJ(U V:Wl):Gh U V (2*l2 V)=-(2*(lam V*sd2 U V)):=by rw[<-CO,uj]
theorem DR(U V:Wl)(p q t:Int):Gh U V t*(q-p)=Gh U V p*(q-t)+Gh U V q*(t-p):=by unfold Gh Nm;grind
theorem dJ{U V:Wl}{p q t:Int}(h1:p<t)(h2:t<q)(gp:0<=Gh U V p)(gq:0<=Gh U V q)(g:0<Gh U V p\/0<Gh U V q):0<Gh U V t:=by
 refine dY (k:=q-p) (by omega) ?_;rw[DR U V p q t];have a1:=Int.mul_nonneg gp (show 0<=q-t by omega);have a2:=Int.mul_nonneg gq (show 0<=t-p by omega);rcases g with g|g
 ·have:=Fj g (show 0<q-t by omega);omega
 ·have:=Fj g (show 0<t-p by omega);omega
theorem mx2{a b t:Int}:2*max a b<t↔2*a<t/\2*b<t:=by rw[Int.max_def];split<;>omega
theorem mn2{a b t:Int}:t<2*min a b↔t<2*a/\t<2*b:=by rw[Int.min_def];split<;>omega
theorem wD{a1 a2 a3 b1 b2 b3:Int}(h:a1<b1/\a1<b2/\a1<b3)(h':a2<b1/\a2<b2/\a2<b3)(h'':a3<b1/\a3<b2/\a3<b3):∃t,(2*a1<t/\2*a2<t/\2*a3<t)/\t<2*b1/\t<2*b2/\t<2*b3:=by have k:∀{b},a1<b->a2<b->a3<b->max (max a1 a2) a3<b:=fun x y z=>Int.max_lt.mpr ⟨Int.max_lt.mpr ⟨x,y⟩,z⟩;have l:max (max a1 a2) a3<min (min b1 b2) b3:=Int.lt_min.mpr ⟨Int.lt_min.mpr ⟨k h.1 h'.1 h''.1,k h.2.1 h'.2.1 h''.2.1⟩,k h.2.2 h'.2.2 h''.2.2⟩;have p1:a1<=max (max a1 a2) a3:=Int.le_trans (Int.le_max_left ..) (Int.le_max_left ..);have p2:a2<=max (max a1 a2) a3:=Int.le_trans (Int.le_max_right ..) (Int.le_max_left ..);have p3:a3<=max (max a1 a2) a3:=Int.le_max_right ..;have q1:min (min b1 b2) b3<=b1:=Int.le_trans (Int.min_le_left ..) (Int.min_le_left ..);have q2:min (min b1 b2) b3<=b2:=Int.le_trans (Int.min_le_left ..) (Int.min_le_right ..);have q3:min (min b1 b2) b3<=b3:=Int.min_le_right ..;generalize max (max a1 a2) a3=m at *;generalize min (min b1 b2) b3=n at *;clear h h' h'' k;refine⟨m+n,⟨?_,?_,?_⟩,?_,?_,?_⟩<;>omega
theorem wN{U V:Wl}{t:Int}(hU:Un5 U)(hV:Un5 V)(F:Fair U V)(ap:max (l1 U) (l1 V)<min (l2 U) (l2 V))(t1:2*max (l1 U) (l1 V)<t)(t2:t<2*min (l2 U) (l2 V))(h:abv U V=true):0<Gh U V t:=by
 have hA:l1 U<l1 V->sd1 U V<0:=fun z=>of_decide_eq_true ((vm ap z).symm.trans h);have hC:l1 V<l1 U->0<sd1 V U:=fun z=>of_decide_eq_true ((uY ap z).symm.trans h);have hD:l1 U=l1 V->l2 U<l2 V->0<sd2 V U:=fun z y=>of_decide_eq_true ((ui ap z y).symm.trans h);have hB:l1 U=l1 V->¬l2 U<l2 V->sd2 U V<0:=fun z y=>of_decide_eq_true ((vt ap z y).symm.trans h);clear h;obtain⟨o1,o2,o3,o4⟩:=fR.mp ap;clear ap;obtain⟨tu1,tv1⟩:=mx2.mp t1;obtain⟨tu2,tv2⟩:=mn2.mp t2;clear t1 t2;have f1:=F.e1.nz;have f2:=F.e2.nz;have f3:=F.e3.nz;have f4:=F.e4.nz;have pr:(¬(0<sd1 V U/\sd2 V U<0)/\¬(sd1 V U<0/\0<sd2 V U))\/(¬(0<sd1 U V/\sd2 U V<0)/\¬(sd1 U V<0/\0<sd2 U V)):=F.pr.elim (fun z=>.inr (sgp z)) (fun z=>.inl (sgp z));have z1:=zU hU hV;have z2:=mV hU hV;have z3:=zU hV hU;have z4:=mV hV hU;have w1:=fun h1 h2 h3 h4 c0 d0=>within (sM U V) (rY U V) h1 h2 h3 h4 pr c0 d0;have w2:=fun h1 h2 h3 h4 c0 d0=>within (sM V U) (rY V U) h1 h2 h3 h4 pr.symm c0 d0;have s1:=fun h1 h2 h3 c0 d0=>rB (rY U V) (sM V U) h1 h2 h3 pr c0 d0;have s2:=fun h1 h2 h3 c0 d0=>rB (rY V U) (sM U V) h1 h2 h3 pr.symm c0 d0;clear pr;have ne:=F.ne;have lu:0<lam U:=by have:=hU.lt;unfold lam;omega
 have lv:0<lam V:=by have:=hV.lt;unfold lam;omega
 have G1:=CM U V;have G2:=CO U V;have G3:=Eu U V;have G4:=EJ U V;have P1:0<sd1 V U->0<Gh U V (2*l1 U):=fun z=>by rw[G1];have:=Fj lu z;omega
 have P2:0<sd2 V U->0<Gh U V (2*l2 U):=fun z=>by rw[G2];have:=Fj lu z;omega
 have P3:sd1 U V<0->0<Gh U V (2*l1 V):=fun z=>by rw[G3];have:=Fx lv z;omega
 have P4:sd2 U V<0->0<Gh U V (2*l2 V):=fun z=>by rw[G4];have:=Fx lv z;omega
 have Z1:sd1 V U=0->Gh U V (2*l1 U)=0:=fun z=>by rw[G1,z];simp
 have Z2:sd2 V U=0->Gh U V (2*l2 U)=0:=fun z=>by rw[G2,z];simp
 rcases FJ (l1 U) (l1 V)with y|y|y<;>rcases FJ (l2 U) (l2 V)with y'|y'|y'
 ·have na:=f1 y o3;have nd:=f4 o3 y';have q:=s2 y o3 y' na nd;have a0:sd1 U V<0:=hA y;have p1:=P3 a0;have p2:=P2 (by omega);exact dJ (p:=2*l1 V) (q:=2*l2 U) (by assumption) (by assumption) (Gn p1) (by first|exact Gn p2|exact Int.le_of_eq p2.symm) (.inl p1)
 ·have a0:sd1 U V<0:=hA y;have p1:=P3 a0;have p2:=Z2 (z4 y'.symm);exact dJ (p:=2*l1 V) (q:=2*l2 U) (by assumption) (by assumption) (Gn p1) (by first|exact Gn p2|exact Int.le_of_eq p2.symm) (.inl p1)
 ·have na:=f1 y o3;have nb:=f2 (by omega) y';have q:=w2 y (by omega) o3 y' na nb;have a0:sd1 U V<0:=hA y;have p1:=P3 a0;have p2:=P4 (by omega);exact dJ (p:=2*l1 V) (q:=2*l2 V) (by assumption) (by assumption) (Gn p1) (by first|exact Gn p2|exact Int.le_of_eq p2.symm) (.inl p1)
 ·have p1:=Z1 (z3 y.symm);have p2:=P2 (hD y y');exact dJ (p:=2*l1 U) (q:=2*l2 U) (by assumption) (by assumption) (Int.le_of_eq p1.symm) (Gn p2) (.inr p2)
 ·exact absurd ⟨y,y'⟩ ne
 ·have p1:=Z1 (z3 y.symm);have p2:=P4 (hB y (by omega));exact dJ (p:=2*l1 U) (q:=2*l2 V) (by assumption) (by assumption) (Int.le_of_eq p1.symm) (Gn p2) (.inr p2)
 ·have q:=w1 y (by omega) o2 y' (f3 y o2) (f4 (by omega) y');have c0:0<sd1 V U:=hC y;have p1:=P1 c0;have p2:=P2 (by omega);exact dJ (p:=2*l1 U) (q:=2*l2 U) (by assumption) (by assumption) (Gn p1) (by first|exact Gn p2|exact Int.le_of_eq p2.symm) (.inl p1)
 ·have c0:0<sd1 V U:=hC y;have p1:=P1 c0;have p2:=Z2 (z4 y'.symm);exact dJ (p:=2*l1 U) (q:=2*l2 U) (by assumption) (by assumption) (Gn p1) (by first|exact Gn p2|exact Int.le_of_eq p2.symm) (.inl p1)
 ·have q:=s1 y o2 y' (f3 y o2) (f2 o2 y');have c0:0<sd1 V U:=hC y;have p1:=P1 c0;have p2:=P4 (by omega);exact dJ (p:=2*l1 U) (q:=2*l2 V) (by assumption) (by assumption) (Gn p1) (by first|exact Gn p2|exact Int.le_of_eq p2.symm) (.inl p1)
theorem sQ{U V W:Wl}(hU:Un5 U)(hV:Un5 V)(hW:Un5 W)(F1:Fair U V)(F2:Fair V W)(F3:Fair U W)(a1:max (l1 U) (l1 V)<min (l2 U) (l2 V))(a2:max (l1 V) (l1 W)<min (l2 V) (l2 W))(a3:max (l1 U) (l1 W)<min (l2 U) (l2 W))
 (h1:abv U V=true) (h2:abv V W=true):abv U W=true:=by
 have o1:=fR.mp a1
 have o2:=fR.mp a2
 have o3:=fR.mp a3
 obtain⟨t,⟨x1,x2,x3⟩,y1,y2,y3⟩:=wD ⟨o1.1,o1.2.1,o3.2.1⟩ ⟨o1.2.2.1,o1.2.2.2,o2.2.1⟩ ⟨o3.2.2.1,o2.2.2.1,o2.2.2.2⟩
 have g1:=wN (t:=t) hU hV F1 a1 (mx2.mpr ⟨x1,x2⟩) (mn2.mpr ⟨y1,y2⟩) h1
 have g2:=wN (t:=t) hV hW F2 a2 (mx2.mpr ⟨x2,x3⟩) (mn2.mpr ⟨y2,y3⟩) h2
 have lu:0<lam U:=by have:=hU.lt;unfold lam;omega
 have lv:0<lam V:=by have:=hV.lt;unfold lam;omega
 have lw:0<lam W:=by have:=hW.lt;unfold lam;omega
 have g3:0<Gh U W t:=by
  refine dY (k:=lam V) lv ?_
  have e:Gh U W t*lam V=lam U*Gh V W t+lam W*Gh U V t:=by unfold Gh;grind
  rw[e]
  exact Int.add_pos (Fj lu g2) (Fj lw g1)
 cases z:abv U W with
 |true=>rfl
 |false=>
  have n:=wz hU hW F3 a3
  rw[z]at n
  have g4:=wN (t:=t) hW hU F3.swap (by rw[Int.max_comm,Int.min_comm];exact a3) (mx2.mpr ⟨x3,x1⟩) (mn2.mpr ⟨y3,y1⟩) n
  rw[uj]at g4
  omega
theorem vF{U:Wl}(hU:Un5 U):abv U U=false:=by
 unfold abv;split
 ·rw[if_pos rfl,if_neg (by omega),mV hU hU rfl];rfl
 ·rfl
theorem vZ{α β:Type}(f:α->β)(xs:List α)(j:Nat)(y:α):cB (xs.map f) j (f y)=(cB xs j y).map f:=by unfold cB;simp[List.map_take,List.map_drop]
theorem gO{α:Type}(p:α->Bool)(f:α->D):∀l:List α,l.filterMap (fun k=>if p k=true then some (f k)else none)=(l.filter p).map f
 |[]=>rfl
 |a::l=>by
  rw[List.filterMap_cons,List.filter_cons]
  cases h:p a
  ·simp[gO p f l]
  ·simp[gO p f l]
def wAt(ws:List Wl)(k:Int):Wl:=(ws[k.toNat]?).getD (0,0,0,0)
theorem bC{ws:List Wl}{k:Int}(h0:0<=k)(h1:k<ws.length):ws[k.toNat]?=some (wAt ws k)/\atI (ws.map uw) k=some (uw (wAt ws k))/\wAt ws k∈ws:=by
 obtain⟨j,rfl⟩:∃j:Nat,k=(j:Int):=⟨k.toNat,by omega⟩;have hj:j<ws.length:=by omega
 have e:wAt ws (j:Int)=ws[j]:=by unfold wAt;simp[hj]
 refine⟨by rw[e];simp[hj],?_,by rw[e];exact G6 hj⟩;rw[e];exact cQ (by simp[hj])
theorem xf{R:Int->Int->Bool}:∀fs:List Int,fs≠[]->(∀k∈fs,∀j∈fs,k≠j->R j k=!R k j)->(∀k∈fs,∀j∈fs,∀i∈fs,k≠j->j≠i->k≠i->R k j=true->R j i=true->R k i=true)->∃t∈fs,∀k∈fs,k=t\/R t k=true
 |[],h,_,_=>absurd rfl h
 |[a],_,_,_=>⟨a,by simp,fun k hk=>.inl (by simpa using hk)⟩
 |a::b::l,_,tot,tr=>by
  obtain⟨t,ht,top⟩:=xf (R:=R) (b::l) (by simp) (fun k hk j hj=>tot k (.tail _ hk) j (.tail _ hj)) (fun k hk j hj i hi=>tr k (.tail _ hk) j (.tail _ hj) i (.tail _ hi))
  by_cases e:a=t
  ·subst e
   refine⟨a,by simp,fun k hk=>?_⟩
   rcases FN.mp hk with rfl|hk
   ·exact .inl rfl
   ·exact top k hk
  ·have ta:=tot a (by simp) t (.tail _ ht) e
   cases q:R a t with
   |false=>
    rw[q]at ta
    refine⟨t,.tail _ ht,fun k hk=>?_⟩
    rcases FN.mp hk with rfl|hk
    ·exact .inr ta
    ·exact top k hk
   |true=>
    refine⟨a,by simp,fun k hk=>?_⟩
    rcases FN.mp hk with rfl|hk'
    ·exact .inl rfl
    ·by_cases ka:k=a
     ·exact .inl ka
     ·rcases top k hk' with rfl|z
      ·exact .inr q
      ·by_cases kt:k=t
       ·subst kt;exact .inr q
       ·exact .inr (tr a (by simp) t (.tail _ ht) k hk e (fun y=>kt y.symm) (fun y=>ka y.symm) q z)
theorem pZ{fs:List Int}{t:Int}{p:Int->Bool}(nd:fs.Nodup)(ht:t∈fs)(hp:∀k∈fs,p k=true↔k=t):fs.filter p=[t]:=by
 induction fs with
 |nil=>cases ht
 |cons a l ih=>
  rw[Hu]at nd
  rw[List.filter_cons]
  by_cases e:a=t
  ·subst e;rw[if_pos ((hp a (by simp)).mpr rfl)];have:l.filter p=[]:=List.filter_eq_nil_iff.mpr fun k hk hpk=>nd.1 ((hp k (.tail _ hk)).mp hpk▸hk);rw[this]
  ·rw[if_neg (fun z=>e ((hp a (by simp)).mp z))];exact ih nd.2 ((FN.mp ht).resolve_left (fun z=>e z.symm)) fun k hk=>hp k (.tail _ hk)
def frP(q:Rat):Im:=.tuple [.int q.num,.int (q.den:Int)]
def rwP(t b x y:Int)(w:Wl):Im:=.tuple [.tuple [frP (Ma.ut t b x 1 w.1),frP (Ma.ut t b y 1 w.2.1)],.tuple [frP (Ma.ut t b x 1 w.2.2.1),frP (Ma.ut t b y 1 w.2.2.2)]]
theorem oj(t b x y:Int)(w:Wl):FG (rwP t b x y w) (rwP t b x y w)=true:=by simp[rwP,frP,FG,G8]
theorem oX{M:MH}(t b x y:Int):∀ws:List Wl,Pds M (ws.map (rwl t b x y)) (ws.map (rwP t b x y))
 |[]=>.nil
 |w::ws=>.cons (Pd.of rfl) (oX t b x y ws)
theorem uG(t b x y:Int):∀ws:List Wl,H0 (ws.map (rwP t b x y))=true
 |[]=>rfl
 |w::ws=>by rw[EW,H0,uG t b x y ws];rfl
theorem vu(t b x y:Int):∀ws:List Wl,I0 (ws.map (rwP t b x y))<=10
 |[]=>nbL rfl
 |w::ws=>by
  rw[EW,I0]
  exact Nat.max_le.mpr ⟨nbL rfl,vu t b x y ws⟩
theorem kY(t b x y:Int):∀ws:List Wl,G8 (ws.map (rwP t b x y)) (ws.map (rwP t b x y))=true
 |[]=>by simp[G8]
 |w::ws=>by rw[EW,G8,oj,kY t b x y ws];rfl
theorem xR{a b x y:Int}(h1:-10<=b/\b<=85)(h2:-10<=y/\y<=85):HT.lexLt [a,b] [x,y]=decide (la a b<la x y):=by have h:=Ma.dA (a:=a) (b:=b) (c:=x) (d:=y);rw[Bool.eq_iff_iff,h,decide_eq_true_eq];unfold la;omega
def spB(ws:List Wl)(m s:Int)(j:Nat):Bool:=decide (m*l1 (wAt ws (j:Int))<=s)&&decide (s<m*l2 (wAt ws (j:Int)))
def spK(ws:List Wl)(m s:Int):List Int:=((Fg ws.length).filter (spB ws m s)).map fun j:Nat=>(j:Int)
theorem ff{ws:List Wl}{m s k:Int}(h:k∈spK ws m s):0<=k/\k<ws.length/\m*l1 (wAt ws k)<=s/\s<m*l2 (wAt ws k):=by unfold spK at h;obtain⟨j,hj,rfl⟩:=Fm.mp h;rw[Ge,Gg]at hj;have:=hj.2;unfold spB at this;rw[GF,decide_eq_true_eq,decide_eq_true_eq]at this;exact⟨by omega,by omega,this.1,this.2⟩
theorem Bi(m a b:Int):la (m*a) (m*b)=m*la a b:=by unfold la;grind
theorem over_of{m s a b c d:Int}(hm:0<m)(h1:m*a<=s)(h2:s<m*b)(h3:m*c<=s)(h4:s<m*d):max a c<min b d:=by have e:∀{x y:Int},m*x<=s->s<m*y->x<y:=fun{x y} p q=>Int.lt_of_mul_lt_mul_left (Int.lt_of_le_of_lt p q) (by omega);have:=e h1 h2;have:=e h1 h4;have:=e h3 h2;have:=e h3 h4;omega
theorem ua{ws:List Wl}{fs:List Int}{m s:Int}(hU:∀w∈ws,Un5 w)(hF:PF ws)(hm:0<m)(hs:∀k∈fs,k∈spK ws m s)(hn:fs≠[])(nd:fs.Nodup) :
 ∃t∈fs,(∀w∈fs.map (wAt ws),w=wAt ws t\/(abv (wAt ws t) w=true/\abv w (wAt ws t)=false))/\(fs.filter fun k=>fs.all fun j=>!abv (wAt ws j) (wAt ws k))=[t]:=by
 have sp:=fun k hk=>ff (hs k hk)
 have un:∀k∈fs,Un5 (wAt ws k):=fun k hk=>hU _ (bC (sp k hk).1 (sp k hk).2.1).2.2
 have fr:∀k∈fs,∀j∈fs,k≠j->Fair (wAt ws k) (wAt ws j):=fun k hk j hj ne=>by
  have a:=sp k hk
  have b:=sp j hj
  exact hF k.toNat j.toNat _ _ (by omega) (bC a.1 a.2.1).1 (bC b.1 b.2.1).1
 have ov:∀k∈fs,∀j∈fs,max (l1 (wAt ws k)) (l1 (wAt ws j))<min (l2 (wAt ws k)) (l2 (wAt ws j)):=fun k hk j hj=>
  over_of hm (sp k hk).2.2.1 (sp k hk).2.2.2 (sp j hj).2.2.1 (sp j hj).2.2.2
 have tot:∀k∈fs,∀j∈fs,k≠j->abv (wAt ws j) (wAt ws k)=!abv (wAt ws k) (wAt ws j):=fun k hk j hj ne=>wz (un k hk) (un j hj) (fr k hk j hj ne) (ov k hk j hj)
 obtain⟨t,ht,top⟩:=xf (R:=fun k j=>abv (wAt ws k) (wAt ws j)) fs hn tot (fun k hk j hj i hi a b c p q=>sQ (un k hk) (un j hj) (un i hi) (fr k hk j hj a) (fr j hj i hi b) (fr k hk i hi c) (ov k hk j hj) (ov j hj i hi) (ov k hk i hi) p q)
 refine⟨t,ht,fun w hw=>?_,pZ nd ht fun k hk=>?_⟩
 ·obtain⟨k,hk,rfl⟩:=Fm.mp hw
  by_cases e:k=t
  ·exact .inl (by rw[e])
  ·have a:=(top k hk).resolve_left e
   have b:=tot t ht k hk (fun z=>e z.symm)
   rw[a]at b
   exact .inr ⟨a,b⟩
 ·rw[Hj]
  constructor
  ·intro h
   by_cases e:k=t
   ·exact e
   ·have a:=(top k hk).resolve_left e
    have:=h t ht
    rw[a]at this
    cases this
  ·rintro rfl j hj
   by_cases e:j=k
   ·rw[e,vF (un k hk)];rfl
   ·have a:=(top j hj).resolve_left e
    have b:=tot k hk j hj (fun z=>e z.symm)
    rw[b,a];rfl
section
variable{X:Cx}{pins:List (Addr×Obj)}{σ:L2.St}{H:Hp}{s:E3}
theorem jL{h':Heap}{t':Nat}{e it:Addr}(I:Inv X pins σ H s)(k:∀b o,b≠e->b≠it->s.heap.get? b=some o->h'.get? b=some o)(fe:cf X pins H e)(fi:cf X pins H it):Inv X pins σ H { s with heap:=h',toks:=t' }:=by
 obtain⟨e0,e1,_,e3,e4,e5⟩:=fe;obtain⟨i0,i1,_,i3,i4,i5⟩:=fi;have ne:∀b u,H b=some u->b≠e/\b≠it:=fun b u q=>⟨fun z=>(by rw[z,e0]at q;cases q),fun z=>(by rw[z,i0]at q;cases q)⟩;have nc:∀{b:Addr},b∉[e,it]->b≠e/\b≠it:=fun{b} hc=>⟨fun z=>hc (by simp[z]),fun z=>hc (by simp[z])⟩;refine I.step (g':=s.gens) (d':=s.drawn) (ch:=[e,it]) (fun b hb=>?_) (fun b o _ _ hc q _=>k b o (nc hc).1 (nc hc).2 q) (fun b o _ _ hc q _=>⟨o.slots,k b o (nc hc).1 (nc hc).2 q⟩) (fun _ _ _ _ n=>n) (fun b o hc q=>⟨o,k b o (nc hc).1 (nc hc).2 q⟩) (fun _ _ q=>q) (fun _ _ _ q=>q) (fun b ps q=>⟨#[],by rw[q];simp⟩) (fun m hm=>?_) (fun b u q=>?_) I.bare
 ·rcases(show b=e\/b=it by simpa using hb)with rfl|rfl
  ·exact⟨e3,e1,e4,e5⟩
  ·exact⟨i3,i1,i4,i5⟩
 ·obtain⟨o,es,ep,ho,r⟩:=hm;exact⟨o,es,ep,k _ o (Ne.symm e1) (Ne.symm i1) ho,r⟩
 ·refine(I.hok b u q).fW (fun c v hc z=>?_) (fun _ z=>z) fun _ _ z=>z;rcases hc with y|y
  ·subst y;exact k _ v (ne _ u q).1 (ne _ u q).2 z
  ·exact k c v (ne c _ y).1 (ne c _ y).2 z
end
theorem gu:G5 "enumerate"=some (.type "enumerate"):=by decide +kernel
theorem pj{U V:Wl}(hU:l1 U<l2 U)(hV:l1 V<l2 V)(F:Fair U V)(z1:sd1 U V=0)(z2:sd2 U V=0):¬max (l1 U) (l1 V)<min (l2 U) (l2 V):=by
 intro ap;rw[fR]at ap;obtain⟨o1,o2,o3,o4⟩:=ap;have i3:=sM V U;have i4:=rY V U;rw[z1,z2]at i3 i4;have f1:=F.e1.nz;have f2:=F.e2.nz;have f3:=F.e3.nz;have f4:=F.e4.nz;have ne:=F.ne
 have c0:sd1 V U=0:=by
  have:sd1 V U*(l2 U-l1 U)=0:=by rw[i3];simp
  rcases He.mp this with q|q
  ·exact q
  ·omega
 have d0:sd2 V U=0:=by
  have:sd2 V U*(l2 U-l1 U)=0:=by rw[i4];simp
  rcases He.mp this with q|q
  ·exact q
  ·omega
 rcases FJ (l1 U) (l1 V)with h|h|h
 ·exact f1 h o3 z1
 ·rcases FJ (l2 U) (l2 V)with h'|h'|h'
  ·exact f4 (by omega) h' d0
  ·exact ne ⟨h,h'⟩
  ·exact f2 (by omega) h' z2
 ·exact f3 h o2 c0
end SD
namespace HT
open PySem PyProof.Rows
section
open PySem.SeqAt
open PySem.AutoSeq1 (wpAny_loadPart')
open PySem.MeetsSeq PySem.MeetsSeq2 PySem.MeetsSeq3
theorem kq(l:Addr)(items:Array E1)(n:Nat)(dd:Option Addr)(sl:Array (Option E1))(x:E1)(j:Nat)(hj:j<items.size) :
 Meets (GQ.«tuple.index» ⟨[.ref l,x],[]⟩) fun A R s=>s.heap.get? l=some { cls:=.type "tuple",dict:=dd,data:=.seq items n,slots:=sl }/\(∀(i:Nat) (hi:i<items.size),i<=j->EqAt A.in1 s items[i] x (decide (i=j)))/\R (.ok (.ret (.int (j:Int) s.toks))) { s with toks:=s.toks+1 }:=
 .of_wp fun prog w A R s h=>by
  obtain⟨hp,g,d,tk,os⟩:=s;obtain⟨hl,heq,h⟩:=h
  unfold GQ.«tuple.index»
  simp only[Std.Legacy.Range.forIn_eq_forIn_range']
  wp_walk using FF hl,wpAny_forIn_list _ (fun rest b s'=>b=(none,())/\s'=⟨hp,g,d,tk,os⟩/\∃m,m<=j/\rest=List.range' m (items.size-m) 1) _
  case turn=>
   rintro a rest b s' ⟨rfl,rfl,m,hm,hr⟩
   have hs:items.size-m=(items.size-m-1)+1:=by omega
   rw[hs,List.range'_succ]at hr
   injection hr with h1 h2
   subst h1 h2
   have hms:a<items.size:=by omega
   rw[Fd hms]
   refine cc (heq a hms hm prog w _ _ ?_)
   by_cases e1:a=j
   ·subst e1
    rw[decide_eq_true rfl]
    wp_walk
    exact⟨_,rfl,h⟩
   ·rw[decide_eq_false e1]
    wp_walk
    exact⟨rfl,rfl,a+1,by omega,by rw[show items.size-a-1=items.size-(a+1) by omega]⟩
  case fin=>
   rintro b s' ⟨rfl,rfl,m,hm,hr⟩
   have hs:items.size-m=(items.size-m-1)+1:=by omega
   rw[hs,List.range'_succ]at hr
   cases hr
  exact⟨rfl,rfl,0,by omega,by simp[Std.Legacy.Range.size]⟩
end
end HT
namespace SD
open PySem PySem.Spec PyProof.Rows L2
section
variable{X:Cx}
def DX(to:TD)(t:TAD):TD:=fun δ M Q=>to δ M fun x M1=>∃ys,x=.tup ys/\t δ M1 fun ds M2=>∃d p,∃j:Nat,ds=[d]/\j<ys.length/\Pd M2 d p/\GD p=true/\
 (∀(i:Nat) (y:D),i<=j->ys[i]?=some y->∃q,Pd M2 y q/\Iq q=true/\FG q p=decide (i=j))/\Q (.int (j:Int)) M2
def D7(K:E2):V->List V->Hp->VK->Prop:=fun x vs H Q=>∃a ys M v d p,∃j:Nat,x=.ref a/\vs=[v]/\Abs K H M/\Rep K H (.tup ys) x/\Rep K H d v/\j<ys.length/\Pd M d p/\GD p=true/\
 (∀(i:Nat) (y:D),i<=j->ys[i]?=some y->∃q,Pd M y q/\Iq q=true/\FG q p=decide (i=j))/\Q (.int (j:Int)) H
theorem A3(hu:X.A.units+66<G0):MtM X "tuple.index" (D7 X.K):=by
 intro pins s σ H x vs v us Q I rx rv z0;obtain⟨a,ys,M,v1,d,p,j,ex,ev,hM,hx,hd,hj,pd,hsh,hall,q⟩:=z0;subst ex ev;cases rx;obtain⟨u1,rfl,r1⟩:=rv.one;rw[Rep]at hx;obtain⟨a',xs,ea,hq,rs⟩:=hx;cases ea;obtain⟨its,rvs,⟨o,h1,h2,n,h3⟩,hz⟩:=I.tuple hq;obtain⟨as,q1⟩:=aV I hM pd hd r1;have hlen:its.length=ys.length:=by rw[<-rvs.length,rs.length]
 obtain⟨oc,od,odt,osl⟩:=o;cases h2;cases h3;refine call_meets PySem.F.slot_tuple_index ⟨_,h1,rfl⟩ PySem.F.entry_tuple_index (PySem.F.args_tuple_index_2 _ _) (HT.kq a its.toArray n od osl u1 j (by simpa[hlen]using hj)) ⟨h1,fun i hi hij=>?_,?_⟩
 ·have hi':i<ys.length:=by simpa[hlen]using hi
  obtain⟨pq,g1,g2,g3⟩:=hall i ys[i] hij (E7 hi');obtain⟨x1,e1,rx1⟩:=rs.get (E7 hi');obtain⟨u2,e2,ru2⟩:=rvs.get e1;obtain⟨bs,q2⟩:=aV I hM g1 rx1 ru2
  have e3:its.toArray[i]=u2:=by
   have:=F0.mp e2
   obtain⟨_,e⟩:=this
   simpa using e
  rw[e3,<-g3];have hm:min pq.depth p.depth<=63+1:=Gp (Nat.min_le_right _ _) (SeqAt.depth_of_shaped hsh);exact PySem.SeqAt.eqAt_reads _ _ _ _ _ _ _ _ q2 q1 g2 (Ha hsh) (by show X.A.units+1+_<G0;omega)
 ·exact⟨.int _,H,I.tok _,⟨_,rfl⟩,q⟩
theorem BG{o e1:Expr}{to:TE}{t:TA}{apos cpos:Pos}(hu:X.A.units+66<G0)(ho:PE X o to)(ha:PA X [e1] t)
 (hbase:Ik o "index" X.env (eval o X.env)=eval o X.env)
 (hfew:((GK cpos (Fc [e1] X.env)).all (fun x=>!x.1)&&(backToKw cpos (HE [] X.env)).all (fun x=>x.1.isSome)
  && decide ([e1].length+([]:List Iw).length+(if([]:List Iw).isEmpty then 0 else 1)<30))=true)
 (hline:(apos.endLine==cpos.line)=true) (hs:Fc [e1] X.env=(false,eval e1 X.env)::Fc [] X.env) (hplain:(GK cpos (Fc [] X.env)).any (·.1)=false) :
 PE X (.Call (.Attribute o "index" apos) [e1] [] cpos) (fun σ H Q=>to σ H fun x H1=>(∃p xs,x=.ref p/\SqT X.K H1 p xs)/\t σ H1 fun vs H2=>D7 X.K x vs H2 Q):=by
 intro pins s σ H Q I h
 refine wpAny_Call_method_late hbase hfew hline rfl (thn (ho pins s σ H _ I h) fun v s1 zz1_0=>?_)
 obtain⟨x,H1,I1,r1,⟨p,xs,ex,hq⟩,q1⟩:=zz1_0
 subst ex
 cases r1
 obtain⟨its,_,⟨ob,g1,g2,_⟩,_⟩:=I1.tuple hq
 obtain⟨o2,g3,g4⟩:=I1.BV hq
 refine⟨"tuple","tuple.index",PySem.F.plainAttrs_tuple,PySem.F.slot_tuple_index,PySem.F.type_tuple_index,⟨ob,g1,g2⟩,fun a e=>by cases e;exact⟨o2,g3,g4⟩,?_⟩
 have hA:=ha cpos pins s1 σ H1 _ I1 q1
 rw[hs]at hA ⊢
 refine Calls.callWith_builtin (by show(false||(GK cpos (Fc [] X.env)).any (·.1))=false;rw[hplain]<;>rfl) (Calls.evalArgs_plain ?_)
 exact thn hA fun us s2 zz2_0=>by obtain⟨vs,H2,I2,r2,q2⟩:=zz2_0;exact(A3 hu pins s2 σ H2 (.ref p) vs (.ref p) us Q I2 rfl r2 q2)
variable{o e1:Expr}{to:TD}{t:TAD}{apos cpos:Pos}
theorem j7(hu:X.A.units+66<G0)(ho:DE X o to)(ha:DA X [e1] t)
 (hbase:Ik o "index" X.env (eval o X.env)=eval o X.env:=by rfl)
 (hfew:((GK cpos (Fc [e1] X.env)).all (fun x=>!x.1)&&(backToKw cpos (HE [] X.env)).all (fun x=>x.1.isSome)
  && decide ([e1].length+([]:List Iw).length+(if([]:List Iw).isEmpty then 0 else 1)<30))=true:=by rfl)
 (hline:(apos.endLine==cpos.line)=true:=by rfl) (hs:Fc [e1] X.env=(false,eval e1 X.env)::Fc [] X.env:=by rfl) (hplain:(GK cpos (Fc [] X.env)).any (·.1)=false:=by rfl) :
 DE X (.Call (.Attribute o "index" apos) [e1] [] cpos) (DX to t):=
 aP (BG hu ho ha hbase hfew hline hs hplain) fun σ H Q ⟨δ,M,R,hsl,hM,q,fin⟩=>by
  refine⟨δ,M,_,hsl,hM,q,fun x M1 v H1 g1 r1 a1 zz3_0=>?_⟩
  obtain⟨ys,ex,q1⟩:=zz3_0
  subst ex
  have r1':=r1
  rw[Rep]at r1
  obtain⟨a,xs,rfl,hq,rs⟩:=r1
  refine⟨⟨a,xs,rfl,hq⟩,δ,M1,_,hsl.mono g1,a1,q1,fun ds M2 us H2 g2 r2 a2 zz4_0=>?_⟩
  obtain⟨d,p,j,ed,hj,pd,hsh,hall,q2⟩:=zz4_0
  subst ed
  obtain⟨u1,rfl,ru1⟩:=bL r2
  exact⟨a,ys,M2,u1,d,p,j,rfl,rfl,a2,r1'.mono g2,ru1,hj,pd,hsh,hall,fin _ _ _ _ (g1.trans g2) (by rw[Rep]) a2 q2⟩
def DM(te:TD):TTD:=fun δ M Q=>te δ M fun x M1=>∃l xs,x=.ref l/\M1 l=some (.lst xs)/\Q (!xs.isEmpty) M1
theorem A9{e:Expr}{te:TD}(he:DE X e te)(hw:∀whole,isTrue e X.env whole=(do let v <-whole;standAt e.pos;holding [v] (truthy v)):=by intro _;rfl):DT X e (DM te):=
 jP (wK he hw) fun σ H Q ⟨δ,M,R,hs,hM,q,fin⟩=>⟨δ,M,_,hs,hM,q,fun x M1 v H1 g1 r1 a1 ⟨l,xs,ex,hl,q1⟩=>by
  subst ex
  rw[Rep]at r1;subst r1
  obtain⟨ys,hy,ry⟩:=a1 _ _ hl
  refine⟨_,.inl ⟨ys,SqL.of hy,rfl⟩,?_⟩
  have e:ys.isEmpty=xs.isEmpty:=by
   have:=ry.length
   cases xs<;>cases ys<;>simp at this ⊢
  rw[e]
  exact fin _ _ _ g1 a1 q1⟩
end
open PySem PySem.W PySem.Spec PySem.Calls PyProof.Rows Builtin Builtin.ObjectAttr Builtin.Getset_descriptor
section
variable{P:F8}{w:Fy}{K:E2}{mg:Str->Option E1}{base:Heap}{N:List Str}{qual:Str}{scope:HN}{f:Addr}{cd:E1}{A:FK}{outer:List Env}{s:E3}{H:Hp}{E:XK}
end
def two(elt t1 i1 t2 i2:Expr)(scope:HN)(pos:Pos):Expr:=.ListComp elt [⟨t1,i1,[],0⟩,⟨t2,i2,[],0⟩] scope pos
theorem Cf(elt t1 i1 t2 i2:Expr)(scope:HN)(pos:Pos)(it acc:E1)(env:Env):compTurn (two elt t1 i1 t2 i2 scope pos) 0 it acc env=(do
 standAt i1.pos
 match <-HP it with
 |none=>pure (.done .next)
 |some v=>
  Hd t1 it v
  Io t1 env v
  let x <-eval i2 env
  standAt i2.pos
  let x <-FD i2 env x
  let _ <-runOwn (.compStart (two elt t1 i1 t2 i2 scope pos) 1 (<-holding [x] (pyIter x)) acc env) env
  again (.compLoop (two elt t1 i1 t2 i2 scope pos) 0 it acc env)):=by rfl
theorem Dz(elt t1 i1 t2 i2:Expr)(scope:HN)(pos:Pos)(it acc:E1)(env:Env):compTurn (two elt t1 i1 t2 i2 scope pos) 1 it acc env=(do
 standAt i2.pos
 match <-HP it with
 |none=>pure (.done .next)
 |some v=>
  Hd t2 it v
  Io t2 env v
  (do let _ <-call (.builtin "list.append") [acc,<-eval elt env])
  again (.compLoop (two elt t1 i1 t2 i2 scope pos) 1 it acc env)):=by rfl
section
variable{prog:F8}{w:Fy}{A:FK}{R:Result->E3->Prop}{s:E3}{elt t1 i1 t2 i2:Expr}{scope:HN}{pos:Pos}{it acc:E1}{env:Env}
theorem BX(h0:Hh (F6 prog w) A (.compLoop (two elt t1 i1 t2 i2 scope pos) 1 it acc env) R s)
 (h:EX (F6 prog w) A (pyIter it) (fun it' s'=>Hh (F6 prog w) A (.compLoop (two elt t1 i1 t2 i2 scope pos) 1 it' acc env) R s') (notedBy (F6 prog w) A env fun x s'=>R (.error x) s') s) :
 Hh (F6 prog w) A (.compStart (two elt t1 i1 t2 i2 scope pos) 1 it acc env) R s:=by
 refine codeAny_of_tree ?_
 show EX _ _ ((compStart (two elt t1 i1 t2 i2 scope pos) 1 it acc env).onRaise (fun x=>do noteFrame x env;standAt theWindowsPlace)) _ _ s
 refine wpAny_notedAt ?_
 unfold compStart
 show EX _ _ (ask >>= _) _ _ s
 refine cc (wpAny_askSetting (wpAny_ite ?_))
 split
 ·first
   |exact cc (E4 (E4 (And.intro rfl h0)))
   |exact E4 (And.intro rfl h0)
 ·refine cc (wpAny_rule ?_)
  show EX _ _ (standAt i2.pos >>= _) _ _ s
  exact cc (GL (cc (F7 h (fun it' s' h'=>E4 (And.intro rfl h')) fun _ _ x=>x)))
theorem DD(J:Nat->E3->Prop)
 (step:∀n s,J n s->EX (F6 prog w) A (HP it) (fun r s1=>match r with
  |none=>R (.ok .next) s1
  |some v=>EX (F6 prog w) A (Hd t2 it v) (fun _ s2=>EX (F6 prog w) A (Io t2 env v) (fun _ s3=>
   EX (F6 prog w) A (eval elt env) (fun x s5=>EX (F6 prog w) A (call (.builtin "list.append") [acc,x]) (fun _ s6=>∃m,m<n/\J m s6) NoE s5) NoE s3) NoE s2) NoE s1) NoE s)
 (n:Nat) (h:J n s):Hh (F6 prog w) A (.compLoop (two elt t1 i1 t2 i2 scope pos) 1 it acc env) R s:=by
 have no:∀{E:E1->E3->Prop} e s',NoE e s'->E e s':=fun _ _ z=>z.elim
 refine codeAny_loop rfl J (fun n s hJ=>?_) n h
 show EX _ _ (Sem.onRaise (compTurn (two elt t1 i1 t2 i2 scope pos) 1 it acc env) (fun x=>do noteFrame x env;theTreesLotGoes x)) _ _ s
 refine wpAny_noted ?_
 rw[Dz]
 refine cc (GL (cc (F7 (step n s hJ) (fun r s1 h1=>?_) no)))
 cases r with
 |none=>exact E4 h1
 |some v=>
  refine cc (F7 h1 (fun _ s2 h2=>cc (F7 h2 (fun _ s3 h3=>?_) no)) no)
  exact cc (cc (F7 h3 (fun x s5 h5=>cc (F7 h5 (fun _ s6 h6=>E4 (E4 ⟨rfl,h6⟩)) no)) no))
theorem CP(J:Nat->E3->Prop)(hfs:∀x,FD i2 env x=pure x)
 (step:∀n s,J n s->EX (F6 prog w) A (HP it) (fun r s1=>match r with
  |none=>R (.ok .next) s1
  |some v=>EX (F6 prog w) A (Hd t1 it v) (fun _ s2=>EX (F6 prog w) A (Io t1 env v) (fun _ s3=>
   EX (F6 prog w) A (eval i2 env) (fun x s4=>EX (F6 prog w) A (pyIter x) (fun it2 s5=>Hh (F6 prog w) A (.compStart (two elt t1 i1 t2 i2 scope pos) 1 it2 acc env) (fun r s6=>match r with
    |.ok _=>∃m,m<n/\J m s6
    |.error e=>False) s5) NoE s4) NoE s3) NoE s2) NoE s1) NoE s)
 (n:Nat) (h:J n s):Hh (F6 prog w) A (.compLoop (two elt t1 i1 t2 i2 scope pos) 0 it acc env) R s:=by
 have no:∀{E:E1->E3->Prop} e s',NoE e s'->E e s':=fun _ _ z=>z.elim
 refine codeAny_loop rfl J (fun n s hJ=>?_) n h
 show EX _ _ (Sem.onRaise (compTurn (two elt t1 i1 t2 i2 scope pos) 0 it acc env) (fun x=>do noteFrame x env;theTreesLotGoes x)) _ _ s
 refine wpAny_noted ?_
 rw[Cf]
 refine cc (GL (cc (F7 (step n s hJ) (fun r s1 h1=>?_) no)))
 cases r with
 |none=>exact E4 h1
 |some v=>
  refine cc (F7 h1 (fun _ s2 h2=>cc (F7 h2 (fun _ s3 h3=>cc (F7 h3 (fun x s4 h4=>?_) no)) no)) no)
  refine cc (GL ?_)
  rw[hfs]
  refine cc (E4 ?_)
  refine cc (FX (F7 h4 (fun it2 s5 h5=>?_) no))
  refine cc (wpAny_runOwn (Ic h5 (fun r s6 h6=>?_)))
  cases r with
  |ok f=>exact E4 ⟨rfl,h6⟩
  |error e=>exact h6.elim
end
def D0(js:List Nat)(wi2:TI)(te:TE)(σ:L2.St)(J:It)(H1:Hp)(Q:VK):Prop:=∀D,H1 D=none->∃W:Nat->Nat->Hp->Prop,(∃m,W 0 m (upd H1 D (.lst [])))/\∀i m H,W i m H->
 (J.stop i H/\Q (.ref D) H)\/(J.go i H/\∀y H',J.yld i H y H'->∀o,wi2 (cσ [some y,o] js σ) H' fun J2 H2=>∃U:Nat->Nat->Hp->Prop,(∃n,U 0 n H2)/\∀j n H3,U j n H3->
  (J2.stop j H3/\∃m',m'<m/\W (i+1) m' H3)\/(J2.go j H3/\∀z H4,J2.yld j H3 z H4->te (cσ [some y,some z] js σ) H4 fun v H5=>∃xs,H5 D=some (.lst xs)/\xs.length<Fb/\∃n',n'<n/\U (j+1) n' (upd H5 D (.lst (xs++[v])))))
def zC(js:List Nat)(wi wi2:TI)(te:TE):TE:=fun σ H Q=>wi σ H fun J H1=>D0 js wi2 te σ J H1 Q
section
variable{X:Cx}{x y:Str}{px py pos:Pos}{js:List Nat}{scope:HN}{elt i1 i2:Expr}{te:TE}{wi wi2:TI}{pins:List (Addr×Obj)}{σ:L2.St}{H:Hp}{s:E3}{fp:List Addr}{it:Addr}{tn:Nat->Heap->Prop}{J:It}
theorem xT(c:CScope X [x,y] js scope)(hc:X.calm=true)(hi2:∀C s H fp,PI (cxC X [x,y] js scope C s H fp) (.Name y py) i2 wi2)(hfs:∀(env:Env) x,FD i2 env x=pure x)(he:∀C s H fp,PE (cxC X [x,y] js scope C s H fp) elt te)
 {R:E1->Addr->Result->E3->Prop} {E:E1->E3->Prop} {Q:VK}
 (I:Inv X pins σ H s) (T:Turn X.prog X.w X.K (.Name x px) J fp it tn) (st:tn 0 s.heap) (hf:∀b∈fp,cf X pins H b) (wc:D0 js wi2 te σ J H Q)
 (hR:∀D C H' s',Inv X pins σ H' s'->cf X pins H' C->(∃m,s'.heap.Ns C m)->Q (.ref D) H'->R (.ref D) C (.ok .next) s') :
 EX (F6 X.prog X.w) X.A (newList []) (fun acc s₃=>EX (F6 X.prog X.w) X.A (newFunctionEnv scope X.env.globals (dC scope.names X.env) [] X.env.qual none .none (some X.env)) (fun cenv s₄=>
  Hh (F6 X.prog X.w) X.A (.compStart (two elt (.Name x px) i1 (.Name y py) i2 scope pos) 0 (.ref it) acc { cenv with scope:=relabel scope X.env }) (R acc cenv.locals) s₄) E s₃) E s:=by
 have hg1:∀C s H fp,PG (cxC X [x,y] js scope C s H fp) (.Name x px) (d3 0):=fun _ _ _ _=>fU c 0 rfl
 have hg2:∀C s H fp,PG (cxC X [x,y] js scope C s H fp) (.Name y py) (d3 1):=fun _ _ _ _=>fU c 1 rfl
 have hfp:∀b∈fp,b<s.heap.objs.size:=fun b hb=>let⟨o,e,_⟩:=T.obj 0 _ st b hb;F9 e
 have hD:H s.heap.objs.size=none:=I.hok.fresh (E8 _)
 refine FR (lZ ?_)
 generalize hh:s.heap.push { cls:=.type "list",dict:=none,data:=.seq ([]:List E1).toArray }=h3
 generalize hh1:pushCells (({ s with heap:=h3 }:E3).heap.push { cls:=.type "dict",data:=.dict #[] }) scope.names=h₁
 have k3:∀b o,s.heap.get? b=some o->h3.get? b=some o:=fun b o e=>by rw[<-hh];exact E5 _ e
 have I3:Inv X pins σ (upd H s.heap.objs.size (.lst [])) { s with heap:=h3 }:=by
  refine I.laid (t':=s.toks) k3 (E8 _) ?_
  refine⟨FQ _,[],0,.nil,?_⟩
  rw[<-hh]
  exact EY _ rfl
 have hf3:∀b∈fp,cf X pins (upd H s.heap.objs.size (.lst [])) b:=fun b hb=>⟨by rw[aK (Fs (hfp b hb))];exact(hf b hb).1,(hf b hb).2⟩
 have hsz:h3.objs.size=s.heap.objs.size+1:=by rw[<-hh,Gj]
 have hfp3:∀b∈fp,b<h3.objs.size:=fun b hb=>by rw[hsz];exact Hq (hfp b hb)
 have k4:∀b o,h3.get? b=some o->h₁.get? b=some o:=fun b o e=>by rw[<-hh1];exact pushCells_keeps _ _ b o (E5 _ e)
 have I4:=jT c I3 hf3 hfp3 (h':=h₁) hh1.symm k4
 obtain⟨W,⟨m0,w0⟩,turn⟩:=wc _ hD
 have st4:tn 0 h₁:=T.keep 0 _ _ st fun b hb o e=>k4 b o (k3 b o e)
 generalize hX:cxC X [x,y] js scope h3.objs.size { s with heap:=h3 } (upd H s.heap.objs.size (.lst [])) fp=X' at I4
 have fok:∀{pins':List (Addr×Obj)} {H':Hp} {σ':L2.St} {s':E3},Inv X' [] σ' H' s'->(∀b∈fp,H' b=none)->∀b∈fp,cf X' [] H' b:=fun{pins' H' σ' s'} J' hn b hb=>by
  subst hX
  obtain⟨a1,a2⟩:=J'.ok.exf b hb
  exact⟨hn b hb,a1,J'.ok.exfs b hb,.inl hb,a2,fun p hp=>absurd (show p∈([]:List (Addr×Obj))from hp) (by simp)⟩
 have loop:Hh (F6 X.prog X.w) X.A (.compLoop (two elt (.Name x px) i1 (.Name y py) i2 scope pos) 0 (.ref it) (.ref s.heap.objs.size) (iD scope h3.objs.size X.env)) (R (.ref s.heap.objs.size) h3.objs.size)
  { s with heap:=h₁ }:=by
  refine CP (fun n s'=>∃i os H',os.length=2/\Inv X' [] (cσ os js σ) H' s'/\tn i s'.heap/\(∀b∈fp,H' b=none)/\W i n H') (fun x=>hfs _ x) ?_ m0 ⟨0,_,_,by simp,I4,st4,fun b hb=>(hf3 b hb).1,w0⟩
  rintro n s5 ⟨i,os,H5,hl5,I5,st5,fr5,w5⟩
  rcases turn i n H5 w5 with⟨stop,q⟩|⟨go,step⟩
  ·subst hX
   refine F7 (T.done (cxC X [x,y] js scope h3.objs.size { s with heap:=h3 } (upd H s.heap.objs.size (.lst [])) fp) rfl rfl rfl hc i [] s5 _ H5 NoE I5 (fok (pins':=[]) I5 fr5) st5 stop) (fun r s6 z6=>?_) fun _ _ z=>z
   obtain⟨hr,I6⟩:=z6
   subst hr
   refine hR _ _ H5 s6 (I3.vP I6.os I6.base I6.hok I6.bare fun b hb=>⟨(hf3 b hb).2.2.2.1,(hf3 b hb).2.1,(hf3 b hb).2.2.2.2.1,(hf3 b hb).2.2.2.2.2⟩) (I3.qg (E8 _) I6.free) (let⟨m,hm,_⟩:=I6.loc;⟨m,hm⟩) q
  ·subst hX
   refine F7 (T.item (cxC X [x,y] js scope h3.objs.size { s with heap:=h3 } (upd H s.heap.objs.size (.lst [])) fp) rfl rfl rfl hc i [] s5 _ H5 NoE I5 (fok (pins':=[]) I5 fr5) st5 go) (fun r s6 z6=>?_) fun _ _ z=>z
   obtain⟨u,hr,h6⟩:=z6
   subst hr
   refine F7 h6 (fun _ s7 z7=>?_) fun _ _ z=>z
   obtain⟨yv,H7,I7,r7,y7,st7,fr7⟩:=z7
   have I7':=I7.pinned (fok (pins':=[]) I7 fr7) (T.obj _ _ st7)
   obtain⟨o0,o1,rfl⟩:∃o0 o1,os=[o0,o1]:=by
    exact xI hl5
   refine F7 (hg1 _ _ _ _ _ s7 _ H7 yv u (fun σ' H'=>σ'=cσ [some yv,o1] js σ/\H'=H7) I7' r7 ⟨rfl,rfl⟩) (fun _ s8 zz1_0=>?_) fun _ _ z=>z
   obtain⟨σ8,H8,I8,e8,e8'⟩:=zz1_0
   subst e8 e8'
   have back:∀{m':Nat} {o2:Option V} {H10:Hp} {s10:E3},Inv (cxC X [x,y] js scope h3.objs.size { s with heap:=h3 } (upd H s.heap.objs.size (.lst [])) fp) ([]++eE fp s7.heap) (cσ [some yv,o2] js σ) H10 s10->m'<n->W (i+1) m' H10->
    ∃m,m<n/\∃i os H',os.length=2/\Inv (cxC X [x,y] js scope h3.objs.size { s with heap:=h3 } (upd H s.heap.objs.size (.lst [])) fp) [] (cσ os js σ) H' s10/\tn i s10.heap/\(∀b∈fp,H' b=none)/\W i m H':=fun{m' o2 H10 s10} I10 hm' w10=>by
    refine⟨m',hm',i+1,_,H10,rfl,I10.cY,T.keep _ _ _ st7 fun b hb o e=>(I10.pin (b,o) (Ff _ (Ff _ (ba hb e)))).1,fun b hb=>?_,w10⟩
    obtain⟨o',e,d⟩:=T.obj _ _ st7 b hb
    exact(I10.pin (b,o') (Ff _ (Ff _ (ba hb e)))).2.1
   refine F7 (hi2 _ _ _ _ _ s8 _ _ _ I8 (step yv H8 y7 o1)) (fun v2 s9 h9=>F7 h9 (fun itv s10 z10=>?_) fun _ _ z=>z) fun _ _ z=>z
   obtain⟨it2,fp2,tn2,J2,H10,e10,I10,T2,st10,f10,U,⟨n0,u0⟩,turn2⟩:=z10
   subst e10
   have loop2:Hh (F6 X.prog X.w) X.A (.compLoop (two elt (.Name x px) i1 (.Name y py) i2 scope pos) 1 (.ref it2) (.ref s.heap.objs.size) (iD scope h3.objs.size X.env)) (fun r s6=>match r with
    |.ok _=>∃m,m<n/\∃i os H',os.length=2/\Inv (cxC X [x,y] js scope h3.objs.size { s with heap:=h3 } (upd H s.heap.objs.size (.lst [])) fp) [] (cσ os js σ) H' s6/\tn i s6.heap/\(∀b∈fp,H' b=none)/\W i m H'
    |.error e=>False) s10:=by
    refine DD (fun n2 s'=>∃j o2 H',Inv (cxC X [x,y] js scope h3.objs.size { s with heap:=h3 } (upd H s.heap.objs.size (.lst [])) fp) ([]++eE fp s7.heap) (cσ [some yv,o2] js σ) H' s'/\tn2 j s'.heap/\(∀b∈fp2,H' b=none)/\U j n2 H') ?_ n0 ⟨0,o1,H10,I10,st10,fun b hb=>(f10 b hb).1,u0⟩
    rintro n2 s11 ⟨j,o2,H11,I11,st11,fr11,u11⟩
    rcases turn2 j n2 H11 u11 with⟨stop2,m',hm',w'⟩|⟨go2,step2⟩
    ·refine F7 (T2.done (cxC X [x,y] js scope h3.objs.size { s with heap:=h3 } (upd H s.heap.objs.size (.lst [])) fp) rfl rfl rfl hc j _ s11 _ H11 NoE I11 (fun b hb=>⟨fr11 b hb,(f10 b hb).2⟩) st11 stop2) (fun r s12 zz2_0=>?_) fun _ _ z=>z
     obtain⟨hr,I12⟩:=zz2_0
     subst hr
     exact back I12 hm' w'
    ·refine F7 (T2.item (cxC X [x,y] js scope h3.objs.size { s with heap:=h3 } (upd H s.heap.objs.size (.lst [])) fp) rfl rfl rfl hc j _ s11 _ H11 NoE I11 (fun b hb=>⟨fr11 b hb,(f10 b hb).2⟩) st11 go2) (fun r s12 zz3_0=>?_) fun _ _ z=>z
     obtain⟨u2,hr,h12⟩:=zz3_0
     subst hr
     refine F7 h12 (fun _ s13 zz4_0=>?_) fun _ _ z=>z
     obtain⟨zv,H13,I13,r13,y13,st13,fr13⟩:=zz4_0
     have I13':=I13.pinned (fun b hb=>⟨fr13 b hb,(f10 b hb).2⟩) (T2.obj _ _ st13)
     refine F7 (hg2 _ _ _ _ _ s13 _ H13 zv u2 (fun σ' H'=>σ'=cσ [some yv,some zv] js σ/\H'=H13) I13' r13 ⟨rfl,rfl⟩) (fun _ s14 zz5_0=>?_) fun _ _ z=>z
     obtain⟨σ14,H14,I14,e14,e14'⟩:=zz5_0
     subst e14 e14'
     refine F7 (he _ _ _ _ _ s14 _ _ _ I14 (step2 zv H14 y13)) (fun v s15 zz6_0=>?_) fun _ _ z=>z
     obtain⟨vv,H15,I15,r15,ys,hd15,hl15,q15⟩:=zz6_0
     refine F7 (gM (X:=(cxC X [x,y] js scope h3.objs.size { s with heap:=h3 } (upd H s.heap.objs.size (.lst [])) fp)) _ s15 _ H15 (.ref s.heap.objs.size) [vv] (.ref s.heap.objs.size) [v] (fun _ H'=>∃n',n'<n2/\U (j+1) n' H') I15 rfl (.cons r15 .nil) ⟨_,ys,vv,rfl,rfl,hd15,hl15,q15⟩) (fun _ s16 zz7_0=>?_) fun _ _ z=>z
     obtain⟨_,H16,I16,_,n',hn',w16⟩:=zz7_0
     refine⟨n',hn',j+1,_,H16,I16.cY,T2.keep _ _ _ st13 fun b hb o e=>(I16.pin (b,o) (Ff _ (Ff _ (ba hb e)))).1,fun b hb=>?_,w16⟩
     obtain⟨o',e,d⟩:=T2.obj _ _ st13 b hb
     exact(I16.pin (b,o') (Ff _ (Ff _ (ba hb e)))).2.1
   exact BX loop2 (T2.self X.A 0 _ _ _ st10 loop2)
 exact codeAny_compStart_list loop (T.self X.A 0 _ _ _ st4 loop)
theorem AL(c:CScope X [x,y] js scope)(hc:X.calm=true)(hi:PI X (.Name x px) i1 wi)(hi2:∀C s H fp,PI (cxC X [x,y] js scope C s H fp) (.Name y py) i2 wi2)(he:∀C s H fp,PE (cxC X [x,y] js scope C s H fp) elt te) (hs:∀x,FD i1 X.env x=pure x:=by intro _;rfl) (hfs:∀(env:Env) x,FD i2 env x=pure x:=by intro _ _;rfl) : PE X (two elt (.Name x px) i1 (.Name y py) i2 scope pos) (zC js wi wi2 te):=by intro pins s σ H Q I h;unfold two;rw[eval_ListComp];refine wpAny_comprehension_free (use:=none) rfl hs (c.xF I.ok) c.kind c.names (thn (hi pins s σ H _ I h) fun v s1 h1=>thn h1 fun itv s2 zz8_0=>?_);obtain⟨it,fp,tn,J,H2,e,I2,T,st,f2,w⟩:=zz8_0;subst e;refine xT (R:=fun acc C=>compPost (F6 X.prog X.w) X.A X.xe none (EP X pins σ Q) acc C) c hc hi2 hfs he I2 T st f2 w fun D C H' s' I' fC zz9_0 q=>?_;obtain⟨m,hm⟩:=zz9_0;exact⟨m,hm,fun h' hsb=>⟨.ref D,H',I'.turned (t':=s'.toks) (fun b o ne e=>hsb.extBut b o ne e) fC.1 fC.2.1 fC.2.2.2.1 fC.2.2.2.2.1 fC.2.2.2.2.2,rfl,q⟩⟩
end
def C9(I:ItD)(js:List Nat)(wd2:TID)(te:TD)(δ:DS)(M1:MH)(Q:DK):Prop:=I.n<=1000/\∀p,M1 p=none->∃W:Nat->List D->MH->Prop,W 0 [] (aw M1 p (.lst []))/\(∀i ys M,i<=I.n->W i ys M->I.C M)/\
 (∀i ys d M,i<I.n->I.item i=some d->W i ys M->wd2 (cδ [some d,none] js δ) M fun I2 M2=>I2.n<=1000/\∃U:Nat->List D->MH->Prop,U 0 ys M2/\(∀j zs M,j<=I2.n->U j zs M->I2.C M)/\
  (∀j zs e M,j<I2.n->I2.item j=some e->U j zs M->te (cδ [some d,some e] js δ) M fun v M'=>∃M3,Sub M3 M'/\M3 p=some (.lst zs)/\U (j+1) (zs++[v]) (aw M3 p (.lst (zs++[v]))))/\∀zs M,U I2.n zs M->W (i+1) zs M)/\∀ys M,W I.n ys M->Q (.ref p) M
def zr(wd:TID)(js:List Nat)(wd2:TID)(te:TD):TD:=fun δ M Q=>wd δ M fun I M1=>C9 I js wd2 te δ M1 Q
theorem p6{K:E2}{H:Hp}{d:D}{v:V}(o:Option V)(r:Rep K H d v):Slots K H [some d,none] [some v,o]:=by
 refine⟨rfl,fun i e h=>?_⟩
 match i,h with
 |0,h=>cases h;exact⟨v,rfl,r⟩
 |1,h=>cases h
theorem qb{K:E2}{H:Hp}{d e:D}{v u:V}(r:Rep K H d v)(q:Rep K H e u):Slots K H [some d,some e] [some v,some u]:=ic (.cons r (.cons q .nil))
theorem vG{K:E2}{wd wd2:TID}{js:List Nat}{te:TD}{σ:L2.St}{H:Hp}{Q:VK}(h:lift K (zr wd js wd2 te) σ H Q):zC js (lO K wd) (lO K wd2) (lift K te) σ H Q:=by
 obtain⟨δ,M,R,hs,hM,q,fin⟩:=h;refine⟨δ,M,_,hs,hM,q,fun I M1 H1 J g1 a1 kc io p hp=>?_⟩;obtain⟨hn,kc⟩:=kc;obtain⟨W,w0,hC,turn,done⟩:=kc p (a1.fresh hp);refine⟨fun i m H2=>m=I.n-i/\i<=I.n/\Grow K H1 H2/\∃ys M,ys.length<=i*1000/\Abs K H2 M/\W i ys M,⟨I.n,by simp,FQ _,.new hp,[],_,FQ _,a1.mi hp .nil,w0⟩,?_⟩;rintro i m H2 ⟨rfl,hi,g2,ys,M2,hl,a2,w2⟩;by_cases hin:i<I.n
 ·refine .inr ⟨io.go i H2 M2 hin g2 a2 (hC _ _ _ hi w2),fun v H3 hy o=>?_⟩;obtain⟨g3,a3,d,ed,rd⟩:=io.yld i H2 M2 v H3 hin g2 a2 (hC _ _ _ hi w2) hy;have q3:=turn i ys d M2 hin ed w2;refine⟨cδ [some d,none] js δ,M2,_,iM (js:=js) (hs.mono ((g1.trans g2).trans g3)) (p6 o rd),a3,q3,fun I2 M4 H4 J2 g4 a4 kc2 io2=>?_⟩;obtain⟨hn2,U,u0,hC2,turn2,done2⟩:=kc2;refine⟨fun j n H5=>n=I2.n-j/\j<=I2.n/\Grow K H4 H5/\∃zs M,zs.length<=i*1000+j/\Abs K H5 M/\U j zs M,⟨I2.n,by simp,FQ _,.refl,ys,M4,by omega,a4,u0⟩,?_⟩;rintro j n H5 ⟨rfl,hj,g5,zs,M5,hl5,a5,w5⟩;by_cases hjn:j<I2.n
  ·refine .inr ⟨io2.go j H5 M5 hjn g5 a5 (hC2 _ _ _ hj w5),fun u H6 hy6=>?_⟩;obtain⟨g6,a6,e,ee,re⟩:=io2.yld j H5 M5 u H6 hjn g5 a5 (hC2 _ _ _ hj w5) hy6;have s6:=iM (js:=js) (hs.mono (((((g1.trans g2).trans g3).trans g4).trans g5).trans g6)) (qb (rd.mono ((g4.trans g5).trans g6)) re);refine⟨cδ [some d,some e] js δ,M5,_,s6,a6,turn2 j zs e M5 hjn ee w5,fun vv M' uu H7 g7 r7 a7 zz10_0=>?_⟩;obtain⟨M8,s8,e8,w8⟩:=zz10_0;obtain⟨ts,hx,rs⟩:=(a7.sub s8) _ _ e8;refine⟨ts,hx,?_,I2.n-(j+1),by omega,rfl,hjn,((g5.trans g6).trans g7).trans (.lst hx),zs++[vv],_,by simp;omega,(a7.sub s8).wW hx (rs.append (.cons r7 .nil)),w8⟩;rw[<-rs.length];have sz:1000000<=Fb:=nbL rfl;omega
  ·obtain rfl:j=I2.n:=by omega
   exact .inl ⟨io2.stop H5 M5 g5 a5 (hC2 _ _ _ hj w5),I.n-(i+1),by omega,rfl,hin,((g2.trans g3).trans g4).trans g5,zs,M5,by omega,a5,done2 _ _ w5⟩
 ·obtain rfl:i=I.n:=by omega
  exact .inl ⟨io.stop H2 M2 g2 a2 (hC _ _ _ hi w2),fin _ _ _ _ (g1.trans g2) (by rw[Rep]) a2 (done ys M2 w2)⟩
section
variable{X:Cx}{x y:Str}{px py pos:Pos}{js:List Nat}{scope:HN}{elt i1 i2:Expr}{te:TD}{wd wd2:TID}
theorem ve(c:CScope X [x,y] js scope)(hc:X.calm=true)(hi:DI X (.Name x px) i1 wd)(hi2:∀C s H fp,DI (cxC X [x,y] js scope C s H fp) (.Name y py) i2 wd2)(he:∀C s H fp,DE (cxC X [x,y] js scope C s H fp) elt te) (hs:∀x,FD i1 X.env x=pure x:=by intro _;rfl) (hfs:∀(env:Env) x,FD i2 env x=pure x:=by intro _ _;rfl) : DE X (.ListComp elt [⟨.Name x px,i1,[],0⟩,⟨.Name y py,i2,[],0⟩] scope pos) (zr wd js wd2 te):=aP (AL (te:=lift X.K te) (wi2:=lO X.K wd2) c hc hi hi2 he hs hfs) fun _ _ _ h=>vG h
end
abbrev SpK:=Int×Int×Int×Int
section
variable{P:F8}{w:Fy}
def qc(P:F8)(w:Fy)(h:Heap)(n d:Int)(a:Addr):Prop:=IsTupleKey (intKind P w) h [n,d] a
def eU(P:F8)(w:Fy)(h:Heap)(k:SpK)(a:Addr):Prop:=∃o b c m,h.get? a=some o/\o.cls=.type "tuple"/\o.data=.seq #[.ref b,.ref c] m/\qc P w h k.1 k.2.1 b/\qc P w h k.2.2.1 k.2.2.2 c
theorem eU.inj{h:Heap}{a:Addr}{x y:SpK}(p:eU P w h x a)(q:eU P w h y a):x=y:=by
 obtain⟨o,b,c,m,h1,h2,h3,h4,h5⟩:=p;obtain⟨o',b',c',m',g1,g2,g3,g4,g5⟩:=q;rw[h1]at g1;cases g1;rw[h3]at g3;injection g3 with e _;have e1:b=b'/\c=c':=by simpa using e
 obtain⟨rfl,rfl⟩:=e1;have i1:=IsTupleKey.inj h4 g4;have i2:=IsTupleKey.inj h5 g5;obtain⟨x1,x2,x3,x4⟩:=x;obtain⟨y1,y2,y3,y4⟩:=y;simp at i1 i2;obtain⟨rfl,rfl⟩:=i1;obtain⟨rfl,rfl⟩:=i2;rfl
theorem eU.keeps{h h':Heap}{k:SpK}{a d:Addr}{o:Obj}{es:Array Gr}{ep:Nat}(p:eU P w h k a)(hd:h.get? d=some o)(he:o.data=.dict es ep)(sb:GO d h h'):eU P w h' k a:=by
 obtain⟨oa,b,c,m,h1,h2,h3,h4,h5⟩:=p;have ne:a≠d:=fun z=>by rw[z,hd]at h1;cases h1;rw[he]at h3;cases h3
 exact⟨oa,b,c,m,(sb.2 a ne).trans h1,h2,h3,IsTupleKey.keeps h4 hd he sb,IsTupleKey.keeps h5 hd he sb⟩
def wR(P:F8)(w:Fy)(k:SpK):Int:=reduceHash (Builtin.Tuple.tupleHashOf [tupleKeyHash (intKind P w) [k.1,k.2.1],tupleKeyHash (intKind P w) [k.2.2.1,k.2.2.2]])
theorem eU.hash{A:FK}{E:E1->E3->Prop}{s:E3}{k:SpK}{a:Addr}{Q:Int->E3->Prop}(hu:A.units+4<G0)(p:eU P w s.heap k a)(q:Q (wR P w k) { s with toks:=s.toks+7 }):EX (F6 P w) A (pyHash (.ref a)) Q E s:=by
 obtain⟨o,b,c,m,h1,h2,h3,h4,h5⟩:=p;obtain⟨hp,g,d,tk,os⟩:=s;show EX _ _ (pyHashByItsType (.ref a)) _ _ _;refine PySem.W.pyHash_slot (T:="tuple") ⟨o,h1,h2⟩ F.slot_tuple_hash F.entry_tuple_hash (F.args_tuple_hash_1 _) rfl (.inr (by omega)) ?_;unfold GQ.«tuple.__hash__»;simp only[<-Array.forIn_toList]
 iterate 4 wp_step
 refine E4 ?_;refine cc (wpAny_tupleItemsOf h1 h3 ?_);refine cc ?_;simp only[HZ,Ip,GG,bind_assoc];refine cc (wpAny_pyHash_tuple (knd:=intKind P w) (by show A.units+1<G0;omega) h4 ?_);refine cc (wpAny_pyHash_tuple (knd:=intKind P w) (by show A.units+1<G0;omega) h5 ?_);refine E4 ?_;unfold retInt
 wp_walk
 exact⟨_,_,rfl,q⟩
theorem cE{n:Int}{v:E1}(h:(intKind P w).is n v=true):∃t,v=.int n t:=by
 have h:Value.isInt n v=true:=h;cases v with
 |int i t=>
  have:(i==n)=true:=h
  exact⟨t,by rw[eq_of_beq this]⟩
 |_=>cases h
def xo(n d:Int):Im:=.tuple [.int n,.int d]
def mr(k:SpK):Im:=.tuple [xo k.1 k.2.1,xo k.2.2.1 k.2.2.2]
theorem qc.reads{h:Heap}{n d:Int}{a:Addr}(p:qc P w h n d a):∃as,Reads h (.ref a) (xo n d) as:=by
 obtain⟨o,items,m,h1,h2,h3,h4⟩:=p;generalize hl:items.toList=l at h4;cases h4 with
 |cons hx r=>
  cases r with
  |cons hy r=>
   cases r
   obtain⟨t1,rfl⟩:=cE hx
   obtain⟨t2,rfl⟩:=cE hy
   exact⟨_,.tuple h1 h2 h3 (by rw[hl];exact .cons (.int _ _) (.cons (.int _ _) .nil))⟩
theorem eU.reads{h:Heap}{k:SpK}{a:Addr}(p:eU P w h k a):∃as,Reads h (.ref a) (mr k) as:=by obtain⟨o,b,c,m,h1,h2,h3,h4,h5⟩:=p;obtain⟨as,r1⟩:=h4.reads;obtain⟨bs,r2⟩:=h5.reads;exact⟨_,.tuple h1 h2 h3 (.cons r1 (.cons r2 .nil))⟩
theorem m7(x y:SpK):(mr x).eqv (mr y)=decide (x=y):=by obtain⟨x1,x2,x3,x4⟩:=x;obtain⟨y1,y2,y3,y4⟩:=y;simp only[mr,xo,FG,G8,Bool.and_true];rw[Bool.eq_iff_iff];simp[and_assoc]
theorem eU.eq{A:FK}{E:E1->E3->Prop}{s:E3}{x y:SpK}{a b:Addr}{Q:Bool->E3->Prop}(hu:A.units+4<G0)(p:eU P w s.heap x a)(p':eU P w s.heap y b)(q:Q (decide (x=y)) s):EX (F6 P w) A (eqBool (.ref a) (.ref b)) Q E s:=by obtain⟨as,r1⟩:=p.reads;obtain⟨bs,r2⟩:=p'.reads;have hd:min (mr x).depth (mr y).depth<=3:=Gp (Nat.min_le_left _ _) (nbL rfl);have:=SeqAt.eqAt_reads (mr x) (mr y) A s (.ref a) (.ref b) as bs r1 r2 rfl rfl (by omega);rw[m7]at this;exact this P w E Q q
theorem qc.quiet{A:FK}{E:E1->E3->Prop}{s:E3}{n d:Int}{a:Addr}{Q:Bool->E3->Prop}(i:Nat)(p:qc P w s.heap n d a)(q:Q true s):EX (F6 P w) A (eqIsQuiet (i+1) (.ref a)) Q E s:=by
 obtain⟨o,items,m,h1,h2,h3,h4⟩:=p;rw[eqIsQuiet.eq_2];refine cc (wpAny_specialOf ⟨o,h1,h2⟩ F.slot_tuple_eq.lookup ?_);refine cc (wpAny_isInstance ⟨o,h1,h2⟩ isSubtype_tuple_tuple ?_);simp only[Gx,F5,if_false];refine cc (GA h1 h3 ?_);simp only[Hk,<-Array.forIn_toList];generalize hl:items.toList=l at h4;cases h4 with
 |cons hx r=>
  cases r with
  |cons hy r=>
   cases r
   obtain⟨t1,rfl⟩:=cE hx
   obtain⟨t2,rfl⟩:=cE hy
   refine cc ?_
   simp only[HZ,Ip,GG,bind_assoc,eqIsQuiet_byValue i (show carriedByValue (.int n t1)=true from rfl),eqIsQuiet_byValue i (show carriedByValue (.int d t2)=true from rfl),Gx,F5,if_false]
   refine E4 ?_
   exact E4 q
theorem eU.quiet{A:FK}{E:E1->E3->Prop}{s:E3}{k:SpK}{a:Addr}{Q:Bool->E3->Prop}(p:eU P w s.heap k a)(q:Q true s):EX (F6 P w) A (eqIsQuiet 8 (.ref a)) Q E s:=by obtain⟨o,b,c,m,h1,h2,h3,h4,h5⟩:=p;rw[eqIsQuiet.eq_2];refine cc (wpAny_specialOf ⟨o,h1,h2⟩ F.slot_tuple_eq.lookup ?_);refine cc (wpAny_isInstance ⟨o,h1,h2⟩ isSubtype_tuple_tuple ?_);simp only[Gx,F5,if_false];refine cc (GA h1 h3 ?_);simp only[Hk,<-Array.forIn_toList];refine cc ?_;simp only[HZ,Ip,GG,bind_assoc];refine cc (h4.quiet 6 ?_);simp only[Gx,F5,if_false,GG];refine cc (h5.quiet 6 ?_);simp only[Gx,F5,if_false,GG];refine E4 ?_;exact E4 q
def cV(P:F8)(w:Fy):HeapKind P w SpK where
 is:=eU P w
 hash:=wR P w
 draws:=fun _=>7
 room:=fun A=>A.units+4<G0
 inj:=fun p q=>p.inj q
 keeps:=fun p hd he sb=>p.keeps hd he sb
 pyHash:=fun hu p q=>p.hash hu q
 eqBool:=fun hu p p' q=>p.eq hu p' q
 quiet:=fun p q=>p.quiet q
end
section
variable{X:Cx}{pins:List (Addr×Obj)}{σ:L2.St}{H:Hp}{s:E3}{a b:Addr}{k:SpK}
def cD(K:E2)(H:Hp)(b:Addr)(k:SpK):Prop:=∃f g,SqT K H b [.ref f,.ref g]/\SqT K H f [.int k.1,.int k.2.1]/\SqT K H g [.int k.2.2.1,.int k.2.2.2]
theorem zO{n d:Int}{f:Addr}(I:L2.Inv X pins σ H s)(h:SqT X.K H f [.int n,.int d]):qc X.prog X.w s.heap n d f:=by
 obtain⟨its,r,ht,_⟩:=I.tuple h;cases r with
 |cons a1 r=>cases r with
  |cons a2 r=>
   cases r
   obtain⟨t1,rfl⟩:=a1
   obtain⟨t2,rfl⟩:=a2
   obtain⟨o,h1,h2,m,h3⟩:=ht
   exact⟨o,_,m,h1,h2,h3,.cons (by show((n==n)=true);simp) (.cons (by show((d==d)=true);simp) .nil)⟩
theorem nD(I:L2.Inv X pins σ H s)(h:cD X.K H b k):eU X.prog X.w s.heap k b:=by
 obtain⟨f,g,h1,h2,h3⟩:=h;obtain⟨its,r,ht,_⟩:=I.tuple h1;cases r with
 |cons a1 r=>cases r with
  |cons a2 r=>
   cases r
   cases a1
   cases a2
   obtain⟨o,q1,q2,m,q3⟩:=ht
   exact⟨o,f,g,m,q1,q2,q3,zO I h2,zO I h3⟩
abbrev SpE:=SpK×Addr×V
def bw(P:F8)(w:Fy)(a:Addr)(xs:List SpE):Heap->Prop:=fun h=>(a==GU)=false/\xs.length<=Fb/\(xs.map (·.1)).Nodup/\∃ys:List (SpK×Addr×E1),
 Iz (fun(p:SpE) (q:SpK×Addr×E1)=>p.1=q.1/\p.2.1=q.2.1/\RelV p.2.2 q.2.2) xs ys/\∃o es ep,h.get? a=some o/\o.ExactDict/\o.data=.dict es ep/\es.toList=ys.map (entryOfKey (cV P w))
def dX(xs:List SpE)(k:SpK)(b:Addr)(v:V):List SpE:=if(xs.any fun x=>decide (x.1=k))=true then xs.map (fun x=>if x.1=k then(x.1,x.2.1,v)else x)else xs++[(k,b,v)]
abbrev PrS:=fun(p:SpE) (q:SpK×Addr×E1)=>p.1=q.1/\p.2.1=q.2.1/\RelV p.2.2 q.2.2
theorem gD{xs:List SpE}{ys:List (SpK×Addr×E1)}(r:Iz PrS xs ys):ys.map (·.1)=xs.map (·.1):=by
 induction r with
 |nil=>rfl
 |cons h t ih=>rw[EW,EW,ih,h.1]
theorem ye{xs:List SpE}{ys:List (SpK×Addr×E1)}(r:Iz PrS xs ys)(k:SpK):(xs.any fun x=>decide (x.1=k))=(atKey ys k).isSome:=by
 induction r with
 |nil=>rfl
 |@cons p q ps qs h t ih=>
  rw[HF]
  by_cases e:p.1=k
  ·have e':q.1=k:=h.1.symm.trans e;simp[atKey,FA,e,e']
  ·have e':¬q.1=k:=fun z=>e (h.1.trans z);rw[decide_eq_false e,Bool.false_or,ih];simp[atKey,FA,e']
theorem e7{xs:List SpE}{ys:List (SpK×Addr×E1)}(r:Iz PrS xs ys)(k:SpK)(b:Addr){v:V}{u:E1}(rv:RelV v u):Iz PrS (dX xs k b v) (storedH ys k b u):=by
 unfold dX storedH;rw[ye r k];by_cases e:(atKey ys k).isSome=true
 ·rw[if_pos e,if_pos e];clear e
  induction r with
  |nil=>exact .nil
  |@cons p q ps qs h t ih=>
   rw[EW,EW]
   refine .cons ?_ ih
   unfold putAt
   by_cases e:p.1=k
   ·rw[if_pos e,if_pos (h.1.symm.trans e)];exact⟨h.1,h.2.1,rv⟩
   ·rw[if_neg e,if_neg (fun z=>e (h.1.trans z))];exact h
 ·rw[if_neg e,if_neg e];exact Paired.snoc r ⟨rfl,rfl,rv⟩
theorem iK{xs:List SpE}{ys:List (SpK×Addr×E1)}(r:Iz PrS xs ys):xs.length=ys.length:=by
 induction r with
 |nil=>rfl
 |cons h t ih=>rw[Fi,Fi,ih]
theorem xH{xs:List SpE}{ys:List (SpK×Addr×E1)}(r:Iz PrS xs ys){q:SpK×Addr×E1}(h:q∈ys):∃p∈xs,p.1=q.1/\p.2.1=q.2.1:=by
 induction r with
 |nil=>cases h
 |cons h' t ih=>
  rcases FN.mp h with z|z
  ·subst z;exact⟨_,by simp,h'.1,h'.2.1⟩
  ·obtain⟨p,hp,e⟩:=ih z;exact⟨p,by simp[hp],e⟩
theorem jM(xs:List SpE)(k:SpK)(b:Addr)(v:V):(dX xs k b v).length<=xs.length+1:=by
 unfold dX;split
 ·rw[E6];omega
 ·simp
theorem mC{xs:List SpE}(I:L2.Inv X pins σ H s)(e:H a=some (.ext (bw X.prog X.w a xs)))(hk:∀x∈xs,cD X.K H x.2.1 x.1):(a==GU)=false/\xs.length<=Fb/\∃ys,Iz PrS xs ys/\s.heap.DictOfH (cV X.prog X.w) a ys:=by obtain⟨⟨h1,h2,h3,ys,r,o,es,ep,q1,q2,q3,q4⟩,_⟩:=I.hok a _ e;refine⟨h1,h2,ys,r,o,es,ep,q1,q2,q3,q4,fun x hx=>?_,by rw[gD r];exact h3⟩;obtain⟨p,hp,e1,e2⟩:=xH r hx;rw[<-e1,<-e2];exact nD I (hk p hp)
theorem iS{P:F8}{w:Fy}{xs:List SpE}(h1 h2:Heap)(h:bw P w a xs h1)(k:∀o,h1.get? a=some o->h2.get? a=some o):bw P w a xs h2:=by obtain⟨p1,p2,p3,ys,r,o,es,ep,q1,q⟩:=h;exact⟨p1,p2,p3,ys,r,o,es,ep,k o q1,q⟩
theorem yW{A:FK}{E:E1->E3->Prop}{Q:Unit->E3->Prop}{xs:List SpE}{v:V}{u:E1}(hu:A.units+8<G0)(I:L2.Inv X pins σ H s)(e:H a=some (.ext (bw X.prog X.w a xs)))(hk:∀x∈xs,cD X.K H x.2.1 x.1)(hb:cD X.K H b k)(rv:RelV v u)(hl:xs.length<Fb)
 (h:∀s',L2.Inv X pins σ (upd H a (.ext (bw X.prog X.w a (dX xs k b v)))) s'->Q () s'):EX (F6 X.prog X.w) A (setItem (.ref a) (.ref b) u) Q E s:=by
 obtain⟨hd,hz,ys,r,dd⟩:=mC I e hk
 refine wpAny_setItem_heap (knd:=cV X.prog X.w) (hsz:=by rw[<-iK r];exact hz) (show A.in1.units+4<G0 by show A.units+1+4<G0;omega) (nD I hb) dd fun h' dd' hs=>h _ ?_
 obtain⟨q,es,ep,hq,q2,q3,q4,_,q5⟩:=dd'
 refine gn I (by rw[e];exact Il) hs ⟨q,hq⟩ ⟨⟨hd,?_,?_,_,e7 r k b rv,q,es,ep,hq,q2,q3,q4⟩,⟨q,hq⟩,fun h1 h2 x y=>iS h1 h2 x y⟩
 ·have:=jM xs k b v;omega
 ·rw[<-gD (e7 r k b rv)];exact q5
theorem rb(I:L2.Inv X pins σ H s):L2.Inv X pins σ (upd H s.heap.objs.size (.ext (bw X.prog X.w s.heap.objs.size []))) { s with heap:=s.heap.push { cls:=.type "dict",data:=.dict #[] } }:=
 I.laid (a:=s.heap.objs.size) (t':=s.toks) (fun _ _ q=>E5 _ q) (E8 _)
  ⟨⟨beq_eq_false_iff_ne.mpr (Ne.symm (Fs I.big)),FQ _,List.nodup_nil,[],.nil,_,#[],0,EY _ rfl,⟨rfl,rfl,rfl⟩,rfl,rfl⟩,⟨_,EY _ rfl⟩,fun h1 h2 x y=>iS h1 h2 x y⟩
def df(xs:List SpE)(k:SpK):Option V:=(xs.find? fun x=>decide (x.1=k)).map (·.2.2)
theorem l4{xs:List SpE}{ys:List (SpK×Addr×E1)}(r:Iz PrS xs ys){v:V}(h:df xs k=some v):∃p:Addr×E1,atKey ys k=some p/\RelV v p.2:=by
 induction r with
 |nil=>cases h
 |@cons p q ps qs h' t ih=>
  by_cases e:p.1=k
  ·have e':q.1=k:=h'.1.symm.trans e;simp[df,FA,e]at h;subst h;exact⟨q.2,by simp[atKey,FA,e'],h'.2.2⟩
  ·have e':¬q.1=k:=fun z=>e (h'.1.trans z);have h2:df ps k=some v:=by simpa[df,FA,e]using h
   obtain⟨p',h3,h4⟩:=ih h2;exact⟨p',by simpa[atKey,FA,e']using h3,h4⟩
theorem yE{A:FK}{E:E1->E3->Prop}{Q:E1->E3->Prop}{xs:List SpE}{v:V}(hu:A.units+8<G0)(I:L2.Inv X pins σ H s)(e:H a=some (.ext (bw X.prog X.w a xs)))(hk:∀x∈xs,cD X.K H x.2.1 x.1)(hb:cD X.K H b k)(hv:df xs k=some v) (h:∀u s',L2.Inv X pins σ H s'->RelV v u->Q u s'):EX (F6 X.prog X.w) A (getItem (.ref a) (.ref b)) Q E s:=by obtain⟨hd,hz,ys,r,dd⟩:=mC I e hk;obtain⟨p,h1,h2⟩:=l4 r hv;exact wpAny_getItem_heap (knd:=cV X.prog X.w) (show A.in1.units+4<G0 by show A.units+1+4<G0;omega) (nD I hb) dd h1 (h _ _ (I.tok _) h2)
end
section
variable{prog:F8}{w:Fy}{K:Type}[DecidableEq K]{knd:HeapKind prog w K}{A:FK}{E:E1->E3->Prop}{s:E3}
theorem n9{d a:Addr}{xs:List (K×Addr×E1)}{k:K}{v:E1}{Q:E1->E3->Prop}(hu:knd.room A)(hkey:knd.is s.heap k a)(hm:s.heap.DictOfH knd d xs) (h1:∀p,atKey xs k=some p->Q p.2 { s with toks:=s.toks+knd.draws k }) (h2:atKey xs k=none->∀h',h'.DictOfH knd d (storedH xs k a v)->GO d s.heap h'->Q v { s with heap:=h',toks:=s.toks+knd.draws k }) (hsz:xs.length<=Fb) : EX (F6 prog w) A (dictSetDefault d (.ref a) v) Q E s:=by
 obtain⟨o,es,ep,ho,hc,hd,he,his,hn⟩:=hm;unfold dictSetDefault
 try with_reducible refine FX ?_
 refine cc (knd.pyHash hu hkey ?_);refine cc (wpAny_dictFind_heap (s:={ s with toks:=s.toks+knd.draws k }) hu hkey ho hd he his hn ?_ ?_)
 ·intro hno;have hnot:k∉xs.map (·.1):=not_mem_keys_of_get hno;have ha:=atKey_none_of_get hno
  refine cc (wpAny_rule (cc (wpAny_updateDictKeys (hz:=by have e:=size_of_entries he;omega) (s:={ s with toks:=s.toks+knd.draws k }) ho hd (E4 (h2 ha _ ⟨_,_,ep+1,G7 _ ho (Obj.isFreed_of_dict (Obj.data_mapDictKeys hd _)),
   hc.mapDictKeys _,Obj.data_mapDictKeys hd _,?_,?_,?_⟩ (FW ..))))))
  ·rw[storedH_new ha];simp[he,entryOfKey]
  ·rw[storedH_new ha];intro x hx;rcases Fl.mp hx with hx|hx
   ·exact knd.keeps (his x hx) ho hd (FW ..)
   ·have:x=(k,a,v):=by simpa using hx
    subst this;exact knd.keeps hkey ho hd (FW ..)
  ·rw[storedH_new ha,FI,List.nodup_append];refine⟨hn,by simp,?_⟩;intro x hx y hy;have:y=k:=by simpa using hy
   subst this;exact fun e=>hnot (e▸hx)
 ·intro j p hj;have ha:=atKey_of_get hn hj;refine cc (wpAny_dictEntries (s:={ s with toks:=s.toks+knd.draws k }) ho hd ?_);rw[entry_at he j,hj];exact cc (wpAny_rule (E4 (h1 p ha)))
theorem oD{d a:Addr}{xs:List (K×Addr×E1)}{k:K}{v:E1}{Q:E1->E3->Prop}(hu:knd.room A.in1)(hkey:knd.is s.heap k a)(hm:s.heap.DictOfH knd d xs)(hd:(d==GU)=false)
 (h1:∀p,atKey xs k=some p->Q p.2 { s with toks:=s.toks+knd.draws k })
 (h2:atKey xs k=none->∀h',h'.DictOfH knd d (storedH xs k a v)->GO d s.heap h'->Q v { s with heap:=h',toks:=s.toks+knd.draws k }) (hsz:xs.length<=Fb) :
 EX (F6 prog w) A (call (.builtin "dict.setdefault") [.ref d,.ref a,v]) Q E s:=by
 refine Gy PySem.F.slot_dict_setdefault hm.typeIs PySem.F.entry_dict_setdefault ?_ (PySem.F.args_dict_setdefault_3 _ _ _)
 unfold GQ.«dict.setdefault»
 refine cc ?_
 unfold Builtin.Dict.keyAndDefault
 refine cc (wpAny_notOrdered_dict hm.typeIs ?_)
 show EX _ _ (pure (d,FZ a,some v)) _ _ s
 refine E4 ?_
 show EX _ _ (if(d==GU)=true then _ else(dictSetDefault d (.ref a) v >>= _)) _ _ s
 rw[if_neg (by rw[hd];exact F4)]
 exact cc (n9 hu hkey hm (fun p hp=>E4 ⟨p.2,rfl,h1 p hp⟩) (fun hn h' hm' hs'=>E4 ⟨v,rfl,h2 hn h' hm' hs'⟩) hsz)
end
section
variable{X:Cx}{pins:List (Addr×Obj)}{σ:L2.St}{H:Hp}{s:E3}{a b:Addr}{k:SpK}
theorem tZ{xs:List SpE}{ys:List (SpK×Addr×E1)}(r:Iz PrS xs ys)(h:df xs k=none):atKey ys k=none:=by
 induction r with
 |nil=>rfl
 |@cons p q ps qs h' t ih=>
  by_cases e:p.1=k
  ·simp[df,FA,e]at h
  ·have e':¬q.1=k:=fun z=>e (h'.1.trans z);have h2:df ps k=none:=by simpa[df,FA,e]using h
   have:=ih h2;simpa[atKey,FA,e']using this
theorem p7{A:FK}{E:E1->E3->Prop}{Q:E1->E3->Prop}{xs:List SpE}{v:V}{u:E1}(hu:A.units+8<G0)(I:L2.Inv X pins σ H s)(e:H a=some (.ext (bw X.prog X.w a xs)))(hk:∀x∈xs,cD X.K H x.2.1 x.1)(hb:cD X.K H b k)(rv:RelV v u)(hl:xs.length<Fb)
 (h1:∀v' u' s',df xs k=some v'->L2.Inv X pins σ H s'->RelV v' u'->Q u' s')
 (h2:df xs k=none->∀s',L2.Inv X pins σ (upd H a (.ext (bw X.prog X.w a (dX xs k b v)))) s'->Q u s'):EX (F6 X.prog X.w) A (call (.builtin "dict.setdefault") [.ref a,.ref b,u]) Q E s:=by
 obtain⟨hd,hz,ys,r,dd⟩:=mC I e hk
 refine oD (knd:=cV X.prog X.w) (show A.in1.units+4<G0 by show A.units+1+4<G0;omega) (nD I hb) dd hd (fun p hp=>?_) (fun hn h' dd' hs=>?_) (by rw[<-iK r];exact hz)
 ·cases ev:df xs k with
  |none=>rw[tZ r ev]at hp;cases hp
  |some v'=>
   obtain⟨p',h3,h4⟩:=l4 r ev
   rw[hp]at h3
   cases h3
   exact h1 v' _ _ ev (I.tok _) h4
 ·have ev:df xs k=none:=by
   cases ev:df xs k with
   |none=>rfl
   |some v'=>
    obtain⟨p',h3,_⟩:=l4 r ev
    rw[hn]at h3;cases h3
  refine h2 ev _ ?_
  obtain⟨q,es,ep,hq,q2,q3,q4,_,q5⟩:=dd'
  refine gn I (by rw[e];exact Il) hs ⟨q,hq⟩ ⟨⟨hd,?_,?_,_,e7 r k b rv,q,es,ep,hq,q2,q3,q4⟩,⟨q,hq⟩,fun h1 h2 x y=>iS h1 h2 x y⟩
  ·have:=jM xs k b v;omega
  ·rw[<-gD (e7 r k b rv)];exact q5
end
section
variable{X:Cx}
def Al(X:Cx):TE:=fun _ H Q=>∀p,H p=none->Q (.ref p) (upd H p (.ext (bw X.prog X.w p [])))
theorem wC{pos:Pos}:PE X (.Dict [] [] pos) (Al X):=fun pins s σ H Q I h=>wpAny_Dict_empty ⟨.ref s.heap.objs.size,_,rb I,rfl,h _ (I.hok.fresh (E8 _))⟩
structure DsAt(X:Cx)(H:Hp)(a b:Addr)(xs:List SpE)(k:SpK):Prop where
 d:H a=some (.ext (bw X.prog X.w a xs))
 ks:∀x∈xs,cD X.K H x.2.1 x.1
 key:cD X.K H b k
def AQ(X:Cx)(td ty:TE):TE:=fun σ H Q=>td σ H fun x H1=>ty σ H1 fun y H2=>∃a b xs k v,x=.ref a/\y=.ref b/\DsAt X H2 a b xs k/\df xs k=some v/\Q v H2
theorem wY{pins:List (Addr×Obj)}{σ:L2.St}{H:Hp}{s:E3}{a:Addr}{xs:List SpE}(I:L2.Inv X pins σ H s)(e:H a=some (.ext (bw X.prog X.w a xs))):s.TypeIs (.ref a) "dict"/\∀b,FZ a=.ref b->∃o,s.heap.get? b=some o/\o.dict=none:=by obtain⟨⟨_,_,_,_,_,o,_,_,q1,q2,_⟩,_⟩:=I.hok a _ e;exact⟨⟨o,q1,q2.1⟩,fun b z=>by cases z;exact⟨o,q1,q2.2.1⟩⟩
theorem uz{o i:Expr}{td ty:TE}{pos:Pos}(hu:X.A.units+8<G0)(ho:PE X o td)(hi:PE X i ty)(hs:DN i):PE X (.Subscript o i pos) (AQ X td ty):=by intro pins s σ H Q I h;refine Subscript_ (thn (ho pins s σ H _ I h) fun v s1 ⟨x,H1,I1,r1,q1⟩=>thn (hi pins s1 σ H1 _ I1 q1) fun u s2 zz1_0=>?_);obtain⟨y,H2,I2,r2,a,b,xs,k,w',ex,ey,D,hv,q⟩:=zz1_0;subst ex ey;cases r1;cases r2;exact tail_any (wY I2 D.d).1 PySem.F.slot_dict_getitem.lookup (yE hu I2 D.d D.ks D.key hv fun u' s' I' r'=>⟨w',H2,I',r',q⟩) (hs _ _)
def Bn(X:Cx)(td ty tv:TE):TS:=fun D σ H=>tv σ H fun v H1=>td σ H1 fun x H2=>ty σ H2 fun y H3=>∃a b xs k,x=.ref a/\y=.ref b/\DsAt X H3 a b xs k/\xs.length<Fb/\D.nx σ (upd H3 a (.ext (bw X.prog X.w a (dX xs k b v))))
theorem wQ{o i value:Expr}{td ty tv:TE}{pos pos':Pos}(hu:X.A.units+8<G0)(ho:PE X o td)(hi:PE X i ty)(hv:PE X value tv)(hs:HI value (some (.Subscript o i pos')) pos.line X.env=pure false) : PS X (.Assign [.Subscript o i pos'] value pos) (Bn X td ty tv):=by intro pins s σ H D I h;refine wpAny_Assign_Subscript (thn (hv pins s σ H _ I h) fun r s1 ⟨v,H1,I1,rv,q1⟩=>thn (ho pins s1 σ H1 _ I1 q1) fun u s2 ⟨x,H2,I2,rx,q2⟩=>thn (hi pins s2 σ H2 _ I2 q2) fun iv s3 zz2_0=>?_) hs;obtain⟨y,H3,I3,ry,a,b,xs,k,ex,ey,A,hl,q3⟩:=zz2_0;subst ex ey;cases rx;cases ry;exact yW hu I3 A.d A.ks A.key rv hl fun s4 I4=>⟨σ,_,I4,q3⟩
def D8(X:Cx)(to:TE)(t:TA):TE:=fun σ H Q=>to σ H fun x H1=>∃a xs0,x=.ref a/\H1 a=some (.ext (bw X.prog X.w a xs0))/\t σ H1 fun vs H2=>∃b v xs k,vs=[.ref b,v]/\DsAt X H2 a b xs k/\xs.length<Fb/\
 (∀v',df xs k=some v'->Q v' H2)/\(df xs k=none->Q v (upd H2 a (.ext (bw X.prog X.w a (dX xs k b v)))))
theorem yT{o e1 e2:Expr}{to:TE}{t:TA}{apos cpos:Pos}(hu:X.A.units+8<G0)(ho:PE X o to)(ha:PA X [e1,e2] t)
 (hbase:Ik o "setdefault" X.env (eval o X.env)=eval o X.env:=by rfl)
 (hfew:((GK cpos (Fc [e1,e2] X.env)).all (fun x=>!x.1)&&(backToKw cpos (HE [] X.env)).all (fun x=>x.1.isSome)
  && decide ([e1,e2].length+([]:List Iw).length+(if([]:List Iw).isEmpty then 0 else 1)<30))=true:=by rfl)
 (hline:(apos.endLine==cpos.line)=true:=by rfl) (hs:Fc [e1,e2] X.env=(false,eval e1 X.env)::Fc [e2] X.env:=by rfl) (hplain:(GK cpos (Fc [e2] X.env)).any (·.1)=false:=by rfl) :
 PE X (.Call (.Attribute o "setdefault" apos) [e1,e2] [] cpos) (D8 X to t):=by
 intro pins s σ H Q I h
 refine wpAny_Call_method_late hbase hfew hline rfl (thn (ho pins s σ H _ I h) fun v s1 zz3_0=>?_)
 obtain⟨x,H1,I1,r1,a,xs0,ex,e0,q1⟩:=zz3_0
 subst ex
 cases r1
 obtain⟨h1,h2⟩:=wY I1 e0
 refine⟨"dict","dict.setdefault",PySem.F.plainAttrs_dict,PySem.F.slot_dict_setdefault,PySem.F.type_dict_setdefault,h1,h2,?_⟩
 have hA:=ha cpos pins s1 σ H1 _ I1 q1
 rw[hs]at hA ⊢
 refine Calls.callWith_builtin (by show(false||(GK cpos (Fc [e2] X.env)).any (·.1))=false;rw[hplain]<;>rfl) (Calls.evalArgs_plain ?_)
 refine thn hA fun us s2 zz4_0=>?_
 obtain⟨vs,H2,I2,r2,b,w',xs,k,ev,D,hl,k1,k2⟩:=zz4_0
 subst ev
 obtain⟨u1,u2,rfl,ru1,ru2⟩:=r2.two
 cases ru1
 exact p7 hu I2 D.d D.ks D.key ru2 hl (fun v' u' s' ev I' r'=>⟨v',H2,I',r',k1 v' ev⟩) (fun hn s' I'=>⟨w',_,I',ru2,k2 hn⟩)
end
def spD(k:SpK):D:=.tup [.tup [.int k.1,.int k.2.1],.tup [.int k.2.2.1,.int k.2.2.2]]
section
variable{K:E2}{H H':Hp}{M:MH}{a b:Addr}{k:SpK}
theorem nV{v:V}(r:Rep K H (spD k) v):∃b,v=.ref b/\cD K H b k:=by unfold spD at r;rw[Rep]at r;obtain⟨b,xs,rfl,hx,rs⟩:=r;obtain⟨v1,v2,rfl,r1,r2⟩:=d5 rs;rw[Rep]at r1 r2;obtain⟨f,fs,rfl,hf,rf⟩:=r1;obtain⟨g,gs,rfl,hg,rg⟩:=r2;obtain⟨w1,w2,rfl,q1,q2⟩:=d5 rf;obtain⟨w3,w4,rfl,q3,q4⟩:=d5 rg;rw[Rep]at q1 q2 q3 q4;subst q1 q2 q3 q4;exact⟨b,rfl,f,g,hx,hf,hg⟩
theorem va(h:cD K H b k):Rep K H (spD k) (.ref b):=by
 obtain⟨f,g,hx,hf,hg⟩:=h;unfold spD;rw[Rep];refine⟨b,_,rfl,hx,?_⟩;have i2:∀(m n:Int),aB K H [D.int m,D.int n] [V.int m,V.int n]:=fun m n=>ig [m,n];rw[aB];refine⟨_,_,rfl,?_,?_⟩
 ·rw[Rep];exact⟨f,_,rfl,hf,i2 _ _⟩
 ·rw[aB];refine⟨_,_,rfl,?_,?_⟩
  ·rw[Rep];exact⟨g,_,rfl,hg,i2 _ _⟩
  ·rw[aB]
theorem cD.mono(g:Grow K H H')(h:cD K H b k):cD K H' b k:=by obtain⟨b',e,r⟩:=nV ((va h).mono g);cases e;exact r
abbrev SpT:=List (SpK×D)
def dsA(kvs:SpT):E2->Hp->Addr->Prop:=fun K H a=>∃xs:List SpE,(∀P w,H a=some (.ext (bw P w a xs)))/\xs.map (·.1)=kvs.map (·.1)/\(∀x∈xs,cD K H x.2.1 x.1)/\aB K H (kvs.map (·.2)) (xs.map (·.2.2))
theorem uZ{kvs:SpT}(h:dsA kvs K H a)(g:Grow K H H')(e:H' a=H a):dsA kvs K H' a:=by obtain⟨xs,h1,h2,h3,h4⟩:=h;exact⟨xs,fun P w=>e.trans (h1 P w),h2,fun x hx=>(h3 x hx).mono g,h4.mono g⟩
def dsM(kvs:SpT):MO:=.gen (dsA kvs)
theorem Abs.dsp{kvs:SpT}(h:Abs K H M)(e:M a=some (dsM kvs)):dsA kvs K H a:=(h a _ e).1
theorem dsA.wA{kvs:SpT}(h:dsA kvs K H a)(ne:H a≠none):nO K H a (dsM kvs):=⟨h,ne,fun H' g e=>uZ h g e⟩
theorem Abs.zS{p:Addr}(P:F8)(w:Fy)(h:Abs K H M)(hp:H p=none):Abs K (upd H p (.ext (bw P w p []))) (aw M p (dsM [])):=fun a u e=>by
 by_cases ne:a=p
 ·subst ne;rw[aj]at e;cases e;exact dsA.wA ⟨[],(fun P w=>aM),rfl,(fun x hx=>by simp at hx),(by simp[aB])⟩ (by rw[aM];simp)
 ·rw[ar ne]at e;exact(h a u e).fW (.new hp) (aK ne)
def cO(kvs:SpT)(k:SpK):Option D:=(kvs.find? fun x=>decide (x.1=k)).map (·.2)
def putD(kvs:SpT)(k:SpK)(d:D):SpT:=if(kvs.any fun x=>decide (x.1=k))=true then kvs.map (fun x=>if x.1=k then(x.1,d)else x)else kvs++[(k,d)]
theorem lT(k:SpK):∀{kvs:SpT} {xs:List SpE},xs.map (·.1)=kvs.map (·.1)->aB K H (kvs.map (·.2)) (xs.map (·.2.2))->(∀d,cO kvs k=some d->∃v,df xs k=some v/\Rep K H d v)/\(cO kvs k=none->df xs k=none)/\((xs.any fun x=>decide (x.1=k))=kvs.any fun x=>decide (x.1=k))
 |[],[],_,_=>⟨(fun d h=>by simp[cO]at h),(fun _=>rfl),rfl⟩
 |[],x::xs,h,_=>by cases h
 |y::kvs,[],h,_=>by cases h
 |y::kvs,x::xs,h,r=>by
  rw[EW,EW]at h
  injection h with h1 h2
  rw[EW,EW,aB]at r
  obtain⟨v,vs,e,r1,r2⟩:=r
  injection e with e1 e2
  subst e1 e2
  obtain⟨i1,i2,i3⟩:=lT k h2 r2
  by_cases e:y.1=k
  ·have e':x.1=k:=h1.trans e
   refine⟨fun d hd=>?_,fun hn=>?_,?_⟩
   ·simp[cO,FA,e]at hd
    subst hd
    exact⟨x.2.2,by simp[df,FA,e'],r1⟩
   ·simp[cO,FA,e]at hn
   ·simp[e,e']
  ·have e':¬x.1=k:=fun z=>e (h1.symm.trans z)
   refine⟨fun d hd=>?_,fun hn=>?_,?_⟩
   ·obtain⟨v,q1,q2⟩:=i1 d (by simpa[cO,FA,e]using hd)
    exact⟨v,by simpa[df,FA,e']using q1,q2⟩
   ·have:=i2 (by simpa[cO,FA,e]using hn)
    simpa[df,FA,e']using this
   ·rw[HF,HF,i3,decide_eq_false e,decide_eq_false e']
theorem qQ(k:SpK){d:D}{v:V}(r:Rep K H d v):∀{kvs:SpT} {xs:List SpE},xs.map (·.1)=kvs.map (·.1)->aB K H (kvs.map (·.2)) (xs.map (·.2.2))->
 (xs.map fun x=>if x.1=k then(x.1,x.2.1,v)else x).map (·.1)=(kvs.map fun x=>if x.1=k then(x.1,d)else x).map (·.1)/\aB K H ((kvs.map fun x=>if x.1=k then(x.1,d)else x).map (·.2)) ((xs.map fun x=>if x.1=k then(x.1,x.2.1,v)else x).map (·.2.2))
 |[],[],_,h=>⟨rfl,h⟩
 |[],x::xs,h,_=>by cases h
 |y::kvs,[],h,_=>by cases h
 |y::kvs,x::xs,h,q=>by
  rw[EW,EW]at h
  injection h with h1 h2
  rw[EW,EW,aB]at q
  obtain⟨v',vs,e,r1,r2⟩:=q
  injection e with e1 e2
  subst e1 e2
  obtain⟨i1,i2⟩:=qQ k r h2 r2
  by_cases e:y.1=k
  ·have e':x.1=k:=h1.trans e
   simp only[EW,if_pos e,if_pos e']
   exact⟨by rw[i1];exact congrArg (·::_) h1,by rw[aB];exact⟨_,_,rfl,r,i2⟩⟩
  ·have e':¬x.1=k:=fun z=>e (h1.symm.trans z)
   simp only[EW,if_neg e,if_neg e']
   exact⟨by rw[i1];exact congrArg (·::_) h1,by rw[aB];exact⟨_,_,rfl,r1,i2⟩⟩
theorem B7{kvs:SpT}{xs:List SpE}{d:D}{v:V}(h1:xs.map (·.1)=kvs.map (·.1))(h2:aB K H (kvs.map (·.2)) (xs.map (·.2.2)))(h3:∀x∈xs,cD K H x.2.1 x.1)(hb:cD K H b k)(r:Rep K H d v) : (dX xs k b v).map (·.1)=(putD kvs k d).map (·.1)/\aB K H ((putD kvs k d).map (·.2)) ((dX xs k b v).map (·.2.2))/\∀x∈dX xs k b v,cD K H x.2.1 x.1:=by
 unfold dX putD;rw[(lT k h1 h2).2.2];by_cases e:(kvs.any fun x=>decide (x.1=k))=true
 ·rw[if_pos e,if_pos e];obtain⟨i1,i2⟩:=qQ k r h1 h2;refine⟨i1,i2,fun x hx=>?_⟩;obtain⟨y,hy,rfl⟩:=Fm.mp hx;have:=h3 y hy;by_cases e:y.1=k
  ·rw[if_pos e];exact this
  ·rw[if_neg e];exact this
 ·rw[if_neg e,if_neg e];refine⟨by rw[FI,FI,h1];rfl,?_,fun x hx=>?_⟩
  ·rw[FI,FI];exact h2.append (by rw[EW,EW,GR,GR,aB];exact⟨_,_,rfl,r,by rw[aB]⟩)
  ·rcases Fl.mp hx with z|z
   ·exact h3 x z
   ·have:x=(k,b,v):=by simpa using z
    subst this;exact hb
theorem Grow.ext{φ:Heap->Prop}{o:HO}(h:H a=some (.ext φ)):Grow K H (upd H a o):=.put (fun xs e=>by rw[h]at e;cases e) (fun u xs e=>by rw[h]at e;cases e)
theorem Abs.xg{kvs:SpT}{xs:List SpE}{d:D}{v:V}(P:F8)(w:Fy)(h:Abs K H M)(hx:∀P w,H a=some (.ext (bw P w a xs)))(h1:xs.map (·.1)=kvs.map (·.1))(h2:aB K H (kvs.map (·.2)) (xs.map (·.2.2)))(h3:∀x∈xs,cD K H x.2.1 x.1)(hb:cD K H b k)(r:Rep K H d v) :
 Abs K (upd H a (.ext (bw P w a (dX xs k b v)))) (aw M a (dsM (putD kvs k d))):=fun c u e=>by
 have g:Grow K H (upd H a (.ext (bw P w a (dX xs k b v)))):=.ext (hx P w)
 by_cases ne:c=a
 ·subst ne
  rw[aj]at e;cases e
  obtain⟨q1,q2,q3⟩:=B7 h1 h2 h3 hb r
  exact dsA.wA ⟨_,fun P w=>aM,q1,fun x hx=>(q3 x hx).mono g,q2.mono g⟩ (by rw[aM];simp)
 ·rw[ar ne]at e
  exact(h c u e).fW g (aK ne)
end
section
variable{X:Cx}
def yd:TD:=fun _ M Q=>∀p,M p=none->Q (.ref p) (aw M p (dsM []))
theorem nB{pos:Pos}:DE X (.Dict [] [] pos) yd:=aP wC fun σ H Q zz1_0=>by obtain⟨δ,M,R,hs,hM,q,fin⟩:=zz1_0;exact(fun p hp=>fin _ _ _ _ (.new hp) (by rw[Rep]) (hM.zS _ _ hp) (q p (hM.fresh hp)))
def yO(td ty:TD):TD:=fun δ M Q=>td δ M fun x M1=>ty δ M1 fun y M2=>∃l kvs k d,x=.ref l/\y=spD k/\M2 l=some (dsM kvs)/\cO kvs k=some d/\Q d M2
theorem nF{o i:Expr}{td ty:TD}{pos:Pos}(hu:X.A.units+66<G0)(ho:DE X o td)(hi:DE X i ty)(hs:DN i):DE X (.Subscript o i pos) (yO td ty):=
 aP (uz (by omega) ho hi hs) fun σ H Q zz2_0=>by obtain⟨δ,M,R,hs,hM,q,fin⟩:=zz2_0;exact(⟨δ,M,_,hs,hM,q,fun x M1 v H1 g1 r1 a1 q1=>⟨δ,M1,_,hs.mono g1,a1,q1,fun y M2 u H2 g2 r2 a2 zz3_0=>by
  obtain⟨l,kvs,k,d,ex,ey,hl,hv,q2⟩:=zz3_0
  subst ex ey
  rw[Rep]at r1;subst r1
  obtain⟨b,rfl,sp⟩:=nV r2
  obtain⟨xs,h1,h2,h3,h4⟩:=a2.dsp hl
  obtain⟨v',q3,q4⟩:=(lT k h2 h4).1 d hv
  exact⟨l,b,xs,k,v',rfl,rfl,⟨h1 _ _,h3,sp⟩,q3,fin _ _ _ _ (g1.trans g2) q4 a2 q2⟩⟩⟩)
def yS(td ty tv:TD):TSD:=fun B δ M=>tv δ M fun d M1=>td δ M1 fun x M2=>ty δ M2 fun y M3=>∃l kvs k,x=.ref l/\y=spD k/\M3 l=some (dsM kvs)/\kvs.length<1000000/\B.nx δ (aw M3 l (dsM (putD kvs k d)))
theorem vT{o i value:Expr}{td ty tv:TD}{pos pos':Pos}(hu:X.A.units+66<G0)(ho:DE X o td)(hi:DE X i ty)(hv:DE X value tv)(hs:HI value (some (.Subscript o i pos')) pos.line X.env=pure false:=by rfl):DSt X (.Assign [.Subscript o i pos'] value pos) (yS td ty tv):=
 bW (wQ (by omega) ho hi hv hs) fun D σ H ⟨δ,M,hs,hM,B,ok,q⟩=>⟨δ,M,_,hs,hM,q,fun d M1 v H1 g1 r1 a1 q1=>⟨δ,M1,_,hs.mono g1,a1,q1,fun x M2 u H2 g2 r2 a2 q2=>⟨δ,M2,_,(hs.mono g1).mono g2,a2,q2,fun y M3 u3 H3 g3 r3 a3 ⟨l,kvs,k,ex,ey,hl,hn,q3⟩=>by
  subst ex ey
  rw[Rep]at r2;subst r2
  obtain⟨b,rfl,sp⟩:=nV r3
  obtain⟨xs,h1,h2,h3,h4⟩:=a3.dsp hl
  have hlen:xs.length=kvs.length:=by have:=congrArg List.length h2;simpa using this
  have sz:1000000<=Fb:=nbL rfl
  refine⟨l,b,xs,k,rfl,rfl,⟨h1 _ _,h3,sp⟩,by omega,?_⟩
  have g4:Grow X.K H3 (upd H3 l (.ext (bw X.prog X.w l (dX xs k b v)))):=.ext (h1 X.prog X.w)
  exact ok.nx _ _ _ _ (((g1.trans g2).trans g3).trans g4) (hs.mono (((g1.trans g2).trans g3).trans g4)) (a3.xg _ _ h1 h2 h4 h3 sp (r1.mono (g2.trans g3))) q3⟩⟩⟩
def Ac(to:TD)(t:TAD):TD:=fun δ M Q=>to δ M fun x M1=>∃l kvs0,x=.ref l/\M1 l=some (dsM kvs0)/\t δ M1 fun ds M2=>∃kvs k d,ds=[spD k,d]/\M2 l=some (dsM kvs)/\kvs.length<1000000/\(∀d',cO kvs k=some d'->Q d' M2)/\(cO kvs k=none->Q d (aw M2 l (dsM (putD kvs k d))))
theorem xP{o e1 e2:Expr}{to:TD}{t:TAD}{apos cpos:Pos}(hu:X.A.units+66<G0)(ho:DE X o to)(ha:DA X [e1,e2] t)
 (hbase:Ik o "setdefault" X.env (eval o X.env)=eval o X.env:=by rfl)
 (hfew:((GK cpos (Fc [e1,e2] X.env)).all (fun x=>!x.1)&&(backToKw cpos (HE [] X.env)).all (fun x=>x.1.isSome)
  && decide ([e1,e2].length+([]:List Iw).length+(if([]:List Iw).isEmpty then 0 else 1)<30))=true:=by rfl)
 (hline:(apos.endLine==cpos.line)=true:=by rfl) (hs:Fc [e1,e2] X.env=(false,eval e1 X.env)::Fc [e2] X.env:=by rfl) (hplain:(GK cpos (Fc [e2] X.env)).any (·.1)=false:=by rfl) :
 DE X (.Call (.Attribute o "setdefault" apos) [e1,e2] [] cpos) (Ac to t):=
 aP (yT (by omega) ho ha hbase hfew hline hs hplain) fun σ H Q ⟨δ,M,R,hs,hM,q,fin⟩=>⟨δ,M,_,hs,hM,q,fun x M1 v H1 g1 r1 a1 ⟨l,kvs0,ex,hl0,q1⟩=>by
  subst ex
  rw[Rep]at r1;subst r1
  obtain⟨xs0,h0,_⟩:=a1.dsp hl0
  refine⟨l,xs0,rfl,h0 _ _,δ,M1,_,hs.mono g1,a1,q1,fun ds M2 vs H2 g2 r2 a2 zz4_0=>?_⟩
  obtain⟨kvs,k,d,ed,hl,hn,k1,k2⟩:=zz4_0
  subst ed
  obtain⟨v1,v2,rfl,rv1,rv2⟩:=d5 r2
  obtain⟨b,rfl,sp⟩:=nV rv1
  obtain⟨xs,h1,h2,h3,h4⟩:=a2.dsp hl
  have hlen:xs.length=kvs.length:=by have:=congrArg List.length h2;simpa using this
  have sz:1000000<=Fb:=nbL rfl
  have dv:=lT k h2 h4
  refine⟨b,v2,xs,k,rfl,⟨h1 _ _,h3,sp⟩,by omega,fun v' hv'=>?_,fun hv'=>?_⟩
  ·cases ed:cO kvs k with
   |none=>rw[dv.2.1 ed]at hv';cases hv'
   |some d'=>
    obtain⟨v'',q3,q4⟩:=dv.1 d' ed
    rw[hv']at q3;cases q3
    exact fin _ _ _ _ (g1.trans g2) q4 a2 (k1 d' ed)
  ·have ed:cO kvs k=none:=by
    cases ed:cO kvs k with
    |none=>rfl
    |some d'=>
     obtain⟨v'',q3,_⟩:=dv.1 d' ed
     rw[hv']at q3;cases q3
   have g4:Grow X.K H2 (upd H2 l (.ext (bw X.prog X.w l (dX xs k b v2)))):=.ext (h1 X.prog X.w)
   exact fin _ _ _ _ ((g1.trans g2).trans g4) (rv2.mono g4) (a2.xg _ _ h1 h2 h4 h3 sp rv2) (k2 ed)⟩
end
theorem BQ(t b X m x:Int):Ma.ut t b X m x=Ma.ut t (b*m) (X*m) 1 x:=by unfold Ma.ut;rw[Int.mul_one,Int.mul_one]
theorem qS{t b X m:Int}(ht:0<t)(hb:0<b)(hm:0<m)(a:Int):Ma.ut t b X 1 a=Ma.ut t (b*m) (X*m) 1 (m*a):=by rw[<-BQ,Ma.d8 ht hb (by decide) hm];omega
theorem xq{t b X Y m:Int}(ht:0<t)(hb:0<b)(hm:0<m)(w:Wl)(p q:Int):Ma.sgn (Ma.cr (Ma.ut t b X 1 w.1) (Ma.ut t b Y 1 w.2.1) (Ma.ut t b X 1 w.2.2.1) (Ma.ut t b Y 1 w.2.2.2) (Ma.ut t b X m p) (Ma.ut t b Y m q))=Fo (sd (uby m w) p q):=by rw[qS ht hb hm,qS ht hb hm,qS ht hb hm,qS ht hb hm,BQ t b X m p,BQ t b Y m q];exact gQ ht (Fj hb hm) (uby m w) p q
theorem vY{t b X Y m p q a c:Int}(ht:0<t)(hb:0<b)(hm:0<m/\m<=4)(hq:-10<=q/\q<=85)(hc:0<=c/\c<=20):Ma.ah (Ma.ut t b X m p) (Ma.ut t b Y m q) (Ma.ut t b X 1 a) (Ma.ut t b Y 1 c)↔la p q<m*la a c:=by have e1:=Int.mul_nonneg (show 0<=m by omega) hc.1;have e2:=Int.mul_le_mul hm.2 hc.2 hc.1 (show(0:Int)<=4 by decide);rw[Ma.qU ht hb hm.1 (by decide),Int.one_mul,Int.one_mul,xR hq ⟨by omega,by omega⟩,decide_eq_true_eq,Bi]
def bB(ws:List Wl)(m p q:Int)(j:Nat):Bool:=spB ws m (la p q) j&&decide (Fo (sd (uby m (wAt ws (j:Int))) p q)=1)
def bK(ws:List Wl)(m p q:Int):List Int:=((Fg ws.length).filter (bB ws m p q)).map fun j:Nat=>(j:Int)
theorem fM{ws:List Wl}{m p q k:Int}(h:k∈bK ws m p q):k∈spK ws m (la p q):=by unfold bK at h;obtain⟨j,hj,rfl⟩:=Fm.mp h;rw[Ge]at hj;have:=hj.2;unfold bB at this;rw[GF]at this;exact Fm.mpr ⟨j,Ge.mpr ⟨hj.1,this.1⟩,rfl⟩
theorem nT(ws:List Wl)(m p q:Int):(bK ws m p q).Nodup:=by unfold bK List.Nodup;rw[Ih];have h:List.Pairwise (fun x y:Nat=>x≠y) ((Fg ws.length).filter (bB ws m p q)):=List.Pairwise.filter _ List.nodup_range;refine List.Pairwise.imp (R:=fun x y:Nat=>x≠y) ?_ h;intro a b hab e;exact hab (by omega)
theorem vK(ws:List Wl)(m p q t b X Y:Int):(Fg (ws.map (rwl t b X Y)).length).filterMap (fun j=>if bB ws m p q j=true then some (rwl t b X Y (wAt ws (j:Int)))else none)=((bK ws m p q).map (wAt ws)).map (rwl t b X Y):=by rw[E6];unfold bK;rw[Hy,Hy];exact gO (bB ws m p q) (fun j:Nat=>rwl t b X Y (wAt ws (j:Int))) _
theorem BY{t b X Y:Int}(ht:0<t)(hb:0<b){U V:Wl}(hU:Un5 U)(hV:Un5 V)(ne:¬(l1 U=l1 V/\l2 U=l2 V)):FG (rwP t b X Y U) (rwP t b X Y V)=false:=by have h1:=gH (X:=X) (Y:=Y) (p:=U.1) (q:=U.2.1) (e:=V.1) (f:=V.2.1) ht hb hU.b hV.b;have h2:=gH (X:=X) (Y:=Y) (p:=U.2.2.1) (q:=U.2.2.2) (e:=V.2.2.1) (f:=V.2.2.2) ht hb hU.d hV.d;unfold rwP frP;rw[FG,G8,G8,G8,Ma.gB,Ma.gB,Bool.and_true,<-HY,decide_eq_false_iff_not,h1,h2];exact ne
abbrev Vc:=Int×Int
def vc(a b:Vc):Int:=crs a.1 a.2 b.1 b.2
def vl(a:Vc):Int:=la a.1 a.2
theorem gU(a b:Vc):vc b a=-vc a b:=by unfold vc crs;grind
theorem CW(b x y z:Vc):vc b y*vc x z=vc b x*vc y z+vc b z*vc x y:=by unfold vc crs;grind
theorem Bf(a b c:Vc)(h:vc a b=0):vc b c*vl a=vc a c*vl b:=by unfold vc crs at *;unfold vl la;grind
def Ray(a b:Vc):Prop:=vc a b=0->vl a*vl b<0
theorem f9(z:Int):(z<0/\Fo z=-1)\/(z=0/\Fo z=0)\/(0<z/\Fo z=1):=by
 rcases FJ z 0 with h|h|h
 ·exact .inl ⟨h,FU h⟩
 ·exact .inr (.inl ⟨h,by subst h;rfl⟩)
 ·exact .inr (.inr ⟨h,Gm h⟩)
theorem gC{p q:Int}(h:p*q<0):(p<0/\0<q)\/(0<p/\q<0):=by
 rcases FJ p 0 with a|a|a
 ·rcases FJ q 0 with b|b|b
  ·have:=FP a b;omega
  ·subst b;simp at h
  ·exact .inl ⟨a,b⟩
 ·subst a;simp at h
 ·rcases FJ q 0 with b|b|b
  ·exact .inr ⟨a,b⟩
  ·subst b;simp at h
  ·have:=Fj a b;omega
theorem opp{a b:Vc}(c:Vc)(z:vc a b=0)(h:vl a*vl b<0):Fo (vc b c)=-Fo (vc a c):=by
 have e:=Bf a b c z;generalize vc b c=p at *;generalize vc a c=q at *;have m1:∀{x y:Int},0<x->0<y->0<x*y:=fun h1 h2=>Fj h1 h2
 rcases gC h with⟨h1,h2⟩|⟨h1,h2⟩<;>rcases f9 p with⟨a1,e1⟩|⟨a1,e1⟩|⟨a1,e1⟩<;>rcases f9 q with⟨a2,e2⟩|⟨a2,e2⟩|⟨a2,e2⟩<;>rw[e1,e2]<;>first|rfl|(exfalso;subst_vars;first
  |(have k1:=FP a1 h1;have k2:=Fw a2 h2;omega)
  |(have k1:=Fw a1 h1;have k2:=FP a2 h2;omega)
  |(have k1:=Fx a1 h1;have k2:=Fj a2 h2;omega)
  |(have k1:=Fj a1 h1;have k2:=Fx a2 h2;omega)
  |(have k1:=FP a1 h1;omega)
  |(have k1:=Fw a1 h1;omega)
  |(have k1:=Fx a1 h1;omega)
  |(have k1:=Fj a1 h1;omega)
  |(have k2:=FP a2 h2;omega)
  |(have k2:=Fw a2 h2;omega)
  |(have k2:=Fx a2 h2;omega)
  |(have k2:=Fj a2 h2;omega))
def snr(b x y:Vc):Bool:=if Fo (vc b x)=Fo (vc b y)then decide (vc x y<0)else decide (Fo (vc b x)<Fo (vc b y))
theorem iR(b x y:Vc):snr b x y=true↔Fo (vc b x)<Fo (vc b y)\/(Fo (vc b x)=Fo (vc b y)/\vc x y<0):=by
 unfold snr;split
 ·rename_i h;simp;omega
 ·rename_i h;simp;omega
theorem tJ{b x y:Vc}(h1:Ray b x)(h2:Ray b y)(h3:Ray x y):snr b x y=true\/snr b y x=true:=by
 rw[iR,iR];rcases FJ (vc x y) 0 with h|h|h
 ·omega
 ·have o:=h3 h;have e:=opp b h o;have e1:vc x b=-vc b x:=gU b x;have e2:vc y b=-vc b y:=gU b y;rw[e1,e2,Int.sign_neg,Int.sign_neg]at e;by_cases ne:Fo (vc b x)=Fo (vc b y)
  ·have z1:Fo (vc b x)=0:=by omega
   have z2:Fo (vc b y)=0:=by omega
   have p1:=gC (h1 (Int.sign_eq_zero_iff_zero.mp z1));have p2:=gC (h2 (Int.sign_eq_zero_iff_zero.mp z2));have p3:=gC o;omega
  ·omega
 ·have:=gU x y;omega
theorem sE{b x y z:Vc}(h1:Ray b x)(h2:Ray b y)(h3:Ray b z)(a1:snr b x y=true)(a2:snr b y z=true):snr b x z=true:=by
 rw[iR]at *;rcases a1 with a1|⟨a1,b1⟩
 ·left;rcases a2 with a2|⟨a2,b2⟩<;>omega
 ·rcases a2 with a2|⟨a2,b2⟩
  ·left;omega
  ·right;refine⟨by omega,?_⟩;have i:=CW b x y z;rcases f9 (vc b y)with⟨k,e⟩|⟨k,e⟩|⟨k,e⟩
   ·have kx:vc b x<0:=by rcases f9 (vc b x)with q|q|q<;>omega
    have kz:vc b z<0:=by rcases f9 (vc b z)with q|q|q<;>omega
    have u1:=FP kx b2;have u2:=FP kz b1;rcases FJ (vc x z) 0 with q|q|q
    ·exact q
    ·rw[q]at i;simp at i;omega
    ·have:=Fw k q;omega
   ·exfalso;have kx:vc b x=0:=by rcases f9 (vc b x)with q|q|q<;>omega
    have p1:=h1 kx;have e:=opp y kx p1;have:Fo (vc x y)=-1:=FU b1;rw[k]at e;simp at e;omega
   ·have kx:0<vc b x:=by rcases f9 (vc b x)with q|q|q<;>omega
    have kz:0<vc b z:=by rcases f9 (vc b z)with q|q|q<;>omega
    have u1:=Fx kx b2;have u2:=Fx kz b1;rcases FJ (vc x z) 0 with q|q|q
    ·exact q
    ·rw[q]at i;simp at i;omega
    ·have:=Fj k q;omega
theorem xV{a b c:Vc}(h:Ray a b)(s1:snr a c b=true)(s2:snr b c a=true):False:=by
 rw[iR]at s1 s2;have e1:vc b a=-vc a b:=gU a b;have e2:vc c b=-vc b c:=gU b c;have e3:vc c a=-vc a c:=gU a c;rw[e1,Int.sign_neg]at s2;rw[e2]at s1;rw[e3]at s2;by_cases z:vc a b=0
 ·have o:=opp c z (h z);rw[z]at s1 s2;simp at s1 s2;rcases f9 (vc a c)with q|q|q<;>rcases f9 (vc b c)with r|r|r<;>omega
 ·rcases f9 (vc a b)with p|p|p<;>rcases f9 (vc a c)with q|q|q<;>rcases f9 (vc b c)with r|r|r<;>omega
def rev(w:Wl):Wl:=(w.2.2.1,w.2.2.2,w.1,w.2.1)
def fw(ws:List Wl)(f:Nat):Wl:=if f%2=0 then wAt ws ((f/2:Nat):Int)else rev (wAt ws ((f/2:Nat):Int))
def fa(ws:List Wl)(f:Nat):Vc:=((fw ws f).1,(fw ws f).2.1)
def fb(ws:List Wl)(f:Nat):Vc:=((fw ws f).2.2.1,(fw ws f).2.2.2)
def fd(ws:List Wl)(f:Nat):Vc:=((fw ws f).2.2.1-(fw ws f).1,(fw ws f).2.2.2-(fw ws f).2.1)
def fx(f:Nat):Nat:=if f%2=0 then f+1 else f-1
theorem qL(f:Nat):fx f/2=f/2/\(fx f)%2=1-f%2:=by unfold fx;split<;>omega
theorem zg(f:Nat):fx (fx f)=f:=by unfold fx;split<;>split<;>omega
theorem je{f n:Nat}(h:f<2*n):fx f<2*n:=by unfold fx;split<;>omega
theorem zD(ws:List Wl)(f:Nat):fw ws (fx f)=rev (fw ws f):=by
 unfold fw;rw[(qL f).1,(qL f).2];by_cases h:f%2=0
 ·rw[if_neg (by omega),if_pos h]
 ·rw[if_pos (by omega),if_neg h];rfl
theorem j9(ws:List Wl)(f:Nat):fa ws (fx f)=fb ws f:=by unfold fa fb;rw[zD];rfl
theorem gN{ws:List Wl}(hU:∀w∈ws,Un5 w)(hF:PF ws){g h:Nat}(hg:g<2*ws.length)(hh:h<2*ws.length)(ne:g≠h)(e:fa ws g=fa ws h):Ray (fd ws g) (fd ws h):=by
 obtain⟨g1,_,g3⟩:=bC (ws:=ws) (k:=((g/2:Nat):Int)) (by omega) (by omega);obtain⟨h1,_,h3⟩:=bC (ws:=ws) (k:=((h/2:Nat):Int)) (by omega) (by omega);have U:=hU _ g3;have V:=hU _ h3;rw[Hb]at g1 h1;unfold fa at e;have e1:=congrArg Prod.fst e;have e2:=congrArg Prod.snd e;unfold fd;unfold fw at *;by_cases same:g/2=h/2
 ·exfalso;rw[<-same]at e1 e2;have lt:=U.lt;unfold l1 l2 la at lt;by_cases p:g%2=0
  ·rw[if_pos p,if_neg (show ¬h%2=0 by omega)]at e1 e2;unfold rev at e1 e2;dsimp only at e1 e2;omega
  ·rw[if_neg p,if_pos (show h%2=0 by omega)]at e1 e2;unfold rev at e1 e2;dsimp only at e1 e2;omega
 ·have F:=hF _ _ _ _ same g1 h1;generalize wAt ws ((g/2:Nat):Int)=u at *;generalize wAt ws ((h/2:Nat):Int)=v at *;intro z;have lu:=U.lt;have lv:=V.lt;unfold vc crs at z;have q2:=F.e2;have q4:=F.e4;have q1:=F.e1;have q3:=F.e3;have qn:=F.ne;unfold aY at q1 q2 q3 q4;unfold vl;by_cases p:g%2=0<;>by_cases q:h%2=0
  ·rw[if_pos p,if_pos q]at z e1 e2 ⊢;exfalso;simp only[]at z e1 e2;have s2:sd2 u v=0:=by unfold sd2 sd crs;grind
   have s4:sd2 v u=0:=by unfold sd2 sd crs;grind
   have el:l1 u=l1 v:=by unfold l1;rw[e1,e2]
   omega
  ·rw[if_pos p,if_neg q]at z e1 e2 ⊢;unfold rev at *;simp only[]at z e1 e2 ⊢;have d1:la (u.2.2.1-u.1) (u.2.2.2-u.2.1)=l2 u-l1 u:=by unfold l1 l2 la;omega
   have d2:la (v.1-v.2.2.1) (v.2.1-v.2.2.2)=-(l2 v-l1 v):=by unfold l1 l2 la;omega
   rw[d1,d2];exact Fx (by omega) (by omega)
  ·rw[if_neg p,if_pos q]at z e1 e2 ⊢;unfold rev at *;simp only[]at z e1 e2 ⊢;have d1:la (u.1-u.2.2.1) (u.2.1-u.2.2.2)=-(l2 u-l1 u):=by unfold l1 l2 la;omega
   have d2:la (v.2.2.1-v.1) (v.2.2.2-v.2.1)=l2 v-l1 v:=by unfold l1 l2 la;omega
   rw[d1,d2];exact Fw (by omega) (by omega)
  ·rw[if_neg p,if_neg q]at z e1 e2 ⊢;unfold rev at *;exfalso;simp only[]at z e1 e2;have s2:sd1 u v=0:=by unfold sd1 sd crs;grind
   have s4:sd1 v u=0:=by unfold sd1 sd crs;grind
   have el:l2 u=l2 v:=by unfold l2;rw[e1,e2]
   omega
def cJ(R:Nat->Nat->Bool)(o:Option Nat)(g:Nat):Option Nat:=match o with
 |none=>some g
 |some h=>if R g h=true then some g else some h
theorem fold_min{R:Nat->Nat->Bool}{S:Nat->Prop}(tot:∀x y,S x->S y->x≠y->R x y=true\/R y x=true)(tr:∀x y z,S x->S y->S z->R x y=true->R y z=true->R x z=true) :
 ∀(l:List Nat) (h:Nat),S h->(∀x∈l,S x)->∃m,l.foldl (cJ R) (some h)=some m/\S m/\(m=h\/m∈l)/\(h=m\/R m h=true)/\∀x∈l,x=m\/R m x=true
 |[],h,sh,_=>⟨h,rfl,sh,.inl rfl,.inl rfl,fun x hx=>by cases hx⟩
 |g::l,h,sh,hl=>by
  have sg:=hl g (by simp)
  rw[List.foldl_cons]
  by_cases r:R g h=true
  ·obtain⟨m,e,sm,mem,h1,h2⟩:=fold_min tot tr l g sg (fun x hx=>hl x (by simp[hx]))
   have es:cJ R (some h) g=some g:=by unfold cJ;simp[r]
   rw[es]
   refine⟨m,e,sm,?_,?_,?_⟩
   ·rcases mem with z|z
    ·right;simp[z]
    ·right;simp[z]
   ·right
    rcases h1 with z|z
    ·rw[<-z];exact r
    ·exact tr _ _ _ sm sg sh z r
   ·intro x hx
    rcases FN.mp hx with z|z
    ·subst z;exact h1
    ·exact h2 x z
  ·obtain⟨m,e,sm,mem,h1,h2⟩:=fold_min tot tr l h sh (fun x hx=>hl x (by simp[hx]))
   have es:cJ R (some h) g=some h:=by unfold cJ;simp[r]
   rw[es]
   refine⟨m,e,sm,?_,h1,?_⟩
   ·rcases mem with z|z
    ·exact .inl z
    ·right;simp[z]
   ·intro x hx
    rcases FN.mp hx with z|z
    ·subst z
     by_cases ne:x=h
     ·subst ne;exact h1
     ·rcases tot x h sg sh ne with q|q
      ·exact absurd q r
      ·rcases h1 with z|z
       ·right;rw[<-z];exact q
       ·right;exact tr _ _ _ sm sh sg z q
    ·exact h2 x z
def vI(ws:List Wl)(f g:Nat):Bool:=decide (fa ws g=fb ws f)&&decide (g≠fx f)
def gW(ws:List Wl)(f:Nat):List Nat:=(Fg (2*ws.length)).filter (vI ws f)
def snF(ws:List Wl)(f g h:Nat):Bool:=snr (fd ws (fx f)) (fd ws g) (fd ws h)
def bh(ws:List Wl)(f:Nat):Nat:=((gW ws f).foldl (cJ (snF ws f)) none).getD (fx f)
theorem b7{ws:List Wl}{f g:Nat}:g∈gW ws f↔g<2*ws.length/\fa ws g=fb ws f/\g≠fx f:=by unfold gW vI;simp[Ge]
theorem iO{ws:List Wl}(hU:∀w∈ws,Un5 w)(hF:PF ws){f:Nat}(hf:f<2*ws.length):(gW ws f=[]/\bh ws f=fx f)\/(bh ws f∈gW ws f/\∀x∈gW ws f,x=bh ws f\/snF ws f (bh ws f) x=true):=by
 unfold bh;cases c:gW ws f with
 |nil=>exact .inl ⟨rfl,rfl⟩
 |cons g l=>
  right
  have sub:∀x∈g::l,x<2*ws.length/\fa ws x=fb ws f/\x≠fx f:=fun x hx=>b7.mp (by rw[c];exact hx)
  have ry:∀x,(x<2*ws.length/\fa ws x=fb ws f/\x≠fx f)->Ray (fd ws (fx f)) (fd ws x):=fun x hx=>gN hU hF (je hf) hx.1 (fun z=>hx.2.2 z.symm) (by rw[j9,hx.2.1])
  obtain⟨m,e,sm,mem,h1,h2⟩:=fold_min (R:=snF ws f) (S:=fun x=>x<2*ws.length/\fa ws x=fb ws f/\x≠fx f) (fun x y hx hy ne=>tJ (ry x hx) (ry y hy) (gN hU hF hx.1 hy.1 ne (by rw[hx.2.1,hy.2.1]))) (fun x y z hx hy hz a b=>sE (ry x hx) (ry y hy) (ry z hz) a b) l g (sub g (by simp)) (fun x hx=>sub x (by simp[hx]))
  rw[List.foldl_cons]
  have es:cJ (snF ws f) none g=some g:=rfl
  rw[es,e]
  simp only[Hk]
  refine⟨by rcases mem with z|z<;>simp[z],fun x hx=>?_⟩
  rcases FN.mp hx with z|z
  ·subst z;exact h1
  ·exact h2 x z
theorem Cy{ws:List Wl}(hU:∀w∈ws,Un5 w)(hF:PF ws){f:Nat}(hf:f<2*ws.length):bh ws f<2*ws.length:=by
 rcases iO hU hF hf with⟨_,e⟩|⟨h,_⟩
 ·rw[e];exact je hf
 ·exact(b7.mp h).1
theorem rh{ws:List Wl}(hU:∀w∈ws,Un5 w)(hF:PF ws){f:Nat}(hf:f<2*ws.length):fa ws (bh ws f)=fb ws f:=by
 rcases iO hU hF hf with⟨_,e⟩|⟨h,_⟩
 ·rw[e,j9]
 ·exact(b7.mp h).2.1
theorem Av{ws:List Wl}(hU:∀w∈ws,Un5 w)(hF:PF ws){f g:Nat}(hf:f<2*ws.length)(hg:g<2*ws.length)(e:bh ws f=bh ws g):f=g:=by
 by_cases ne:fx f=fx g
 ·rw[<-zg f,ne,zg]
 ·exfalso;have c:fb ws f=fb ws g:=by rw[<-rh hU hF hf,<-rh hU hF hg,e]
  have m1:fx g∈gW ws f:=b7.mpr ⟨je hg,by rw[j9,c],fun z=>ne z.symm⟩;have m2:fx f∈gW ws g:=b7.mpr ⟨je hf,by rw[j9,c],ne⟩;rcases iO hU hF hf with⟨z,_⟩|⟨k1,k2⟩
  ·rw[z]at m1;cases m1
  ·rcases iO hU hF hg with⟨z,_⟩|⟨j1,j2⟩
   ·rw[z]at m2;cases m2
   ·have n1:=(b7.mp k1).2.2;have n2:=(b7.mp j1).2.2;have s1:=(k2 _ m1).resolve_left (fun z=>n2 (by rw[<-e,<-z]));have s2:=(j2 _ m2).resolve_left (fun z=>n1 (by rw[e,<-z]));rw[<-e]at s2;exact xV (gN hU hF (je hf) (je hg) ne (by rw[j9,j9,c])) s1 s2
def itb(ws:List Wl)(f:Nat):Nat->Nat
 |0=>f
 |k+1=>bh ws (itb ws f k)
def rn(ws:List Wl)(f k:Nat):List Nat:=(Fg (k+1)).map (itb ws f)
def NR(ws:List Wl)(f k:Nat):Prop:=∀i j,i<j->j<=k->itb ws f i≠itb ws f j
theorem gL(ws:List Wl)(f k:Nat):(rn ws f k).length=k+1:=by simp[rn]
theorem qI(ws:List Wl)(f k:Nat):rn ws f (k+1)=rn ws f k++[itb ws f (k+1)]:=by unfold rn;rw[List.range_succ,FI];rfl
theorem xB(ws:List Wl)(f:Nat):rn ws f 0=[f]:=rfl
theorem tR:∀(m:Nat) (l:List Nat),l.Nodup->(∀x∈l,x<m)->l.length<=m
 |0,l,_,h=>by
  cases l with
  |nil=>simp
  |cons a l=>exact absurd (h a (by simp)) (by omega)
 |m+1,l,nd,h=>by
  have h1:=tR m (l.erase m) (nd.erase m) (fun x hx=>by
   have:=h x (List.mem_of_mem_erase hx)
   have ne:x≠m:=fun z=>by
    subst z
    exact absurd hx (nd.not_mem_erase)
   omega)
  have:=List.length_erase_le (a:=m) (l:=l)
  by_cases hm:m∈l
  ·have:=List.length_erase_of_mem hm;omega
  ·rw[List.erase_of_not_mem hm]at h1;omega
section
variable{ws:List Wl}(hU:∀w∈ws,Un5 w)(hF:PF ws){f:Nat}(hf:f<2*ws.length)
include hU hF hf
theorem eG:∀k,itb ws f k<2*ws.length
 |0=>hf
 |k+1=>Cy hU hF (eG k)
theorem xl{k:Nat}(h:NR ws f k)(ne:bh ws (itb ws f k)≠f):NR ws f (k+1):=fun i j hij hj e=>by
 by_cases q:j<=k
 ·exact h i j hij q e
 ·have:j=k+1:=by omega
  subst this;cases i with
  |zero=>exact ne e.symm
  |succ i=>exact h i k (by omega) (E8 _) (Av hU hF (eG hU hF hf i) (eG hU hF hf k) e)
theorem qG{k:Nat}(h:NR ws f k):k+1<=2*ws.length:=by
 rw[<-gL ws f k];refine tR _ _ ?_ (fun x hx=>?_)
 ·unfold rn;rw[List.nodup_iff_pairwise_ne,Ih];refine List.Pairwise.imp_of_mem ?_ (List.pairwise_lt_range (n:=k+1));intro a b ha hb hab;exact h a b hab (by have:=Gg.mp hb;omega)
 ·unfold rn at hx;obtain⟨i,_,rfl⟩:=Fm.mp hx;exact eG hU hF hf i
end
structure Rng(ws:List Wl)(r:List Nat):Prop where
 ex:∃f k,f<2*ws.length/\k+1<=2*ws.length/\r=rn ws f k/\bh ws (itb ws f k)=f
theorem xw(ws:List Wl)(f:Nat):NR ws f 0:=fun i j hij hj=>by omega
theorem round0{ws:List Wl}(hU:∀w∈ws,Un5 w)(hF:PF ws){f k:Nat}(hf:f<2*ws.length)(c:bh ws (itb ws f k)=f)(φ:Vc->Rat):((rn ws f k).map fun g=>φ (fb ws g)-φ (fa ws g)).sum=0:=by
 have key:∀k,((rn ws f k).map fun g=>φ (fb ws g)-φ (fa ws g)).sum=φ (fb ws (itb ws f k))-φ (fa ws f):=fun k=>by
  induction k with
  |zero=>rw[xB];simp only[EW,GR,HH,List.sum_nil,Rat.add_zero];rfl
  |succ k ih=>
   rw[qI,FI,List.sum_append,ih]
   simp only[EW,GR,HH,List.sum_nil]
   have:fa ws (itb ws f (k+1))=fb ws (itb ws f k):=rh hU hF (eG hU hF hf k)
   rw[this]
   grind
 rw[key,<-rh hU hF (eG hU hF hf k),c];grind
def twT(ws:List Wl)(g:Nat):Int:=(fa ws g).1*(fb ws g).2-(fb ws g).1*(fa ws g).2
def arT(t b X Y:Int)(ws:List Wl)(g:Nat):Rat:=Ma.ut t b X 1 (fa ws g).1*Ma.ut t b Y 1 (fb ws g).2-Ma.ut t b X 1 (fb ws g).1*Ma.ut t b Y 1 (fa ws g).2
theorem rF(a c d:Rat)(u v w:Nat->Rat):∀l:List Nat,(l.map fun g=>a*u g+(c*v g+d*w g)).sum=a*(l.map u).sum+(c*(l.map v).sum+d*(l.map w).sum)
 |[]=>by simp;grind
 |g::l=>by
  rw[EW,HH,rF a c d u v w l,EW,HH,EW,HH,EW,HH]
  grind
theorem oz(u:Nat->Int):∀l:List Nat,(l.map fun g=>((u g:Int):Rat)).sum=(((l.map u).sum:Int):Rat)
 |[]=>by simp
 |g::l=>by
  rw[EW,HH,oz u l,EW,HH,Rat.intCast_add]
theorem Cv{ws:List Wl}(hU:∀w∈ws,Un5 w)(hF:PF ws){r:List Nat}(h:Rng ws r){t b X Y:Int}(hb:0<b):(r.map (arT t b X Y ws)).sum=((t:Rat)/b)*((t:Rat)/b)*(((r.map (twT ws)).sum:Int):Rat):=by
 obtain⟨f,k,hf,_,rfl,c⟩:=h.ex;have z1:=round0 hU hF hf c (fun p=>((p.1:Int):Rat));have z2:=round0 hU hF hf c (fun p=>((p.2:Int):Rat))
 have e:(arT t b X Y ws)=fun g=>(((t:Rat)/b)*((t:Rat)/b))*((twT ws g:Int):Rat)+((-(((t:Rat)/b)*((Y:Rat)/b)))*((((fb ws g).1:Int):Rat)-(((fa ws g).1:Int):Rat))+(((t:Rat)/b)*((X:Rat)/b))*((((fb ws g).2:Int):Rat)-(((fa ws g).2:Int):Rat))):=by
  funext g
  unfold arT twT;rw[cy hb,cy hb,cy hb,cy hb,Hw,Gq,Gq];grind
 rw[e,rF,oz];rw[z1,z2];grind
theorem qX(q:Rat)(B:Int)(h:(q.den:Int) ∣ B):((q.num*B.fdiv (q.den:Int):Int):Rat)=q*(B:Rat):=by
 obtain⟨k,rfl⟩:=h;have hd:(q.den:Int)≠0:=by have:=q.den_nz;omega
 have e:((q.den:Int)*k).fdiv (q.den:Int)=k:=by rw[Gi _ (by omega)];exact Int.mul_ediv_cancel_left k hd
 rw[e,Gq,Gq];have hd':((q.den:Int):Rat)≠0:=fun z=>hd (by exact_mod_cast z)
 have m:q*((q.den:Int):Rat)=(q.num:Rat):=by
  have e:=Rat.num_divInt_den q
  rw[Rat.divInt_eq_div]at e
  rw[<-e]
  have e3:((q.num:Rat)/((q.den:Int):Rat))*((q.den:Int):Rat)=(q.num:Rat):=by grind
  rw[e]at e3 ⊢
  exact e3
 rw[<-m];grind
theorem xm{n d:Int}(hd:0<d):((Rat.divInt n d).den:Int) ∣ d:=by rw[Rat.den_divInt,if_neg (by omega)];have h1:d.natAbs/d.gcd n ∣ d.natAbs:=Nat.div_dvd_of_dvd (Int.ofNat_dvd_left.mp (Int.gcd_dvd_left d n));exact Int.ofNat_dvd_left.mpr h1
section
variable{X:Cx}
def Cr:R2D:=rI2 (fun _ _=>True) fun i j=>.int (Builtin.bitXor i j)
theorem z8:OpD X (Hi .BitXor) Cr:=cz (ri0 Bk) fun _ _ _=>by rw[Rep]
variable{o:Expr}{to:TD}{apos cpos:Pos}
end
theorem Bu:∀f:Nat,f<80->Builtin.bitXor (f:Int) 1=((fx f:Nat):Int):=by decide
def diA(n:Nat)(S:Int->Bool):E2->Hp->Addr->Prop:=fun K H a=>∃kvs:List (Key×V),H a=some (.dK kvs)/\kvs.length<=n/\∀i:Int,(kvs.any fun kv=>decide (kv.1=Sum.inl i))=S i
def diM(n:Nat)(S:Int->Bool):MO:=.gen (diA n S)
section
variable{K:E2}{H H':Hp}{M:MH}{a:Addr}
theorem diA.wA{n:Nat}{S:Int->Bool}(h:diA n S K H a):nO K H a (diM n S):=⟨h,(by obtain⟨kvs,h1,_⟩:=h;rw[h1];simp),fun H' g e=>let⟨kvs,h1,h2⟩:=h;⟨kvs,e.trans h1,h2⟩⟩
theorem Abs.di{n:Nat}{S:Int->Bool}(h:Abs K H M)(e:M a=some (diM n S)):diA n S K H a:=(h a _ e).1
theorem Abs.Dy{p:Addr}(h:Abs K H M)(hp:H p=none):Abs K (upd H p (.dK [])) (aw M p (diM 0 fun _=>false)):=fun a u e=>by
 by_cases ne:a=p
 ·subst ne;rw[aj]at e;cases e;exact diA.wA ⟨[],aM,E8 _,fun _=>rfl⟩
 ·rw[ar ne]at e;exact(h a u e).fW (.new hp) (aK ne)
theorem Grow.dK{kvs:List (Key×V)}{o:HO}(h:H a=some (.dK kvs)):Grow K H (upd H a o):=.put (fun xs e=>by rw[h]at e;cases e) (fun u xs e=>by rw[h]at e;cases e)
theorem Abs.Dx{n:Nat}{S:Int->Bool}{kvs:List (Key×V)}{i:Int}{v:V}(h:Abs K H M)(hx:H a=some (.dK kvs))(hn:kvs.length<=n)(hS:∀i:Int,(kvs.any fun kv=>decide (kv.1=Sum.inl i))=S i) : Abs K (upd H a (.dK (putK kvs (.inl i) v))) (aw M a (diM (n+1) fun j=>decide (j=i)||S j)):=fun c u e=>by
 by_cases ne:c=a
 ·subst ne;rw[aj]at e;cases e;refine diA.wA ⟨_,aM,by have:=eV kvs (.inl i) v;omega,fun j=>?_⟩;rw[c8,uW];by_cases z:j=i
  ·subst z;rw[if_pos rfl];simp
  ·rw[if_neg (fun q=>z (by injection q)),<-c8,hS];simp[z]
 ·rw[ar ne]at e;exact(h c u e).fW (.dK hx) (aK ne)
end
section
variable{X:Cx}{pos:Pos}
def B6:TD:=fun _ M Q=>∀p,M p=none->Q (.ref p) (aw M p (diM 0 fun _=>false))
theorem uf:DE X (.Dict [] [] pos) B6:=aP wa fun σ H Q zz1_0=>by obtain⟨δ,M,R,hs,hM,q,fin⟩:=zz1_0;exact(fun p hp=>fin _ _ _ _ (.new hp) (by rw[Rep]) (hM.Dy hp) (q p (hM.fresh hp)))
def zu(g:Bool->Bool)(ty td:TD):TD:=fun δ M Q=>ty δ M fun y M1=>td δ M1 fun x M2=>∃i l n S,y=.int i/\x=.ref l/\M2 l=some (diM n S)/\Q (.bl (g (S i))) M2
theorem y8{K:E2}{g:Bool->Bool}{ty td:TD}{σ:L2.St}{H:Hp}{Q:VK}(h:lift K (zu g ty td) σ H Q) : (lift K ty) σ H fun y H1=>(lift K td) σ H1 fun x H2=>∃a o,x=.ref a/\AY H2 a y o/\Q (.bl (g o.isSome)) H2:=by obtain⟨δ,M,R,hs,hM,q,fin⟩:=h;refine⟨δ,M,_,hs,hM,q,fun y M1 v H1 g1 r1 a1 q1=>⟨δ,M1,_,hs.mono g1,a1,q1,fun x M2 u H2 g2 r2 a2 zz2_0=>?_⟩⟩;obtain⟨i,l,n,S,ey,ex,hl,q2⟩:=zz2_0;subst ey ex;rw[Rep]at r1;rw[Rep]at r2;subst r1 r2;obtain⟨kvs,h1,h2,h3⟩:=a2.di hl;refine⟨l,dI kvs (.inl i),rfl,.inl ⟨kvs,.inl i,.inl h1,rfl,rfl⟩,?_⟩;rw[<-c8,h3];exact fin _ _ _ _ (g1.trans g2) (by rw[Rep]) a2 q2
variable{e1 e2:Expr}{ty td:TD}
theorem pA(hu:X.A.units+66<G0)(h1:DE X e1 ty)(h2:DE X e2 td)(hm:Ii .NotIn e2=false:=by rfl):DT X (.Compare e1 [.NotIn] [e2] pos) (tBD (zu (fun b=>!b) ty td)):=
 jP (Ad (sN (by omega) h1 h2) hm) fun σ H Q zz5_0=>by obtain⟨δ,M,R,hs,hM,q,fin⟩:=zz5_0;exact(y8 (g:=fun b=>!b) (Q:=fun x H'=>∃c,x=.bl c/\Q c H') ⟨δ,M,_,hs,hM,q,fun d M' v H' g r a zz6_0=>by
  obtain⟨c,ec,z⟩:=zz6_0
  subst ec
  rw[Rep]at r;subst r
  exact⟨c,rfl,fin _ _ _ g a z⟩⟩)
def AO(td ty tv:TD):TSD:=fun B δ M=>tv δ M fun d M1=>td δ M1 fun x M2=>ty δ M2 fun y M3=>∃l i n S,x=.ref l/\y=.int i/\M3 l=some (diM n S)/\n<1000000/\B.nx δ (aw M3 l (diM (n+1) fun j=>decide (j=i)||S j))
theorem vf{o i value:Expr}{tv:TD}{pos':Pos}(hu:X.A.units+66<G0)(ho:DE X o td)(hi:DE X i ty)(hv:DE X value tv)(hs:HI value (some (.Subscript o i pos')) pos.line X.env=pure false:=by rfl):DSt X (.Assign [.Subscript o i pos'] value pos) (AO td ty tv):=
 bW (ya (by omega) ho hi hv hs) fun D σ H zz7_0=>by obtain⟨δ,M,hs,hM,B,ok,q⟩:=zz7_0;exact(⟨δ,M,_,hs,hM,q,fun d M1 v H1 g1 r1 a1 q1=>⟨δ,M1,_,hs.mono g1,a1,q1,fun x M2 u H2 g2 r2 a2 q2=>⟨δ,M2,_,(hs.mono g1).mono g2,a2,q2,fun y M3 u3 H3 g3 r3 a3 zz8_0=>by
  obtain⟨l,i,n,S,ex,ey,hl,hn,q3⟩:=zz8_0
  subst ex ey
  rw[Rep]at r2;rw[Rep]at r3;subst r2 r3
  obtain⟨kvs,h1,h2,h3⟩:=a3.di hl
  have sz:1000000<=Fb:=nbL rfl
  have g4:Grow X.K H3 (upd H3 l (.dK (putK kvs (.inl i) v))):=.dK h1
  exact⟨l,_,rfl,.inl ⟨kvs,.inl i,h1,rfl,by omega,rfl⟩,ok.nx _ _ _ _ (((g1.trans g2).trans g3).trans g4) (hs.mono (((g1.trans g2).trans g3).trans g4)) (a3.Dx h1 h2 h3) q3⟩⟩⟩⟩)
end
def Eo(ws:List Wl)(f:Nat)(r:List Nat):Prop:=∃kk,NR ws f kk/\bh ws (itb ws f kk)=f/\r=rn ws f kk
def Rgs(ws:List Wl):Nat->List (List Nat)->Prop
 |0,rs=>rs=[]
 |i+1,rs=>∃qs,Rgs ws i qs/\((i∈qs.flatten/\rs=qs)\/(i∉qs.flatten/\∃r,Eo ws i r/\rs=qs++[r]))
def RL(M:MH)(ps:List Addr)(rs:List (List Nat)):Prop:=Iz (fun(p:Addr) (r:List Nat)=>M p=some (.lst (r.map fun g:Nat=>D.int (g:Int)))) ps rs
theorem RL.len{M:MH}{ps:List Addr}{rs:List (List Nat)}(h:RL M ps rs):ps.length=rs.length:=by
 unfold RL at h
 induction h with
 |nil=>rfl
 |cons _ _ ih=>rw[Fi,Fi,ih]
theorem RL.mono{M M':MH}{ps:List Addr}{rs:List (List Nat)}(h:RL M ps rs)(s:∀p∈ps,∀o,M p=some o->M' p=some o):RL M' ps rs:=by
 unfold RL at *
 induction h with
 |nil=>exact .nil
 |cons a _ ih=>exact .cons (s _ (by simp) _ a) (ih fun p hp o e=>s p (by simp[hp]) o e)
theorem RL.snoc{M:MH}{ps:List Addr}{rs:List (List Nat)}{p:Addr}{r:List Nat}(h:RL M ps rs)(e:M p=some (.lst (r.map fun g:Nat=>D.int (g:Int)))):RL M (ps++[p]) (rs++[r]):=Paired.snoc h e
section
variable{α β:Type}{n:Nat}{k:Nat->Int}
def kwp(n:Nat)(k:Nat->Int){α:Type}:PySem.W.KasT α->(α->Prop)->Prop
 |.ret a,Q=>Q a
 |.ask i j f,Q=>i<n/\j<n/\kwp n k (f (decide (k i<k j))) Q
theorem dE{f:α->PySem.W.KasT β}{Q:β->Prop}:∀(t:PySem.W.KasT α),kwp n k t (fun a=>kwp n k (f a) Q)->kwp n k (t.bind f) Q
 |.ret _,h=>h
 |.ask i j g,h=>⟨h.1,h.2.1,dE _ h.2.2⟩
theorem b6{Q R:α->Prop}(hq:∀a,Q a->R a):∀(t:PySem.W.KasT α),kwp n k t Q->kwp n k t R
 |.ret _,h=>hq _ h
 |.ask i j g,h=>⟨h.1,h.2.1,b6 hq _ h.2.2⟩
theorem qT{cmp:Nat->Nat->(Bool->E3->Prop)->E3->Prop}{s:E3}(hc:∀i j (C:Bool->E3->Prop),i<n->j<n->C (decide (k i<k j)) s->cmp i j C s){Q:α->E3->Prop}:∀(t:PySem.W.KasT α),kwp n k t (fun a=>Q a s)->t.kasWp cmp Q s
 |.ret _,h=>h
 |.ask i j g,h=>hc i j _ h.1 h.2.1 (qT hc _ h.2.2)
structure Pmu(n:Nat)(p:Array Nat):Prop where
 perm:p.Perm (Fg n).toArray
theorem Pmu.size{p:Array Nat}(h:Pmu n p):p.size=n:=by have:=h.perm.size_eq;simpa using this
theorem Pmu.lt{p:Array Nat}(h:Pmu n p){i:Nat}(hi:i<n):p.getD i 0<n:=by
 have hi':i<p.size:=by rw[h.size];exact hi
 have:p[i]∈(Fg n).toArray:=h.perm.mem_iff.mp (Array.getElem_mem hi');simpa[Array.getD,hi']using this
theorem Pmu.inj{p:Array Nat}(h:Pmu n p){i j:Nat}(hi:i<n)(hj:j<n)(e:p.getD i 0=p.getD j 0):i=j:=by
 have hi':i<p.size:=by rw[h.size];exact hi
 have hj':j<p.size:=by rw[h.size];exact hj
 have nd:p.toList.Nodup:=(Array.perm_iff_toList_perm.mp h.perm).nodup_iff.mpr (by simpa using List.nodup_range);have e':p.toList[i]=p.toList[j]:=by simpa[Array.getD,hi',hj']using e
 have pw:=FY.mp nd;rcases Hr i j with h|h|h
 ·exact absurd e' (pw i j _ _ h)
 ·exact h
 ·exact absurd e'.symm (pw j i _ _ h)
def ky(k:Nat->Int)(p:Array Nat)(i:Nat):Int:=k (p.getD i 0)
def Inj(n:Nat)(k:Nat->Int):Prop:=∀i j,i<n->j<n->k i=k j->i=j
theorem pM(hk:Inj n k){p:Array Nat}(h:Pmu n p){i j:Nat}(hi:i<n)(hj:j<n)(hij:i≠j):ky k p i≠ky k p j:=fun e=>hij (h.inj hi hj (hk _ _ (h.lt hi) (h.lt hj) e))
def Up(k:Nat->Int)(p:Array Nat)(m:Nat):Prop:=∀i j,i<j->j<m->ky k p i<ky k p j
def Dn(k:Nat->Int)(p:Array Nat)(m:Nat):Prop:=∀i j,i<j->j<m->ky k p j<ky k p i
theorem yB{p:Array Nat}{m:Nat}(h1:1<=m)(h:Up k p m)(h2:ky k p (m-1)<ky k p m):Up k p (m+1):=fun i j hij hj=>by
 by_cases e:j=m
 ·subst e;by_cases e':i=j-1
  ·subst e';exact h2
  ·have:=h i (j-1) (by omega) (by omega);omega
 ·exact h i j hij (by omega)
theorem yu{p:Array Nat}{m:Nat}(h1:1<=m)(h:Dn k p m)(h2:ky k p m<ky k p (m-1)):Dn k p (m+1):=fun i j hij hj=>by
 by_cases e:j=m
 ·subst e;by_cases e':i=j-1
  ·subst e';exact h2
  ·have:=h i (j-1) (by omega) (by omega);omega
 ·exact h i j hij (by omega)
theorem l5(hk:Inj n k){p:Array Nat}(hp:Pmu n p):∀(f m:Nat),1<=m->m+f=n->Up k p m->kwp n k (PySem.W.kas_asc p f m) fun r=>m<=r/\r<=n/\Up k p r/\(r=n\/ky k p r<ky k p (r-1))
 |0,m,h1,e,u=>⟨E8 _,by omega,u,.inl (by omega)⟩
 |f+1,m,h1,e,u=>by
  refine⟨hp.lt (by omega),hp.lt (by omega),?_⟩
  by_cases c:k (p.getD m 0)<k (p.getD (m-1) 0)
  ·rw[decide_eq_true c]
   exact⟨E8 _,by omega,u,.inr c⟩
  ·rw[decide_eq_false c]
   have ne:=pM hk hp (i:=m) (j:=m-1) (by omega) (by omega) (by omega)
   refine b6 (fun r h=>⟨by omega,h.2⟩) _ (l5 hk hp f (m+1) (by omega) (by omega) (yB h1 u ?_))
   unfold ky at ne ⊢;omega
theorem nv(hk:Inj n k){p:Array Nat}(hp:Pmu n p):∀(f m:Nat),1<=m->m+f=n->Dn k p m->kwp n k (PySem.W.kas_desc f p m 0) fun r=>r.1=p/\r.2.2=0/\m<=r.2.1/\r.2.1<=n/\Dn k p r.2.1
 |0,m,h1,e,u=>⟨rfl,rfl,E8 _,by show m<=n;omega,u⟩
 |f+1,m,h1,e,u=>by
  refine⟨hp.lt (by omega),hp.lt (by omega),?_⟩
  by_cases c:k (p.getD m 0)<k (p.getD (m-1) 0)
  ·rw[decide_eq_true c]
   exact b6 (fun r h=>⟨h.1,h.2.1,by omega,h.2.2.2⟩) _ (nv hk hp f (m+1) (by omega) (by omega) (yu h1 u c))
  ·rw[decide_eq_false c]
   have ne:=pM hk hp (i:=m) (j:=m-1) (by omega) (by omega) (by omega)
   have c2:k (p.getD (m-1) 0)<k (p.getD m 0):=by unfold ky at ne;omega
   refine⟨hp.lt (by omega),hp.lt (by omega),?_⟩
   rw[decide_eq_true c2]
   exact⟨rfl,rfl,E8 _,by show m<=n;omega,u⟩
theorem getD_eq(p:Array Nat)(i:Nat):p.getD i 0=(p[i]?).getD 0:=by simp[Array.getD_eq_getD_getElem?]
theorem qV{p:Array Nat}{m:Nat}(hp:Pmu n p):Pmu n (PySem.W.kas_rev p 0 m):=⟨(mirror_perm _ _ _ _).trans hp.perm⟩
theorem AU{p:Array Nat}{m:Nat}(hp:Pmu n p)(hm:m<=n)(h:Dn k p m):Up k (PySem.W.kas_rev p 0 m) m:=fun i j hij hj=>by unfold ky PySem.W.kas_rev;rw[getD_eq,getD_eq,getElem?_mirror_all (by rw[hp.size];exact hm),getElem?_mirror_all (by rw[hp.size];exact hm),if_pos ⟨by omega,by omega⟩,if_pos ⟨by omega,hj⟩,<-getD_eq,<-getD_eq];exact h (0+m-1-j) (0+m-1-i) (by omega) (by omega)
theorem sT(hk:Inj n k){p:Array Nat}(hp:Pmu n p){m:Nat}(h1:1<=m)(hm:m<=n)(d:Dn k p m):kwp n k (PySem.W.kas_tail3 m n p) fun r=>Pmu n r.2/\1<=r.1/\r.1<=n/\Up k r.2 r.1:=dE _ (b6 (fun r h=>show Pmu n _/\_ from⟨qV hp,by show 1<=r;omega,h.2.1,h.2.2.1⟩) _ (l5 hk (qV hp) (n-m) m h1 (by omega) (AU hp hm d)))
theorem r9(hk:Inj n k)(hn:2<=n){p:Array Nat}(hp:Pmu n p):kwp n k (PySem.W.kas_count n p) fun r=>Pmu n r.2/\1<=r.1/\r.1<=n/\Up k r.2 r.1:=by
 refine dE _ (b6 (fun r h=>?_) _ (l5 hk hp (n-1) 1 (E8 _) (by omega) fun i j hij hj=>by omega));obtain⟨r1,r2,u,hr⟩:=h;by_cases e:r=n
 ·rw[if_pos (by simp[e])];exact⟨hp,r1,r2,u⟩
 ·rw[if_neg (by simp[e])];by_cases e1:r>1
  ·rw[if_pos e1];refine⟨hp.lt (by omega),hp.lt (by omega),?_⟩;have:k (p.getD 0 0)<k (p.getD (r-1) 0):=u 0 (r-1) (by omega) (by omega);rw[decide_eq_true this];exact⟨hp,r1,r2,u⟩
  ·rw[if_neg e1];have er:r=1:=by omega
   subst er;refine dE _ (b6 (fun q h=>?_) _ (nv hk hp (n-(1+1)) (1+1) (by omega) (by omega) fun i j hij hj=>?_))
   ·obtain⟨e2,e3,e4,e5,d⟩:=h;rw[if_neg (by rw[e3];exact HD 0),e2];exact sT hk hp (by omega) e5 d
   ·obtain rfl:i=0:=by omega
    obtain rfl:j=1:=by omega
    exact hr.resolve_left e
theorem h8(hk:Inj n k){p:Array Nat}(hp:Pmu n p){m:Nat}(hm:m<n)(u:Up k p m):∀(f l r:Nat),r<=l+f->l<=r->r<=m->(∀i,i<l->ky k p i<ky k p m)->(∀i,r<=i->i<m->ky k p m<ky k p i)->
 kwp n k (PySem.W.kas_place p m f l r) fun x=>x<=m/\(∀i,i<x->ky k p i<ky k p m)/\(∀i,x<=i->i<m->ky k p m<ky k p i)
 |0,l,r,h1,h2,h3,a,b=>⟨by omega,a,fun i hi hm=>b i (by omega) hm⟩
 |f+1,l,r,h1,h2,h3,a,b=>by
  show kwp n k (if l≥r then _ else _) _
  by_cases e:l≥r
  ·rw[if_pos e]
   exact⟨by omega,a,fun i hi hm=>b i (by omega) hm⟩
  ·rw[if_neg e]
   refine⟨hp.lt hm,hp.lt (by omega),?_⟩
   by_cases c:k (p.getD m 0)<k (p.getD ((l+r)/2) 0)
   ·rw[decide_eq_true c]
    refine h8 hk hp hm u f l ((l+r)/2) (by omega) (by omega) (by omega) a fun i hi him=>?_
    by_cases ei:i=(l+r)/2
    ·subst ei;exact c
    ·have:=u ((l+r)/2) i (by omega) him
     unfold ky at this ⊢;omega
   ·rw[decide_eq_false c]
    have ne:=pM hk hp (i:=m) (j:=(l+r)/2) hm (by omega) (by omega)
    refine h8 hk hp hm u f ((l+r)/2+1) r (by omega) (by omega) h3 (fun i hi=>?_) b
    by_cases ei:i=(l+r)/2
    ·subst ei;unfold ky at ne ⊢;omega
    ·have:=u i ((l+r)/2) (by omega) (by omega)
     unfold ky at ne this ⊢;omega
theorem uH{p:Array Nat}(hp:Pmu n p){m x:Nat}(hm:m<n)(hx:x<=m)(i:Nat):ky k (bubble p m (m-x)) i=if i=x then ky k p m else if x<i/\i<=m then ky k p (i-1)else ky k p i:=by
 unfold ky;rw[getD_eq,getElem?_bubble (by rw[hp.size];exact hm) _ (by omega),show m-(m-x)=x by omega];split
 ·rw[<-getD_eq]
 ·split
  ·rw[<-getD_eq]
  ·rw[<-getD_eq]
theorem rH(hk:Inj n k):∀(f:Nat) (p:Array Nat) (m:Nat),Pmu n p->m+f=n->Up k p m->kwp n k (PySem.W.kas_bin f p m) fun q=>Pmu n q/\Up k q n
 |0,p,m,hp,e,u=>⟨hp,by rw[show n=m by omega];exact u⟩
 |f+1,p,m,hp,e,u=>by
  have hm:m<n:=by omega
  refine dE _ (b6 (fun x h=>?_) _ (h8 hk hp hm u m 0 m (by omega) (by omega) (E8 _) (fun i hi=>by omega) fun i hi him=>by omega))
  obtain⟨hx,a,b⟩:=h
  refine rH hk f _ (m+1) ⟨(bubble_perm _ _ _).trans hp.perm⟩ (by omega) fun i j hij hj=>?_
  rw[uH hp hm hx,uH hp hm hx]
  by_cases e1:i=x
  ·rw[if_pos e1,if_neg (by omega),if_pos ⟨by omega,by omega⟩]
   exact b _ (by omega) (by omega)
  ·rw[if_neg e1]
   by_cases e2:x<i
   ·rw[if_pos ⟨e2,by omega⟩,if_neg (by omega),if_pos ⟨by omega,by omega⟩]
    exact u _ _ (by omega) (by omega)
   ·rw[if_neg (by omega)]
    by_cases e3:j=x
    ·rw[if_pos e3];exact a i (by omega)
    ·rw[if_neg e3]
     by_cases e4:x<j
     ·rw[if_pos ⟨e4,by omega⟩]
      by_cases e5:i=j-1
      ·omega
      ·exact u _ _ (by omega) (by omega)
     ·rw[if_neg (by omega)]
      exact u _ _ hij (by omega)
theorem uc(hk:Inj n k)(hn:2<=n):kwp n k (PySem.W.kas_sort n) fun p=>Pmu n p/\Up k p n:=by
 refine dE _ (b6 (fun r h=>?_) _ (r9 hk hn (p:=(Fg n).toArray) ⟨Array.Perm.refl _⟩));obtain⟨hp,h1,h2,u⟩:=h;by_cases e:r.1<n
 ·rw[if_pos e,show max r.1 1=r.1 by omega];exact rH hk _ _ _ hp (by omega) u
 ·rw[if_neg e];have:r.1=n:=by omega
  exact⟨hp,by rw[this]at u;exact u⟩
end
section
variable{prog:F8}{w:Fy}{A:FK}{E:E1->E3->Prop}{s:E3}
abbrev ko(h:Heap)(a:Addr)(vs:List E1):Heap:=((h.update a (Obj.mapSeq fun _=>#[])).push (seqObj "tuple" vs.toArray 0)).push (seqObj "list" #[] 0)
theorem xt{h:Heap}{a:Addr}{vs:List E1}{n:Nat}(ho:h.get? a=some (seqObj "list" vs.toArray n)):∃e,(h.update a (Obj.mapSeq fun _=>#[])).get? a=some (seqObj "list" #[] e)/\(ko h a vs).get? a=some (seqObj "list" #[] e):=⟨_,get?_update_seq ho (fun _=>#[]),E5 _ (E5 _ (get?_update_seq ho (fun _=>#[])))⟩
theorem tQ{h:Heap}{a b:Addr}{vs:List E1}{o:Obj}(hb:b≠a)(e:h.get? b=some o):(ko h a vs).get? b=some o:=E5 _ (E5 _ (((FW h a (Obj.mapSeq fun _=>(#[]:Array E1))).2 b hb).trans e))
def dO(vs:List E1)(p:Array Nat):Array E1:=Gk (p.toList.map fun i=>vs.getD i Gu)
theorem u5{a:Addr}{vs:List E1}{n:Nat}{k:Nat->Int}{κ:SortKind}{P:PySem.Fin->E3->Prop}(ho:s.heap.get? a=some (seqObj "list" vs.toArray n))(h64:vs.length<64)(hinj:Inj vs.length k)
 (hk:2<=vs.length->∀(R:SortKind->E3->Prop) (E':E1->E3->Prop),R κ { s with heap:=ko s.heap a vs }->EX (F6 prog w) A (keyKind' vs.toArray) R E' { s with heap:=ko s.heap a vs })
 (hc:∀i j (C:Bool->E3->Prop),i<vs.length->j<vs.length->C (decide (k i<k j)) { s with heap:=ko s.heap a vs }->PySem.W.kas_ask prog w A κ vs i j C { s with heap:=ko s.heap a vs })
 (h:∀p,Pmu vs.length p->Up k p vs.length->P (.done (.ret .none)) { s with heap:=sortedHeap s.heap a vs (dO vs p) }):EX (F6 prog w) A (GQ.«list.sort» ⟨[.ref a],[]⟩) P E s:=by
 obtain⟨e,ho1,ho6⟩:=xt (vs:=vs) ho
 rw[list_sort_plain]
 refine cc (listItems_at ho rfl (cc (listUpdate_at ho rfl ?_ (by rw[Fe,Ib];omega) (FQ _))))
 refine cc (seqEpoch_at ho1 rfl (cc (wpAny_newTuple ?_ (by show vs.length<=_;rw[Ib];omega))))
 refine cc (wpAny_newList (FX ?_) (FQ _))
 show EX (F6 prog w) A _ P E { s with heap:=ko s.heap a vs }
 dsimp only
 by_cases h2:¬2<=vs.length
 ·have hn:vs.toArray.size<2:=by rw[Fe];omega
  rw[if_pos hn,if_pos hn]
  refine cc (E4 ?_)
  rw[StateT.run_pure]
  refine cc (E4 ?_)
  dsimp only
  have hp:Pmu vs.length (Fg vs.length).toArray:=⟨Array.Perm.refl _⟩
  have hz:(dO vs (Fg vs.length).toArray).size=vs.length:=by unfold dO;simp
  have har:arrOf (SortSt.mk' general' (vs.toArray.zip vs.toArray) #[] 7 none)=(Fg vs.length).toArray.map (PySem.W.kas_item (vs.toArray.zip vs.toArray)):=by
   have e:=PySem.W.kas_range (vs.toArray.zip vs.toArray)
   rw[show(vs.toArray.zip vs.toArray).size=vs.length by simp]at e
   exact e.symm
  rw[show(arrOf (SortSt.mk' general' (vs.toArray.zip vs.toArray) #[] 7 none)).map (·.2)=dO vs (Fg vs.length).toArray from PySem.W.kat_snds rfl har]
  refine cc (seqEpoch_at ho6 rfl (cc (listUpdate_at ho6 rfl ?_ (FQ _) (by rw[hz,Ib];omega))))
  simp only[bne_self_eq_false,F5,if_false]
  exact E4 (h _ hp fun i j hij hj=>by omega)
 have h2:2<=vs.length:=Decidable.not_not.mp h2
 have hn:¬vs.toArray.size<2:=by rw[Fe];omega
 rw[if_neg hn,if_neg hn]
 refine cc (hk h2 _ _ ?_)
 refine cc (F7 (PySem.W.kat_run (Q:=fun st s'=>s'={ s with heap:=ko s.heap a vs }/\∃p,Pmu vs.length p/\Up k p vs.length/\arrOf st=p.map (PySem.W.kas_item (vs.toArray.zip vs.toArray))/\failedOf st=none)
  (G:=fun p s'=>s'={ s with heap:=ko s.heap a vs }/\Pmu vs.length p/\Up k p vs.length) rfl h2 h64 (fun p st s' _ b1 b2 b3=>⟨b3.1,p,b3.2.1,b3.2.2,b1,b2⟩)
  (qT (n:=vs.length) (k:=k) hc _ (b6 (fun p q=>⟨rfl,q⟩) _ (uc hinj h2)))) ?_ fun _ _ x=>x)
 rintro⟨⟨⟩,st⟩ s1 ⟨q0,p,hp,hu,har,hf⟩
 dsimp only at q0 ⊢
 subst q0
 have hz:(dO vs p).size=vs.length:=by unfold dO;rw[Fe,E6,Fn,hp.size]
 rw[show(arrOf st).map (·.2)=dO vs p from PySem.W.kat_snds rfl har]
 refine cc (seqEpoch_at ho6 rfl (cc (listUpdate_at ho6 rfl ?_ (FQ _) (by rw[hz,Ib];omega))))
 rw[hf]
 simp only[bne_self_eq_false,F5,if_false]
 exact E4 (h p hp hu)
end
section
variable{X:Cx}
def p0(us:List (Int×Int))(i:Nat):Int×Int:=us.getD i (0,0)
def pky(us:List (Int×Int))(i:Nat):Int:=100*(p0 us i).1+(p0 us i).2
def Pb(us:List (Int×Int)):Prop:=us.length<64/\us.Nodup/\∀u∈us,0<=u.2/\u.2<100
theorem fX{us:List (Int×Int)}{i:Nat}(h:i<us.length):p0 us i∈us:=by unfold p0;rw[List.getD_eq_getElem?_getD,E7 h];exact G6 h
theorem Pb.inj{us:List (Int×Int)}(h:Pb us):Inj us.length (pky us):=fun i j hi hj e=>by
 have b1:=h.2.2 _ (fX hi);have b2:=h.2.2 _ (fX hj);unfold pky at e;have e1:p0 us i=p0 us j:=Prod.ext (by omega) (by omega);unfold p0 at e1;rw[List.getD_eq_getElem?_getD,List.getD_eq_getElem?_getD,E7 hi,E7 hj]at e1;have pw:=FY.mp h.2.1;rcases Hr i j with q|q|q
 ·exact absurd e1 (pw i j _ _ q)
 ·exact q
 ·exact absurd e1.symm (pw j i _ _ q)
theorem xp{xs:List V}{its:List E1}(h:Vals xs its):∀i,RelV (xs.getD i .non) (its.getD i .none):=by
 induction h with
 |nil=>intro i;simp;rfl
 |cons a _ ih=>intro i;cases i with
  |zero=>exact a
  |succ i=>exact ih i
theorem lp{xs:List V}{its:List E1}(h:Vals xs its):∀l:List Nat,Vals (l.map fun i=>xs.getD i .non) (l.map fun i=>its.getD i .none)
 |[]=>.nil
 |i::l=>.cons (xp h i) (lp h l)
variable{prog:F8}{w:Fy}{A:FK}{E:E1->E3->Prop}{s:E3}
theorem xu{x y:Addr}{a b c d:Int}{t1 t2 t3 t4:Tok}{C:Bool->E3->Prop}(hx:IsTup s.heap x #[.int a t1,.int b t2])(hy:IsTup s.heap y #[.int c t3,.int d t4])(hb:0<=b/\b<100)(hd:0<=d/\d<100) (h:C (decide (100*a+b<100*c+d)) s):EX (F6 prog w) A (keyLt' (tuples' true) (.ref x) (.ref y)) C E s:=by
 obtain⟨ox,gx,_,n,dx⟩:=hx;obtain⟨oy,gy,_,m,dy⟩:=hy;refine PySem.W.kat_lt gx dx gy dy ?_;refine PySem.W.kat_cons (wpAny_eqBool_int ?_);by_cases e:a=c
 ·subst e;rw[show(a==a)=true by simp];refine PySem.W.kat_yes (PySem.W.kat_cons (wpAny_eqBool_int ?_));by_cases e2:b=d
  ·subst e2;rw[show(b==b)=true by simp];refine PySem.W.kat_yes (PySem.W.kat_nil ?_);rw[show decide (100*a+b<100*a+b)=false by simp]at h;exact h
  ·rw[show(b==d)=false by simpa using e2];refine PySem.W.kat_no ?_;rw[show(true&&(0+1==0))=false by rfl];refine PySem.W.kat_one _ _ ?_;rw[show decide (100*a+b<100*a+d)=decide (b<d) by exact decide_eq_decide.mpr (by omega)]at h;exact lt_int h
 ·rw[show(a==c)=false by simpa using e];refine PySem.W.kat_no ?_;show EX _ _ (oneLt' true _ _) _ _ _;rw[show decide (100*a+b<100*c+d)=decide (a<c) by exact decide_eq_decide.mpr (by omega)]at h;exact oneLt_int h
end
section
variable{X:Cx}
def Prs(K:E2)(H:Hp):List V->List (Int×Int)->Prop
 |[],[]=>True
 |x::xs,u::us=>(∃a,x=.ref a/\SqT K H a [.int u.1,.int u.2])/\Prs K H xs us
 |_,_=>False
theorem Prs.len{K:E2}{H:Hp}:∀{xs:List V} {us:List (Int×Int)},Prs K H xs us->xs.length=us.length
 |[],[],_=>rfl
 |_::_,_::_,h=>by rw[Fi,Fi,Prs.len h.2]
 |[],_::_,h=>h.elim
 |_::_,[],h=>h.elim
def sf(h:Heap)(v:E1)(u:Int×Int):Prop:=∃a t1 t2,v=.ref a/\IsTup h a #[.int u.1 t1,.int u.2 t2]
theorem oM{pins:List (Addr×Obj)}{σ:List (Option V)}{H:Hp}{s:E3}(I:Inv X pins σ H s){x:V}{v:E1}{u:Int×Int}(h:∃a,x=.ref a/\SqT X.K H a [.int u.1,.int u.2])(r:RelV x v):sf s.heap v u:=by obtain⟨a,rfl,ht⟩:=h;cases r;obtain⟨its,rv,hi,_⟩:=I.tuple ht;obtain⟨y1,y2,rfl,⟨t1,rfl⟩,⟨t2,rfl⟩⟩:=vals2 rv;exact⟨a,t1,t2,rfl,hi⟩
theorem vQ{pins:List (Addr×Obj)}{σ:List (Option V)}{H:Hp}{s:E3}(I:Inv X pins σ H s):∀{xs:List V} {us:List (Int×Int)} {its:List E1},Prs X.K H xs us->Vals xs its->∀i,i<us.length->sf s.heap (its.getD i .none) (p0 us i)
 |[],[],_,_,_,i,hi=>by simp at hi
 |x::xs,u::us,_,h,.cons a r,i,hi=>by
  cases i with
  |zero=>exact oM I h.1 a
  |succ i=>exact vQ I h.2 r i (by simpa using hi)
 |[],_::_,_,h,_,_,_=>h.elim
 |_::_,[],_,h,_,_,_=>h.elim
theorem oo{h:Heap}:∀{its:List E1} {us:List (Int×Int)},its.length=us.length->(∀i,i<us.length->sf h (its.getD i .none) (p0 us i))->∃fs:List E1,PySem.W.KatTups h its fs/\fs.length=us.length/\∀v∈fs,∃n t,v=Value.int n t
 |[],[],_,_=>⟨[],PySem.W.KatTups.nil,rfl,fun v hv=>by simp at hv⟩
 |v::its,u::us,hl,q=>by
  obtain⟨fs,k1,k2,k3⟩:=oo (its:=its) (us:=us) (by simpa using hl) fun i hi=>q (i+1) (by simpa using hi)
  obtain⟨a,t1,t2,e,o,ho,hc,n,hd⟩:=q 0 (by simp)
  have e':v=.ref a:=e
  subst e'
  refine⟨.int u.1 t1::fs,PySem.W.KatTups.cons ho hc hd rfl k1,by simp[k2],fun v hv=>?_⟩
  rcases FN.mp hv with rfl|hv
  ·exact⟨_,_,rfl⟩
  ·exact k3 v hv
 |[],_::_,hl,_=>by simp at hl
 |_::_,[],hl,_=>by simp at hl
theorem sf.kept{h h':Heap}{v:E1}{u:Int×Int}(q:sf h v u)(k:∀b o,h.get? b=some o->h'.get? b=some o):sf h' v u:=by obtain⟨a,t1,t2,e,o,ho,r⟩:=q;exact⟨a,t1,t2,e,o,k _ _ ho,r⟩
def prD(u:Int×Int):D:=.tup [.int u.1,.int u.2]
theorem wy{K:E2}{H:Hp}:∀{us:List (Int×Int)} {xs:List V},aB K H (us.map prD) xs->Prs K H xs us
 |[],xs,h=>by
  rw[GR,aB]at h
  subst h;trivial
 |u::us,xs,h=>by
  rw[EW,aB]at h
  obtain⟨x,r,rfl,a,b⟩:=h
  refine⟨?_,wy b⟩
  unfold prD at a
  rw[Rep]at a
  obtain⟨p,ys,rfl,hy,ry⟩:=a
  obtain⟨y1,y2,rfl,e1,e2⟩:=d5 ry
  rw[Rep]at e1 e2
  subst e1 e2
  exact⟨p,rfl,hy⟩
theorem qE{K:E2}{H:Hp}:∀{ds:List D} {xs:List V},aB K H ds xs->∀i,i<ds.length->Rep K H (ds.getD i .non) (xs.getD i .non)
 |[],_,_,i,hi=>by simp at hi
 |d::ds,xs,h,i,hi=>by
  rw[aB]at h
  obtain⟨x,r,rfl,a,b⟩:=h
  cases i with
  |zero=>exact a
  |succ i=>exact qE b i (by simpa using hi)
theorem lL{K:E2}{H:Hp}{ds:List D}{xs:List V}(h:aB K H ds xs):∀l:List Nat,(∀i∈l,i<ds.length)->aB K H (l.map fun i=>ds.getD i .non) (l.map fun i=>xs.getD i .non)
 |[],_=>aB.nil
 |i::l,q=>aB.cons (qE h i (q i (by simp))) (lL h l fun j hj=>q j (by simp[hj]))
def plt(u v:Int×Int):Prop:=100*u.1+u.2<100*v.1+v.2
theorem rX{us:List (Int×Int)}{π:Array Nat}(h:Pmu us.length π):(π.toList.map (p0 us)).Perm us:=by
 have e1:=(Array.perm_iff_toList_perm.mp h.perm).map (p0 us)
 have e2:(Fg us.length).map (p0 us)=us:=by
  apply List.ext_getElem
  ·simp
  ·intro i h1 h2;simp[p0,h2]
 simpa[e2]using e1
theorem xG{us:List (Int×Int)}{π:Array Nat}(h:Pmu us.length π)(u:Up (pky us) π us.length):(π.toList.map (p0 us)).Pairwise plt:=by
 rw[FY];intro i j hi hj hij;have hj':j<us.length:=by rw[E6,Fn,h.size]at hj;exact hj
 have:=u i j hij hj';have zi:i<π.size:=by rw[h.size];omega
 have zj:j<π.size:=by rw[h.size];omega
 simpa[plt,ky,pky,Array.getD,zi,zj]using this
theorem wH{us:List (Int×Int)}{π:Array Nat}(h:Pmu us.length π):(π.toList.map fun i=>(us.map prD).getD i .non)=(π.toList.map (p0 us)).map prD:=by
 rw[Hy];refine List.map_congr_left fun i hi=>?_
 have hi':i<us.length:=by
  have:i∈π:=by simpa using hi
  have:=h.perm.mem_iff.mp this
  simpa using this
 simp[p0,hi']
theorem tD:G5 "sorted"=some (.builtin "sorted"):=by first|exact boot_sorted|rfl
end
def iG(h:Heap)(d:Addr)(es:Array Gr)(ep:Nat):Prop:=∃o,h.get? d=some o/\o.ExactDict/\o.data=.dict es ep
section
variable{prog:F8}{w:Fy}{A:FK}{E:E1->E3->Prop}{s:E3}{d it:Addr}{es:Array Gr}{ep i:Nat}
theorem iG.ty(h:iG s.heap d es ep):s.TypeIs (.ref d) "dict":=let⟨o,a,b,_⟩:=h;⟨o,a,b.1⟩
theorem iG.kept{h h':Heap}(q:iG h d es ep)(k:∀o,h.get? d=some o->h'.get? d=some o):iG h' d es ep:=let⟨o,a,b⟩:=q;⟨o,k o a,b⟩
theorem iG.lt{h:Heap}(q:iG h d es ep):d<h.objs.size:=let⟨_,a,_⟩:=q;F9 a
theorem wu{Q:E1->E3->Prop}(lo:(d==GU)=false)(hm:iG s.heap d es ep)
 (q:Q (.ref s.heap.objs.size) { s with heap:=s.heap.push { cls:=.type "dict_keyiterator",data:=.fields #[.ref d,.int 0 0,.int es.size 0,.int ep 0] } }):EX (F6 prog w) A (pyIter (.ref d)) Q E s:=by
 have hT:=hm.ty
 obtain⟨o,g1,g2,g3⟩:=hm
 refine wpAny_pyIter_slot hT F.slot_dict_iter (Gy F.slot_dict_iter hT F.entry_dict_iter ?_ (F.args_dict_iter_1 _))
 unfold GQ.«dict.__iter__»
 refine cc ?_
 unfold Builtin.Dict.dictSlotNone
 refine cc (wpAny_notOrdered_dict hT ?_)
 show EX _ _ (pure (FZ d)) _ _ s
 refine E4 ?_
 show EX _ _ (Builtin.Dict.showsAll d >>= _) _ _ s
 unfold Builtin.Dict.showsAll
 rw[if_neg (by rw[lo];exact F4)]
 refine cc (E4 (cc (wpAny_dictEntries g1 g3 (cc (wpAny_dictEpoch g1 g3 ?_)))))
 refine cc (FR (E4 ⟨_,rfl,"dict_keyiterator",_,⟨_,EY _ rfl,rfl⟩,GS.lookup,?_⟩))
 simpa[Hf]using q
theorem vU{Q:Option E1->E3->Prop}(hit:s.heap.IsKeyIter it d i es.size ep)(hm:iG s.heap d es ep)(hi:i<es.size)
 (hQ:∀h':Heap,h'.IsKeyIter it d (i+1) es.size ep->GO it s.heap h'->Q (some es[i].key) { s with heap:=h' }):EX (F6 prog w) A (HP (.ref it)) Q E s:=by
 obtain⟨o,ho,hc,hd⟩:=id hit
 obtain⟨od,g1,g2,g3⟩:=hm
 have hT:=hit.typeIs
 unfold HP
 refine cc (wpAny_attempt (GY (name:=Gz "__next__") hT GS (Gy GS hT F.entry_dict_keyiterator_next ?_ (F.args_dict_keyiterator_next_1 _))))
 refine cc (E4 (cc (cc ?_)))
 first|refine cc (Hm hT (E4 ?_))|refine cc (wpAny_typeNameOf_keyiter hT (E4 ?_))
 refine cc (wpAny_fieldsOf ho hd ?_)
 simp only[show Builtin.Dict_items.ownsTuple "dict_keyiterator"=false by decide,F5,if_false]
 show EX _ _ (if(FZ d==Gu)=true then _ else _) _ _ s
 rw[if_neg (show ¬((FZ d==Gu)=true)from F4)]
 refine cc (E4 (cc (wpAny_dictEntries g1 g3 ?_)))
 rw[if_neg (by simp)]
 refine cc (E4 (cc (wpAny_dictEpoch g1 g3 ?_)))
 rw[if_neg (by simp)]
 refine E4 ?_
 simp only[show ¬((i:Int)<0)from by omega,if_false,Hb,Fd hi]
 refine cc ?_
 first|refine cc (Hm hT (E4 ?_))|refine cc (wpAny_typeNameOf_keyiter hT (E4 ?_))
 refine cc (wpAny_isOneOf_keyiter hT ?_)
 show EX _ _ (setField (.ref it) 1 (Hf ((i:Int)+1)) >>= _) _ _ s
 refine cc (Ir ho hd (by simp) ?_)
 have n1:(s.heap.update it (Obj.mapFields (·.setIfInBounds 1 (Hf ((i:Int)+1))))).IsKeyIter it d (i+1) es.size ep:=
  ⟨_,G7 _ ho (Obj.isFreed_of_fields (GW hd _)),(Obj.cls_mapFields ..).trans hc,by rw[GW hd];simp[Hf]⟩
 refine cc (FX (cc (wpAny_isOneOf_keyiter (s:={ s with heap:=s.heap.update it (Obj.mapFields (·.setIfInBounds 1 (Hf ((i:Int)+1)))) }) n1.typeIs ?_)))
 show EX _ _ (pure es[i].key) _ _ _
 exact E4 (E4 ⟨_,rfl,E4 (hQ _ n1 (FW ..))⟩)
theorem yo{Q:Option E1->E3->Prop}(hh:A.handled=none)(hit:s.heap.IsKeyIter it d es.size es.size ep)(hm:iG s.heap d es ep)
 (hQ:∀h',Heap.ExtBut it s.heap h'->Q none { s with heap:=h' }):EX (F6 prog w) A (HP (.ref it)) Q E s:=by
 obtain⟨o,ho,hc,hd⟩:=id hit
 obtain⟨od,g1,g2,g3⟩:=hm
 have hT:=hit.typeIs
 unfold HP
 refine cc (wpAny_attempt (GY (name:=Gz "__next__") hT GS (Gy GS hT F.entry_dict_keyiterator_next ?_ (F.args_dict_keyiterator_next_1 _))))
 refine cc (E4 (cc (cc ?_)))
 first|refine cc (Hm hT (E4 ?_))|refine cc (wpAny_typeNameOf_keyiter hT (E4 ?_))
 refine cc (wpAny_fieldsOf ho hd ?_)
 simp only[show Builtin.Dict_items.ownsTuple "dict_keyiterator"=false by decide,F5,if_false]
 show EX _ _ (if(FZ d==Gu)=true then _ else _) _ _ s
 rw[if_neg (show ¬((FZ d==Gu)=true)from F4)]
 refine cc (E4 (cc (wpAny_dictEntries g1 g3 ?_)))
 rw[if_neg (by simp)]
 refine cc (E4 (cc (wpAny_dictEpoch g1 g3 ?_)))
 rw[if_neg (by simp)]
 refine E4 ?_
 simp only[show ¬((es.size:Int)<0)from by omega,if_false,Hb,Hz (E8 es.size)]
 refine cc ?_
 first|refine cc (Hm hT (E4 ?_))|refine cc (wpAny_typeNameOf_keyiter hT (E4 ?_))
 show EX _ _ (setField (.ref it) 0 .none >>= _) _ _ s
 refine cc (Ir ho hd (by simp) ?_)
 show EX _ _ (newExc (.type "StopIteration") [] >>= _) _ _ _
 refine cc ?_
 simp only[newExc,newTuple]
 refine cc (FR ?_ (by size_fits))
 refine cc (m:=firstArgMember _ _) (wpAny_of_eq (a:=Gu) (by first|rfl|(simp only[firstArgMember];rfl)) ?_)
 refine FR ?_ (by size_fits)
 simp only[raiseNew]
 refine cc (wpAny_handled ?_)
 rw[show A.in1.handled=none from hh]
 refine cc (E4 (wpAny_throw ?_))
 refine cc (wpAny_isInstance (T:="StopIteration") (b:=true) ⟨_,EY _ rfl,rfl⟩ isSubtype_stop ?_)
 exact E4 (hQ _ (((FW ..).extBut.push _).push _))
theorem sv(hh:A.handled=none)(I d:Addr)(hne:d≠I)(es:Array Gr)(ep:Nat):Walks prog w A I [I,d] [I] es.size (fun i v=>∃e,es[i]?=some e/\v=e.key) (fun i h=>h.IsKeyIter I d i es.size ep/\iG h d es ep) where
 sub:=fun b hb=>by simp at hb;simp[hb]
 frame:=fun _ _ _ st hk=>⟨st.1.at fun o e=>hk I (by simp) o e,st.2.kept fun o e=>hk d (by simp) o e⟩
 item:=fun i s Q E hi st hQ=>vU st.1 st.2 hi fun h' n1 sb=>hQ _ h' s.toks ⟨es[i],by simp[hi],rfl⟩ ⟨n1,st.2.kept fun o e=>(sb.2 d hne).trans e⟩ fun b o hb e=>sb.extBut b o (fun h=>hb (by simp[h])) e
 done:=fun s Q E st hQ=>yo hh st.1 st.2 fun h' he=>hQ h' s.toks fun b o hb e=>he b o (fun h=>hb (by simp[h])) e
 self:=fun _ _ _ _ st hQ=>wpAny_pyIter_keyiter st.1 hQ
theorem yA(lo:(d==GU)=false):PySem.W.KdlSrc prog w "dict" d d es.size (fun i v=>∃e,es[i]?=some e/\v=e.key) (fun h=>iG h d es ep) where
 type:=fun _ hm=>hm.ty
 there:=fun _ hm=>⟨hm.lt,hm.lt⟩
 keep:=fun _ _ hm hk=>hm.kept fun o e=>hk d (.inl rfl) o e
 notList:=by decide
 notTuple:=by decide
 hint:=fun _ _ _ _ hm hq=>PySem.W.kdl_hint_dict hm.ty hq
 iter:=fun _ _ hh hm=>⟨_,_,(fun _ _ hq=>wu lo hm hq),sv hh _ d (Fs hm.lt) es ep,⟨⟨_,EY _ rfl,rfl,rfl⟩,hm.kept fun o e=>E5 _ e⟩⟩
end
section
variable{X:Cx}
theorem xj{P:F8}{w:Fy}{xs:List SpE}{ys:List (SpK×Addr×E1)}(r:Iz PrS xs ys):(ys.map (entryOfKey (cV P w))).map (·.key)=xs.map fun x=>FZ x.2.1:=by
 induction r with
 |nil=>rfl
 |cons h t ih=>simp only[EW,ih,h.2.1];rfl
theorem lC:∀xs:List SpE,Vals (xs.map fun x=>V.ref x.2.1) (xs.map fun x=>FZ x.2.1)
 |[]=>.nil
 |x::xs=>.cons rfl (lC xs)
theorem mX(hc:X.calm=true):bE X (.type "list") (fun vs H Q=>∃p xs,vs=[.ref p]/\H p=some (.ext (bw X.prog X.w p xs))/\∀l,H l=none->Q (.ref l) (upd H l (.lst (xs.map fun x=>V.ref x.2.1)))):=by
 intro pins s σ H vs us Q I r z0;obtain⟨p,xs,ev,hp,q⟩:=z0;subst ev;obtain⟨u,rfl,ru⟩:=vals1 r;cases ru;obtain⟨⟨h1,h2,h3,ys,r1,o,es,ep,q1,q2,q3,q4⟩,_⟩:=I.hok p _ hp;have hz:es.size=xs.length:=by rw[<-Fn,q4,E6,iK r1]
 refine PySem.W.kdl_call (yA (es:=es) (ep:=ep) h1) (I.ok.hd hc) ⟨o,q1,q2,q3⟩ (by rw[hz];exact h2) fun h' tk acc c kp hl it=>?_
 have ea:acc.toList=xs.map fun x=>FZ x.2.1:=by
  rw[<-xj (P:=X.prog) (w:=X.w) r1,<-q4];apply List.ext_getElem?;intro i;by_cases hi:i<es.size
  ·have hi':i<acc.size:=by rw[it.1];exact hi
   obtain⟨e,e1,e2⟩:=it.2 i acc[i] (by simp[hi']);simp[hi',hi]at e1 ⊢;rw[e2,<-e1]
  ·have hi':¬i<acc.size:=by rw[it.1];exact hi
   simp[hi,hi']
 refine⟨.ref s.heap.objs.size,_,I.laid (t':=tk) kp (E8 _) (show bz X.prog X.w _ h' _ (.lst _)from⟨by rw[E6];exact h2,_,c,lC xs,?_⟩),rfl,q _ (I.hok.fresh (E8 _))⟩;rw[<-ea,Array.toArray_toList];exact hl
def Ay:RC:=fun ds M Q=>vS ds M Q\/∃l kvs,ds=[.ref l]/\M l=some (dsM kvs)/\∀p,M p=none->Q (.ref p) (aw M p (.lst (kvs.map fun x=>spD x.1)))
theorem k9{K:E2}{H:Hp}:∀{kvs:SpT} {xs:List SpE},xs.map (·.1)=kvs.map (·.1)->(∀x∈xs,cD K H x.2.1 x.1)->aB K H (kvs.map fun x=>spD x.1) (xs.map fun x=>V.ref x.2.1)
 |[],[],_,_=>by rw[GR,GR];exact aB.nil
 |y::kvs,x::xs,h,k=>by
  rw[EW,EW]at h
  injection h with e1 e2
  rw[EW,EW]
  exact aB.cons (by rw[<-e1];exact va (k x (by simp))) (k9 e2 fun z hz=>k z (by simp[hz]))
 |[],_::_,h,_=>by cases h
 |_::_,[],h,_=>by cases h
theorem nJ(hc:X.calm=true):cI X (.type "list") Ay:=by
 intro pins s σ H vs us Q I rv z0;obtain⟨ds,M,R,rs,a,q,fin⟩:=z0;rcases q with q|⟨l,kvs,ed,hl,q⟩
 ·exact yJ pins s σ H vs us Q I rv ⟨ds,M,R,rs,a,q,fin⟩
 ·subst ed;obtain⟨v,rfl,r⟩:=bL rs;rw[Rep]at r;subst r;obtain⟨xs,h1,h2,h3,h4⟩:=a.dsp hl;exact mX hc pins s σ H _ us Q I rv ⟨_,xs,rfl,h1 _ _,fun z hz=>fin (.ref z) _ _ _ (.new hz) (by rw[Rep]) (a.mi hz (k9 h2 h3)) (q z (a.fresh hz))⟩
end
def gsp(t b X Y:Int)(u:Vc):D:=Ma.spt (Ma.ut t b X 1 u.1) (Ma.ut t b Y 1 u.2)
def gk(t b X Y:Int)(u:Vc):SpK:=((Ma.ut t b X 1 u.1).num,((Ma.ut t b X 1 u.1).den:Int),(Ma.ut t b Y 1 u.2).num,((Ma.ut t b Y 1 u.2).den:Int))
theorem qt(t b X Y:Int)(u:Vc):gsp t b X Y u=spD (gk t b X Y u):=rfl
theorem mQ{t b X Y:Int}(ht:0<t)(hb:0<b){p q:Vc}(h:gk t b X Y p=gk t b X Y q):p=q:=by unfold gk at h;injection h with h1 h;injection h with h2 h;injection h with h3 h4;have e1:Ma.ut t b X 1 p.1=Ma.ut t b X 1 q.1:=Rat.ext h1 (by exact_mod_cast h2);have e2:Ma.ut t b Y 1 p.2=Ma.ut t b Y 1 q.2:=Rat.ext h3 (by exact_mod_cast h4);have f1:=(Ma.d8 ht hb (by decide) (by decide)).mp e1;have f2:=(Ma.d8 ht hb (by decide) (by decide)).mp e2;exact Prod.ext (by omega) (by omega)
def B20(u:Vc):Prop:=(0<=u.1/\u.1<=20)/\(0<=u.2/\u.2<=20)
def ea(w:Wl):Vc:=(w.1,w.2.1)
def eb(w:Wl):Vc:=(w.2.2.1,w.2.2.2)
theorem Un5.ea{w:Wl}(h:Un5 w):B20 (ea w):=⟨h.a,h.b⟩
theorem Un5.eb{w:Wl}(h:Un5 w):B20 (eb w):=⟨h.c,h.d⟩
def eK(us:List Vc)(u:Vc):List Vc:=if u∈us then us else us++[u]
theorem nt{us:List Vc}{u v:Vc}:v∈eK us u↔v∈us\/v=u:=by
 unfold eK;split
 ·constructor
  ·exact .inl
  ·rintro(h|rfl)
   ·exact h
   ·assumption
 ·simp
theorem rR{us:List Vc}{u:Vc}(h:us.Nodup):(eK us u).Nodup:=by
 unfold eK;split
 ·exact h
 ·rename_i hn;rw[List.nodup_append];refine⟨h,by simp,fun a ha b hb e=>?_⟩;have:b=u:=by simpa using hb
  subst this;subst e;exact hn ha
theorem iW(us:List Vc)(u:Vc):(eK us u).length<=us.length+1:=by
 unfold eK;split
 ·omega
 ·simp
def cnr(ws:List Wl):Nat->List Vc
 |0=>[]
 |i+1=>match ws[i]? with
  |some w=>eK (eK (cnr ws i) (ea w)) (eb w)
  |none=>cnr ws i
theorem pH(ws:List Wl):∀i,(cnr ws i).Nodup
 |0=>List.nodup_nil
 |i+1=>by
  unfold cnr
  split
  ·exact rR (rR (pH ws i))
  ·exact pH ws i
theorem l7(ws:List Wl):∀i,(cnr ws i).length<=2*i
 |0=>E8 _
 |i+1=>by
  have ih:=l7 ws i
  unfold cnr
  split
  ·have h1:=iW (eK (cnr ws i) (ea ‹_›)) (eb ‹_›)
   have h2:=iW (cnr ws i) (ea ‹_›)
   omega
  ·omega
theorem iP{ws:List Wl}{u:Vc}:∀i,u∈cnr ws i↔∃j w,j<i/\ws[j]?=some w/\(u=ea w\/u=eb w)
 |0=>by simp[cnr]
 |i+1=>by
  have ih:=iP (ws:=ws) (u:=u) i
  unfold cnr
  split
  ·rename_i w hw
   rw[nt,nt,ih]
   constructor
   ·rintro((⟨j,v,h1,h2,h3⟩|h)|h)
    ·exact⟨j,v,by omega,h2,h3⟩
    ·exact⟨i,w,by omega,hw,.inl h⟩
    ·exact⟨i,w,by omega,hw,.inr h⟩
   ·rintro⟨j,v,h1,h2,h3⟩
    by_cases e:j=i
    ·subst e
     rw[hw]at h2;cases h2
     rcases h3 with h3|h3
     ·exact .inl (.inr h3)
     ·exact .inr h3
    ·exact .inl (.inl ⟨j,v,by omega,h2,h3⟩)
  ·rename_i hw
   rw[ih]
   constructor
   ·rintro⟨j,v,h1,h2,h3⟩
    exact⟨j,v,by omega,h2,h3⟩
   ·rintro⟨j,v,h1,h2,h3⟩
    by_cases e:j=i
    ·subst e;rw[hw]at h2;cases h2
    ·exact⟨j,v,by omega,h2,h3⟩
theorem Dd{ws:List Wl}(hU:∀w∈ws,Un5 w){i:Nat}:∀u∈cnr ws i,B20 u:=fun u hu=>by
 obtain⟨j,w,_,h2,h3⟩:=(iP i).mp hu;have:=hU w (EZ h2);rcases h3 with rfl|rfl
 ·exact this.ea
 ·exact this.eb
def cdT(t b X Y:Int)(us:List Vc):SpT:=us.map fun u=>(gk t b X Y u,D.bl true)
theorem xy{t b X Y:Int}(ht:0<t)(hb:0<b)(us:List Vc)(u:Vc):putD (cdT t b X Y us) (gk t b X Y u) (.bl true)=cdT t b X Y (eK us u):=by
 have ea:((cdT t b X Y us).any fun x=>decide (x.1=gk t b X Y u))=decide (u∈us):=by
  rw[Bool.eq_iff_iff,List.any_eq_true,decide_eq_true_eq];constructor
  ·rintro⟨x,hx,e⟩;obtain⟨v,hv,rfl⟩:=Fm.mp hx;have:gk t b X Y v=gk t b X Y u:=by simpa using e
   rw[<-mQ ht hb this];exact hv
  ·intro h;exact⟨_,Fm.mpr ⟨u,h,rfl⟩,by simp⟩
 unfold putD eK;rw[ea];by_cases h:u∈us
 ·rw[if_pos (by simpa using h),if_pos h];unfold cdT;rw[Hy];refine List.map_congr_left fun v hv=>?_;dsimp only[Function.comp];split
  ·rfl
  ·rfl
 ·rw[if_neg (by simpa using h),if_neg h];unfold cdT;rw[FI];rfl
theorem lR(u:Vc):¬plt u u:=fun h=>by unfold plt at h;omega
theorem vO{a c:List Vc}(hp:a.Perm c)(ha:a.Pairwise plt)(hc:c.Pairwise plt):a=c:=List.Perm.eq_of_pairwise (le:=plt) (fun x y _ _ h1 h2=>by unfold plt at h1 h2;omega) ha hc hp
theorem Cb{ps:List Vc}{u:Vc}{j:Nat}(h:ps.Pairwise plt)(hj:j<=ps.length)(h1:∀i,i<j->plt (p0 ps i) u)(h2:∀i,j<=i->i<ps.length->plt u (p0 ps i)):(cB ps j u).Pairwise plt/\(cB ps j u).Perm (u::ps):=by
 constructor
 ·unfold cB;rw[List.pairwise_append]
  have lt:∀x∈ps.take j,plt x u:=fun x hx=>by
   obtain⟨i,hi,rfl⟩:=Hc hx
   have hi':i<j/\i<ps.length:=by rw[HJ]at hi;omega
   have:=h1 i hi'.1
   unfold p0 at this
   simpa[hi'.2]using this
  have gt:∀x∈ps.drop j,plt u x:=fun x hx=>by
   obtain⟨i,hi,rfl⟩:=Hc hx
   have hi':j+i<ps.length:=by rw[List.length_drop]at hi;omega
   have:=h2 (j+i) (by omega) hi'
   unfold p0 at this
   simpa[hi']using this
  refine⟨h.sublist (List.take_sublist _ _),List.pairwise_cons.mpr ⟨gt,h.sublist (List.drop_sublist _ _)⟩,fun x hx y hy=>?_⟩;rcases FN.mp hy with rfl|hy
  ·exact lt x hx
  ·have a1:=lt x hx;have a2:=gt y hy;unfold plt at a1 a2 ⊢;omega
 ·unfold cB;have:(ps.take j++u::ps.drop j).Perm (u::(ps.take j++ps.drop j)):=List.perm_middle
  rwa [List.take_append_drop]at this
theorem vp{t b X Y:Int}(ht:0<t)(hb:0<b){u v:Vc}(hu:B20 u)(hv:B20 v):Ma.ah (Ma.ut t b X 1 u.1) (Ma.ut t b Y 1 u.2) (Ma.ut t b X 1 v.1) (Ma.ut t b Y 1 v.2)↔plt u v:=mz ht hb hu.2 hv.2
theorem B20.bx{t b X Y:Int}(S:Scl t b X Y){u:Vc}(h:B20 u):Ma.Bq 200 (Ma.ut t b X 1 u.1):=S.bx (by decide) (by have:=h.1;omega)
theorem B20.by'{t b X Y:Int}(S:Scl t b X Y){u:Vc}(h:B20 u):Ma.Bq 200 (Ma.ut t b Y 1 u.2):=S.by' (by decide) (by have:=h.2;omega)
theorem yY{u v:Vc}(hu:B20 u)(hv:B20 v)(ne:u≠v)(h:¬plt u v):plt v u:=by
 have h1:=hu.2;have h2:=hv.2;unfold plt at h ⊢;by_cases e:100*u.1+u.2=100*v.1+v.2
 ·exact absurd (Prod.ext (by omega) (by omega)) ne
 ·omega
def prP(u:Vc):Im:=.tuple [.int u.1,.int u.2]
def gP(t b X Y:Int)(u:Vc):Im:=mr (gk t b X Y u)
theorem lY{M:MH}(t b X Y:Int):∀us:List Vc,Pds M (us.map (gsp t b X Y)) (us.map (gP t b X Y))
 |[]=>.nil
 |u::us=>.cons (Pd.of rfl) (lY t b X Y us)
theorem lP(t b X Y:Int):∀us:List Vc,H0 (us.map (gP t b X Y))=true
 |[]=>rfl
 |u::us=>by rw[EW,H0,lP t b X Y us];rfl
theorem vd{t b X Y:Int}(ht:0<t)(hb:0<b)(u v:Vc):FG (gP t b X Y u) (gP t b X Y v)=decide (u=v):=by unfold gP;rw[m7,decide_eq_decide];exact⟨fun h=>mQ ht hb h,fun h=>by rw[h]⟩
theorem k7(t b x y:Int)(ws:List Wl):GD (.tuple (ws.map (rwP t b x y)))=true:=by unfold GD;have h1:=uG t b x y ws;have h2:=vu t b x y ws;rw[GF];refine⟨by rw[Iq];exact h1,decide_eq_true ?_⟩;rw[PyData.depth];omega
theorem xQ(t b x y:Int)(ws:List Wl):FG (.tuple (ws.map (rwP t b x y))) (.tuple (ws.map (rwP t b x y)))=true:=by rw[FG];exact kY t b x y ws
section
variable{X:Cx}{pins:List (Addr×Obj)}{σ:L2.St}{H:Hp}{s:E3}{a b:Addr}{k:SpK}
theorem xa{A:FK}{E:E1->E3->Prop}{Q:Unit->E3->Prop}{xs:List SpE}{v:V}{u:E1}(hu:A.units+8<G0)(I:L2.Inv X pins σ H s)(e:H a=some (.ext (bw X.prog X.w a xs)))(hk:∀x∈xs,cD X.K H x.2.1 x.1)(hb:cD X.K H b k)(rv:RelV v u)(hl:xs.length<Fb)
 (h:∀s',L2.Inv X pins σ (upd H a (.ext (bw X.prog X.w a (dX xs k b v)))) s'->Q () s'):EX (F6 X.prog X.w) A (dictSet a (.ref b) u) Q E s:=by
 obtain⟨hd,hz,ys,r,dd⟩:=mC I e hk
 refine wpAny_dictSet_heap (knd:=cV X.prog X.w) (hsz:=by rw[<-iK r];exact hz) (show A.units+4<G0 by omega) (nD I hb) dd fun h' dd' hs=>h _ ?_
 obtain⟨q,es,ep,hq,q2,q3,q4,_,q5⟩:=dd'
 refine gn I (by rw[e];exact Il) hs ⟨q,hq⟩ ⟨⟨hd,?_,?_,_,e7 r k b rv,q,es,ep,hq,q2,q3,q4⟩,⟨q,hq⟩,fun h1 h2 x y=>iS h1 h2 x y⟩
 ·have:=jM xs k b v;omega
 ·rw[<-gD (e7 r k b rv)];exact q5
end
theorem pB{prog:F8}{w:Fy}{A:FK}{R:Result->E3->Prop}{s:E3}{kx vx target iter:Expr}{ifs:List Expr}{scope:HN}{pos:Pos}{it:E1}{D:Addr}{env:Env}(J:Nat->E3->Prop)
 (step:∀n s,J n s->EX (F6 prog w) A (HP it) (fun r s1=>match r with
  |none=>R (.ok .next) s1
  |some v=>EX (F6 prog w) A (Hd target it v) (fun _ s2=>EX (F6 prog w) A (Io target env v) (fun _ s3=>
   EX (F6 prog w) A (forIn ifs true fun c r=>if r=true then do let ok <-isTrue c env (eval c env);pure (Hv ok)else pure (Hv r)) (fun ok s4=>
    if ok=true then EX (F6 prog w) A (eval kx env) (fun kv s5=>EX (F6 prog w) A (eval vx env) (fun vv s6=>EX (F6 prog w) A (dictSet D kv vv) (fun _ s7=>∃m,m<n/\J m s7) NoE s6) NoE s5) NoE s4
    else ∃m,m<n/\J m s4) NoE s3) NoE s2) NoE s1) NoE s)
 (n:Nat) (h:J n s):Hh (F6 prog w) A (.compLoop (.DictComp kx vx [⟨target,iter,ifs,0⟩] scope pos) 0 it (.ref D) env) R s:=by
 have no:∀{E:E1->E3->Prop} e s',NoE e s'->E e s':=fun _ _ z=>z.elim
 refine codeAny_loop rfl J (fun n s hJ=>?_) n h
 show EX _ _ (Sem.onRaise (compTurn (.DictComp kx vx [⟨target,iter,ifs,0⟩] scope pos) 0 it (.ref D) env) (fun x=>do noteFrame x env;theTreesLotGoes x)) _ _ s
 refine wpAny_noted ?_
 rw[compTurn_dict]
 refine cc (GL (cc (F7 (step n s hJ) (fun r s1 h1=>?_) no)))
 cases r with
 |none=>exact E4 h1
 |some v=>
  refine cc (F7 h1 (fun _ s2 h2=>cc (F7 h2 (fun _ s3 h3=>cc (F7 h3 (fun ok s4 h4=>?_) no)) no)) no)
  cases ok with
  |false=>exact E4 ⟨rfl,h4⟩
  |true=>exact cc (cc (F7 h4 (fun kv s5 h5=>cc (FX (F7 h5 (fun vv s6 h6=>cc (GL (FX (F7 h6 (fun _ s7 h7=>E4 ⟨rfl,h7⟩) no)))) no))) no))
def uK(X:Cx)(js:List Nat)(own:Own)(tc:TT)(tk te:TE)(σ:L2.St)(J:It)(H1:Hp)(Q:VK):Prop:=∀D,H1 D=none->∃W:Nat->Nat->Hp->Prop,(∃m,W 0 m (upd H1 D (.ext (bw X.prog X.w D []))))/\∀i m H,W i m H->
 (J.stop i H/\Q (.ref D) H)\/(J.go i H/\∀y H',J.yld i H y H'->∃os,own y H' os/\tc (cσ os js σ) H' fun b H2=>if b=true then
  tk (cσ os js σ) H2 fun kv H3=>te (cσ os js σ) H3 fun v H4=>∃b k xs,kv=.ref b/\H4 D=some (.ext (bw X.prog X.w D xs))/\(∀x∈xs,cD X.K H4 x.2.1 x.1)/\cD X.K H4 b k/\xs.length<Fb/\∃m',m'<m/\W (i+1) m' (upd H4 D (.ext (bw X.prog X.w D (dX xs k b v))))else ∃m',m'<m/\W (i+1) m' H2)
def qB(X:Cx)(js:List Nat)(own:Own)(wi:TI)(tc:TT)(tk te:TE):TE:=fun σ H Q=>wi σ H fun J H1=>uK X js own tc tk te σ J H1 Q
section
variable{X:Cx}{xs:List Str}{tg:Expr}{pos:Pos}{js:List Nat}{scope:HN}{kx vx iter:Expr}{ifs:List Expr}{tk te:TE}{tc:TT}{g:TG}{own:Own}{wi:TI}{pins:List (Addr×Obj)}{σ:L2.St}{H:Hp}{s:E3}{fp:List Addr}{it:Addr}{tn:Nat->Heap->Prop}{J:It}
theorem tH(c:CScope X xs js scope)(hc:X.calm=true)(hG:TgOk xs.length g own)(hg:∀C s H fp,PG (cxC X xs js scope C s H fp) tg g)(ht:∀C s H fp,PTs (cxC X xs js scope C s H fp) ifs tc)(hk:∀C s H fp,PE (cxC X xs js scope C s H fp) kx tk)(he:∀C s H fp,PE (cxC X xs js scope C s H fp) vx te)(hu:X.A.units+8<G0)
 {R:E1->Addr->Result->E3->Prop} {E:E1->E3->Prop} {Q:VK}
 (I:Inv X pins σ H s) (T:Turn X.prog X.w X.K tg J fp it tn) (st:tn 0 s.heap) (hf:∀b∈fp,cf X pins H b) (wc:uK X js own tc tk te σ J H Q)
 (hR:∀D C H' s',Inv X pins σ H' s'->cf X pins H' C->(∃m,s'.heap.Ns C m)->Q (.ref D) H'->R (.ref D) C (.ok .next) s') :
 EX (F6 X.prog X.w) X.A newDict (fun acc s₃=>EX (F6 X.prog X.w) X.A (newFunctionEnv scope X.env.globals (dC scope.names X.env) [] X.env.qual none .none (some X.env)) (fun cenv s₄=>
  Hh (F6 X.prog X.w) X.A (.compStart (.DictComp kx vx [⟨tg,iter,ifs,0⟩] scope pos) 0 (.ref it) acc { cenv with scope:=relabel scope X.env }) (R acc cenv.locals) s₄) E s₃) E s:=by
 have hfp:∀b∈fp,b<s.heap.objs.size:=fun b hb=>let⟨o,e,_⟩:=T.obj 0 _ st b hb;F9 e
 have hD:H s.heap.objs.size=none:=I.hok.fresh (E8 _)
 refine FR (lZ ?_)
 generalize hh:s.heap.push { cls:=.type "dict",data:=.dict #[] }=h3
 generalize hh1:pushCells (({ s with heap:=h3 }:E3).heap.push { cls:=.type "dict",data:=.dict #[] }) scope.names=h₁
 have k3:∀b o,s.heap.get? b=some o->h3.get? b=some o:=fun b o e=>by rw[<-hh];exact E5 _ e
 have I3:Inv X pins σ (upd H s.heap.objs.size (.ext (bw X.prog X.w s.heap.objs.size []))) { s with heap:=h3 }:=by
  rw[<-hh];exact rb I
 have hf3:∀b∈fp,cf X pins (upd H s.heap.objs.size (.ext (bw X.prog X.w s.heap.objs.size []))) b:=fun b hb=>⟨by rw[aK (Fs (hfp b hb))];exact(hf b hb).1,(hf b hb).2⟩
 have hsz:h3.objs.size=s.heap.objs.size+1:=by rw[<-hh,Gj]
 have hfp3:∀b∈fp,b<h3.objs.size:=fun b hb=>by rw[hsz];exact Hq (hfp b hb)
 have k4:∀b o,h3.get? b=some o->h₁.get? b=some o:=fun b o e=>by rw[<-hh1];exact pushCells_keeps _ _ b o (E5 _ e)
 have I4:=jT c I3 hf3 hfp3 (h':=h₁) hh1.symm k4
 obtain⟨W,⟨m0,w0⟩,turn⟩:=wc _ hD
 have st4:tn 0 h₁:=T.keep 0 _ _ st fun b hb o e=>k4 b o (k3 b o e)
 generalize hX:cxC X xs js scope h3.objs.size { s with heap:=h3 } (upd H s.heap.objs.size (.ext (bw X.prog X.w s.heap.objs.size []))) fp=X' at I4
 have fok:∀{pins':List (Addr×Obj)} {H':Hp} {σ':L2.St} {s':E3},Inv X' [] σ' H' s'->(∀b∈fp,H' b=none)->∀b∈fp,cf X' [] H' b:=fun{pins' H' σ' s'} J' hn b hb=>by
  subst hX
  obtain⟨a1,a2⟩:=J'.ok.exf b hb
  exact⟨hn b hb,a1,J'.ok.exfs b hb,.inl hb,a2,fun p hp=>absurd (show p∈([]:List (Addr×Obj))from hp) (by simp)⟩
 have loop:Hh (F6 X.prog X.w) X.A (.compLoop (.DictComp kx vx [⟨tg,iter,ifs,0⟩] scope pos) 0 (.ref it) (.ref s.heap.objs.size) (iD scope h3.objs.size X.env)) (R (.ref s.heap.objs.size) h3.objs.size)
  { s with heap:=h₁ }:=by
  refine pB (fun n s'=>∃i os H',os.length=xs.length/\Inv X' [] (cσ os js σ) H' s'/\tn i s'.heap/\(∀b∈fp,H' b=none)/\W i n H') ?_ m0 ⟨0,_,_,by simp,I4,st4,fun b hb=>(hf3 b hb).1,w0⟩
  rintro n s5 ⟨i,os,H5,hl5,I5,st5,fr5,w5⟩
  rcases turn i n H5 w5 with⟨stop,q⟩|⟨go,step⟩
  ·subst hX
   refine F7 (T.done (cxC X xs js scope h3.objs.size { s with heap:=h3 } (upd H s.heap.objs.size (.ext (bw X.prog X.w s.heap.objs.size []))) fp) rfl rfl rfl hc i [] s5 _ H5 NoE I5 (fok (pins':=[]) I5 fr5) st5 stop) (fun r s6 zz1_0=>?_) fun _ _ z=>z
   obtain⟨hr,I6⟩:=zz1_0
   subst hr
   refine hR _ _ H5 s6 (I3.vP I6.os I6.base I6.hok I6.bare fun b hb=>⟨(hf3 b hb).2.2.2.1,(hf3 b hb).2.1,(hf3 b hb).2.2.2.2.1,(hf3 b hb).2.2.2.2.2⟩) (I3.qg (E8 _) I6.free) (let⟨m,hm,_⟩:=I6.loc;⟨m,hm⟩) q
  ·subst hX
   refine F7 (T.item (cxC X xs js scope h3.objs.size { s with heap:=h3 } (upd H s.heap.objs.size (.ext (bw X.prog X.w s.heap.objs.size []))) fp) rfl rfl rfl hc i [] s5 _ H5 NoE I5 (fok (pins':=[]) I5 fr5) st5 go) (fun r s6 zz2_0=>?_) fun _ _ z=>z
   obtain⟨u,hr,h6⟩:=zz2_0
   subst hr
   refine F7 h6 (fun _ s7 zz3_0=>?_) fun _ _ z=>z
   obtain⟨y,H7,I7,r7,y7,st7,fr7⟩:=zz3_0
   have I7':=I7.pinned (fok (pins':=[]) I7 fr7) (T.obj _ _ st7)
   obtain⟨os8,ow8,q8⟩:=step y H7 y7
   have l8:=hG.len _ _ _ ow8
   refine F7 (hg _ _ _ _ _ s7 _ H7 y u (fun σ' H'=>σ'=cσ os8 js σ/\H'=H7) I7' r7 (hG.run y H7 os _ os8 _ hl5 ow8 ⟨rfl,rfl⟩)) (fun _ s8 zz4_0=>?_) fun _ _ z=>z
   obtain⟨σ8,H8,I8,e8,e8'⟩:=zz4_0
   subst e8 e8'
   refine F7 (ht _ _ _ _ _ s8 _ _ _ I8 q8) (fun ok s9 zz5_0=>?_) fun _ _ z=>z
   obtain⟨H9,I9,q9⟩:=zz5_0
   have back:∀{m':Nat} {H10:Hp} {s10:E3},Inv (cxC X xs js scope h3.objs.size { s with heap:=h3 } (upd H s.heap.objs.size (.ext (bw X.prog X.w s.heap.objs.size []))) fp) ([]++eE fp s7.heap) (cσ os8 js σ) H10 s10->m'<n->W (i+1) m' H10->
    ∃m,m<n/\∃i os H',os.length=xs.length/\Inv (cxC X xs js scope h3.objs.size { s with heap:=h3 } (upd H s.heap.objs.size (.ext (bw X.prog X.w s.heap.objs.size []))) fp) [] (cσ os js σ) H' s10/\tn i s10.heap/\(∀b∈fp,H' b=none)/\W i m H':=fun{m' H10 s10} I10 hm' w10=>by
    refine⟨m',hm',i+1,os8,H10,l8,I10.cY,T.keep _ _ _ st7 fun b hb o e=>(I10.pin (b,o) (Ff _ (Ff _ (ba hb e)))).1,fun b hb=>?_,w10⟩
    obtain⟨o',e,d⟩:=T.obj _ _ st7 b hb
    exact(I10.pin (b,o') (Ff _ (Ff _ (ba hb e)))).2.1
   cases ok with
   |false=>
    rw[if_neg F4]at q9 ⊢
    obtain⟨m',hm',w9⟩:=q9
    exact back I9 hm' w9
   |true=>
    rw[if_pos rfl]at q9 ⊢
    refine F7 (hk _ _ _ _ _ s9 _ _ _ I9 q9) (fun kv s10 zz6_0=>?_) fun _ _ z=>z
    obtain⟨kk,H10,I10,r10,q10⟩:=zz6_0
    refine F7 (he _ _ _ _ _ s10 _ _ _ I10 q10) (fun v s11 zz7_0=>?_) fun _ _ z=>z
    obtain⟨vv,H11,I11,r11,b,k,ys,ek,hd11,hks,hkb,hl11,m',hm',w11⟩:=zz7_0
    subst ek
    cases r10
    exact xa (X:=cxC X xs js scope h3.objs.size { s with heap:=h3 } (upd H s.heap.objs.size (.ext (bw X.prog X.w s.heap.objs.size []))) fp) hu I11 hd11 hks hkb r11 hl11 fun s12 I12=>back I12 hm' w11
 exact codeAny_compStart_dict loop (T.self X.A 0 _ _ _ st4 loop)
theorem uR{i:Nat}{y:Str}{py spos:Pos}(c:CScope X xs js scope)(hc:X.calm=true)(hN:X.N.Nodup)(hi:PI X tg iter wi)(hG:TgOk xs.length g own)(hg:∀C s H fp,PG (cxC X xs js scope C s H fp) tg g)(ht:∀C s H fp,PTs (cxC X xs js scope C s H fp) ifs tc)(hk:∀C s H fp,PE (cxC X xs js scope C s H fp) kx tk)(he:∀C s H fp,PE (cxC X xs js scope C s H fp) vx te)(hu:X.A.units+8<G0)(hy:X.N[i]?=some y)(hl:X.env.scope.names.lookup y=some .local)
 (hsw:HI (.DictComp kx vx [⟨tg,iter,ifs,0⟩] scope pos) (some (.Name y py)) spos.line X.env=pure true) (hs:∀x,FD iter X.env x=pure x:=by intro _;rfl) :
 PS X (.Assign [.Name y py] (.DictComp kx vx [⟨tg,iter,ifs,0⟩] scope pos) spos) (yy (qB X js own wi tc tk te) (d3 i)):=by
 intro pins s σ H B I h
 rw[exec_Assign_Name_used _ _ _ _ hsw]
 refine cc (GL (cc ?_))
 show EX _ X.A (do let _ <-comprehension (.DictComp kx vx [⟨tg,iter,ifs,0⟩] scope pos) scope X.env _ newDict false (eval iter X.env) (some (Io (.Name y py) X.env))) _ _ s
 refine cc (F7 (wpAny_comprehension_free (use:=some (Io (.Name y py) X.env)) (Q:=fun _ s'=>SP X pins B .next s') rfl hs (c.xF I.ok) c.kind c.names
  (thn (hi pins s σ H _ I h) fun v s1 h1=>thn h1 fun itv s2 ⟨it,fp,tn,J,H2,e,I2,T,st,f2,w⟩=>?_)) (fun _ s' hq=>E4 (E4 hq)) fun _ _ e=>e)
 subst e
 refine tH (R:=fun acc C=>compPost (F6 X.prog X.w) X.A X.xe (some (Io (.Name y py) X.env)) (fun _ s'=>SP X pins B .next s') acc C) c hc hG hg ht hk he hu I2 T st f2 w fun D C H' s' I' fC zz10_0 q=>?_
 obtain⟨m,hm⟩:=zz10_0
 show EX _ X.A (Io (.Name y py) X.env (.ref D)) _ _ _
 refine wpAny_assign_Name (ij I' hN hy (.inl hl) (v:=.ref D) rfl (fun s9 I9 zz11_0=>?_) (.inr hl))
 obtain⟨a,sb,ha⟩:=zz11_0
 have hne:C≠a:=by
  rcases ha with z|z
  ·rw[z];exact fC.2.1
  ·exact fun e=>fC.2.2.2.2.1 y a z e.symm
 refine⟨m,hm.sameBut sb hne,fun h' hsb=>?_⟩
 exact⟨_,H',I9.turned (t':=s9.toks) (fun b o ne e=>hsb.extBut b o ne e) fC.1 fC.2.1 fC.2.2.2.1 fC.2.2.2.2.1 fC.2.2.2.2.2,q⟩
end
def AR(I:ItD)(tk:Tgt)(js:List Nat)(tc:TTD)(tx te:TD)(δ:DS)(M1:MH)(Q:DK):Prop:=I.n<=900000/\∀p,M1 p=none->∃W:Nat->SpT->MH->Prop,W 0 [] (aw M1 p (dsM []))/\(∀i kvs M,i<=I.n->W i kvs M->I.C M)/\
 (∀i kvs d M,i<I.n->I.item i=some d->W i kvs M->∃os,uq tk d os/\tc (cδ os js δ) M fun b M2=>if b=true then tx (cδ os js δ) M2 fun y M3=>te (cδ os js δ) M3 fun e M4=>∃k,y=spD k/\M4 p=some (dsM kvs)/\kvs.length<=i/\W (i+1) (putD kvs k e) (aw M4 p (dsM (putD kvs k e)))else W (i+1) kvs M2)/\∀kvs M,W I.n kvs M->Q (.ref p) M
def mf(wd:TID)(tk:Tgt)(js:List Nat)(tc:TTD)(tx te:TD):TD:=fun δ M Q=>wd δ M fun I M1=>AR I tk js tc tx te δ M1 Q
section
variable{X:Cx}
theorem qi{wd:TID}{tk:Tgt}{js:List Nat}{tc:TTD}{tx te:TD}{σ:L2.St}{H:Hp}{Q:VK}(h:lift X.K (mf wd tk js tc tx te) σ H Q):qB X js (nI X.K tk) (lO X.K wd) (liftT X.K tc) (lift X.K tx) (lift X.K te) σ H Q:=by
 obtain⟨δ,M,R,hs,hM,q,fin⟩:=h;refine⟨δ,M,_,hs,hM,q,fun I M1 H1 J g1 a1 kc io p hp=>?_⟩;obtain⟨hn,kc⟩:=kc;obtain⟨W,w0,hC,turn,done⟩:=kc p (a1.fresh hp);refine⟨fun i m H2=>m=I.n-i/\i<=I.n/\Grow X.K H1 H2/\∃kvs M,Abs X.K H2 M/\W i kvs M,⟨I.n,by simp,FQ _,.new hp,[],_,a1.zS _ _ hp,w0⟩,?_⟩;rintro i m H2 ⟨rfl,hi,g2,kvs,M2,a2,w2⟩;by_cases hin:i<I.n
 ·refine .inr ⟨io.go i H2 M2 hin g2 a2 (hC _ _ _ hi w2),fun v H3 hy=>?_⟩;obtain⟨g3,a3,d,ed,rd⟩:=io.yld i H2 M2 v H3 hin g2 a2 (hC _ _ _ hi w2) hy;obtain⟨os,ow,q3⟩:=turn i kvs d M2 hin ed w2;obtain⟨us,uv,su⟩:=ng rd ow;have s3:=iM (js:=js) (hs.mono ((g1.trans g2).trans g3)) su;refine⟨us,uv,cδ os js δ,M2,_,s3,a3,q3,fun b M4 H4 g4 a4 q4=>?_⟩;cases b with
  |false=>
   rw[if_neg F4]at q4 ⊢
   exact⟨I.n-(i+1),by omega,rfl,hin,(g2.trans g3).trans g4,kvs,M4,a4,q4⟩
  |true=>
   rw[if_pos rfl]at q4 ⊢
   refine⟨cδ os js δ,M4,_,s3.mono g4,a4,q4,fun y M5 u H5 g5 r5 a5 q5=>⟨cδ os js δ,M5,_,(s3.mono g4).mono g5,a5,q5,fun e M6 u6 H6 g6 r6 a6 zz12_0=>?_⟩⟩
   obtain⟨k,ey,e6,hl6,w6⟩:=zz12_0
   subst ey
   obtain⟨b,rfl,sp⟩:=nV (r5.mono g6)
   obtain⟨xs,h1,h2,h3,h4⟩:=a6.dsp e6
   have hlen:xs.length=kvs.length:=by have:=congrArg List.length h2;simpa using this
   have sz:1000000<=Fb:=nbL rfl
   have g7:Grow X.K H6 (upd H6 p (.ext (bw X.prog X.w p (dX xs k b u6)))):=.ext (h1 X.prog X.w)
   exact⟨b,k,xs,rfl,h1 _ _,h3,sp,by omega,I.n-(i+1),by omega,rfl,hin,((((g2.trans g3).trans g4).trans g5).trans g6).trans g7,putD kvs k e,_,a6.xg _ _ h1 h2 h4 h3 sp r6,w6⟩
 ·obtain rfl:i=I.n:=by omega
  exact .inl ⟨io.stop H2 M2 g2 a2 (hC _ _ _ hi w2),fin _ _ _ _ (g1.trans g2) (by rw[Rep]) a2 (done kvs M2 w2)⟩
variable{xs:List Str}{tg:Expr}{pos:Pos}{js:List Nat}{scope:HN}{kx vx iter:Expr}{ifs:List Expr}{tx te:TD}{tc:TTD}{g:TG}{tk:Tgt}{wd:TID}
theorem vH(i:Nat){y:Str}{py spos:Pos}(hN:X.N.Nodup)(hu:X.A.units+66<G0)(c:CScope X xs js scope)(hc:X.calm=true)(hi:DI X tg iter wd)(hG:TgOk xs.length g (nI X.K tk))(hg:∀C s H fp,PG (cxC X xs js scope C s H fp) tg g)(ht:∀C s H fp,DTs (cxC X xs js scope C s H fp) ifs tc)(hk:∀C s H fp,DE (cxC X xs js scope C s H fp) kx tx)(he:∀C s H fp,DE (cxC X xs js scope C s H fp) vx te) (hy:X.N[i]?=some y:=by rfl) (hl:X.env.scope.names.lookup y=some .local:=by rfl) (hsw:HI (.DictComp kx vx [⟨tg,iter,ifs,0⟩] scope pos) (some (.Name y py)) spos.line X.env=pure true:=by rfl) (hs:∀x,FD iter X.env x=pure x:=by intro _;rfl) : DSt X (.Assign [.Name y py] (.DictComp kx vx [⟨tg,iter,ifs,0⟩] scope pos) spos) (cK (mf wd tk js tc tx te) (bc i)):=bW (uR (tk:=lift X.K tx) (te:=lift X.K te) (tc:=liftT X.K tc) c hc hN hi hG hg ht hk he (by omega) hy hl hsw hs) fun E σ H zz13_0=>by obtain⟨δ,M,hs,a,B,ok,q⟩:=zz13_0;exact(qi ⟨δ,M,_,hs,a,q,fun d M1 v H1 g1 r1 a1 q1=>ok.nx _ _ _ _ g1 ((hs.mono g1).set r1 i) a1 q1⟩)
theorem rZ(i:Nat){x v:Str}{px pv spos:Pos}(hN:X.N.Nodup)(hu:X.A.units+66<G0)(c:CScope X [x] js scope)(hc:X.calm=true)(hi:DI X (.Name x px) iter wd)(ht:∀C s H fp,DTs (cxC X [x] js scope C s H fp) ifs tc)(hk:∀C s H fp,DE (cxC X [x] js scope C s H fp) kx tx)(he:∀C s H fp,DE (cxC X [x] js scope C s H fp) vx te) (hy:X.N[i]?=some v:=by rfl) (hl:X.env.scope.names.lookup v=some .local:=by rfl) (hsw:HI (.DictComp kx vx [⟨.Name x px,iter,ifs,0⟩] scope pos) (some (.Name v pv)) spos.line X.env=pure true:=by rfl) (hs:∀x,FD iter X.env x=pure x:=by intro _;rfl) : DSt X (.Assign [.Name v pv] (.DictComp kx vx [⟨.Name x px,iter,ifs,0⟩] scope pos) spos) (cK (mf wd .one js tc tx te) (bc i)):=vH i hN hu c hc hi qh (fun _ _ _ _=>fU c 0 rfl) ht hk he hy hl hsw hs
end
section
variable{X:Cx}
def zQ:R2D:=fun x y M Q=>match x,y with
 |.ref a,.int k=>∃d,M a=some (.lst [d])/\0<=k/\k<=1000/\∀z,M z=none->Q (.ref z) (aw M z (.lst (Fv k.toNat d)))
 |_,_=>False
theorem oC{K:E2}{H:Hp}{d:D}{v:V}(r:Rep K H d v):∀n,aB K H (Fv n d) (Fv n v)
 |0=>by rw[List.replicate_zero,List.replicate_zero];exact .nil
 |n+1=>by rw[GI,GI];exact .cons r (oC r n)
theorem nQ{α:Type}(v:α):∀n,(Fv n [v]).flatten=Fv n v
 |0=>rfl
 |n+1=>by rw[GI,Ie,nQ v n];rfl
theorem x9:OpD X (Hi .Mult) zQ:=fN Ae fun v u H Q ⟨x,y,M,R,r1,r2,a,q,fin⟩=>by
 unfold zQ at q;split at q
 ·obtain⟨d,hd,h0,h1,q⟩:=q;obtain rfl:v=.ref _:=r1;obtain rfl:u=.int _:=r2;obtain⟨xs,hx,rx⟩:=a _ _ hd;obtain⟨w,rfl,rw'⟩:=bL rx;have sz:1000000<=Fb:=nbL rfl;refine⟨_,_,_,rfl,rfl,hx,by omega,by omega,by simp;omega,fun z hz=>?_⟩;rw[nQ];exact fin _ _ _ _ (.new hz) (by rw[Rep]) (a.mi hz (oC rw' _)) (q z (a.fresh hz))
 ·exact q.elim
end
section
theorem jJ(a u:E1):checkTypeCall "enumerate" ⟨[a],[("start",u)]⟩=pure ():=by kernel_rfl
theorem ku(a u:E1):checkBuiltinCall "enumerate.__new__" ⟨[.type "enumerate",a],[("start",u)]⟩=pure ():=by kernel_rfl
theorem qx(a b u:E1):argsOk "object.__init__" ⟨[a,b],[("start",u)]⟩:=by unfold argsOk;rw[PySem.signature?_of (id:="object.__init__") (n:=['_','_','t','i','n','i','_','_']) (o:=['t','c','e','j','b','o']) (by kernel_rfl) F.owner_object];kernel_rfl
def jE(l it:Addr):Obj×Obj:=({ cls:=.type "list_iterator",data:=.fields #[.ref l,.int 0 0] },{ cls:=.type "enumerate",data:=.fields #[.none,.bool false,.ref it,Hf 1,.none,.none] })
variable{prog:F8}{w:Fy}{A:FK}{E:E1->E3->Prop}{s:E3}{l:Addr}{items:Array E1}{n:Nat}{t:Tok}{Q:E1->E3->Prop}
theorem sW(hl:s.heap.get? l=some { cls:=.type "list",dict:=none,data:=.seq items n,slots:=#[] })
 (h:Q (.ref (s.heap.push (jE l 0).1).objs.size) { s with heap:=(s.heap.push (jE l 0).1).push (jE l s.heap.objs.size).2 }) :
 EX (F6 prog w) A (GQ.«enumerate.__new__» ⟨[.type "enumerate",.ref l],[("start",.int 1 t)]⟩) (fun fin s'=>∃v,fin=.done (.ret v)/\Q v s') E s:=by
 obtain⟨hp,g,d,tk,os⟩:=s
 have e1:=sub_enumerate
 have e2:Heap.IsList (Shared.heap ⟨hp,g,d,tk,os⟩) l items:=⟨_,hl,rfl,n,rfl⟩
 wp_walk using AutoSeq1.wpAny_loadPart' hl
 refine wpAny_stack_any fun st=>E4 ?_
 split
 case h_1 c _ _ _ _ _=>cases (c==Ht "enumerate")<;>(wp_walk using AutoSeq1.wpAny_loadPart' hl,wpAny_pyIter_list e2;exact⟨_,rfl,h⟩)
 all_goals (wp_walk using AutoSeq1.wpAny_loadPart' hl,wpAny_pyIter_list e2;exact⟨_,rfl,h⟩)
theorem p8:Meets (GQ.«enumerate.__new__» ⟨[.type "enumerate",.ref l],[("start",.int 1 t)]⟩) (fun _ R s=>s.heap.get? l=some { cls:=.type "list",dict:=none,data:=.seq items n,slots:=#[] }/\R (.ok (.ret (.ref (s.heap.push (jE l 0).1).objs.size))) { s with heap:=(s.heap.push (jE l 0).1).push (jE l s.heap.objs.size).2 }):=.of_wp fun prog w A R s z=>sW (Q:=fun v s'=>R (.ok (.ret v)) s') z.1 z.2
theorem ny{e:E1}{u:E1}:Meets (GQ.«object.__init__» ⟨[e,.ref l],[("start",u)]⟩) (fun _ R s=>s.TypeIs e "enumerate"/\R (.ok (.ret .none)) s):=
 .of_wp fun prog w A R s zz1_0=>by
  obtain⟨ty,r⟩:=zz1_0
  have e1:=F.called_enumerate.init.lookup
  have e2:=F.called_enumerate.made
  repeat (any_goals (first|assumption|wp_step))
  exact⟨_,rfl,r⟩
theorem qw(hl:s.heap.get? l=some { cls:=.type "list",dict:=none,data:=.seq items n,slots:=#[] })
 (h:∀h',IsEnum h' (s.heap.objs.size+1) s.heap.objs.size 1 .none->h'.IsListIter s.heap.objs.size l 0->(∀b o,s.heap.get? b=some o->h'.get? b=some o)->Q (.ref (s.heap.objs.size+1)) { s with heap:=h' }) :
 EX (F6 prog w) A (call (.type "enumerate") [.ref l] [("start",.int 1 t)]) Q E s:=by
 have C:=F.called_enumerate
 obtain⟨c,tl,c1⟩:=C.mro
 have c2:=C.made
 have c3:=C.sub
 have c4:=C.notType
 have c5:=C.canCreate
 have c6:=jJ (.ref l) (.int 1 t)
 refine wpAny_call (codeAny_of_tree (E4 ⟨Code.quiet_builtin _ (by decide +kernel),Gf F.entry_type_call ?_⟩))
 rw[Around.under_plain rfl rfl]
 repeat (any_goals (first|assumption|wp_step))
 have hz:(s.heap.push (jE l 0).1).objs.size=s.heap.objs.size+1:=Gj ..
 have g1:IsEnum ((s.heap.push (jE l 0).1).push (jE l s.heap.objs.size).2) (s.heap.objs.size+1) s.heap.objs.size 1 .none:=by
  have:=EY (s.heap.push (jE l 0).1) (o:=(jE l s.heap.objs.size).2) rfl
  rw[hz]at this;exact this
 have q:=h _ g1 ⟨_,E5 _ (EY _ rfl),rfl,rfl⟩ fun b o z=>E5 _ (E5 _ z)
 refine Ic (codeAny_call_builtin C.plain F.entry_enumerate_new (wpAny_of_eq (ku _ _) (p8 prog w A.in1 (wants (fun v s'=>v=.ref (s.heap.objs.size+1)/\s'.TypeIs v "enumerate"/\Q v s') E) s ⟨hl,by rw[hz];exact⟨rfl,⟨_,g1,rfl⟩,q⟩⟩))) fun r s₁ hr=>?_
 match r,hr with
 |.error e,hr=>exact hr
 |.ok (.ret v),⟨ev,ty,qv⟩=>
  have d1:=C.init.lookup
  have d2:=C.init.bind v
  repeat (any_goals (first|assumption|wp_step))
  refine Ic (codeAny_call_builtin C.init.plain F.entry_object_init (C.init.check _ _ _ _ _ _ _ _ ty (qx _ _ _) (ny prog w A.in1 (wants (fun r s₂=>r=.none/\Q v s₂) E) s₁ ⟨ty,rfl,qv⟩))) fun r₂ s₂ hr₂=>?_
  match r₂,hr₂ with
  |.error e,hr₂=>exact hr₂
  |.ok (.ret r),⟨er,q2⟩=>
   subst er
   repeat (any_goals (first|assumption|wp_step))
end
theorem oI{prog:F8}{w:Fy}{A:FK}{it:Addr}{fp:List Addr}{n:Nat}{P:Nat->E1->Prop}{St:Nat->Heap->Prop}(D:Draws prog w A it fp n P St):Draws prog w A it fp (n+1) (fun j x=>∃i,j=i+1/\P i x) (fun j h=>∃i,j=i+1/\St i h) where
 live:=fun j h ⟨i,_,st⟩=>D.live i h st
 frame:=fun j h h' ⟨i,e,st⟩ k=>⟨i,e,D.frame i h h' st k⟩
 item:=fun j s Q E hj ⟨i,e,st⟩ hQ=>D.item i s Q E (by omega) st fun x h' tk p st' sb=>hQ x h' tk ⟨i,e,p⟩ ⟨i+1,by omega,st'⟩ sb
 done:=fun s Q E ⟨i,e,st⟩ hE=>by
  obtain rfl:i=n:=by omega
  exact D.done s Q E st hE
theorem pI{prog:F8}{w:Fy}{A:FK}(hh:A.handled=none)(it l:Addr)(hne:l≠it)(items:Array E1){i:Nat}(hx:items[i]?=none):Draws prog w A it [it,l] i (fun _ _=>False) (fun j h=>j=i/\h.IsListIter it l i/\h.IsList l items) where
 live:=fun _ _ st=>let⟨o,ho,_⟩:=st.2.1;⟨o,ho⟩
 frame:=fun _ _ _ st hk=>⟨st.1,st.2.1.at fun o e=>hk it (by simp) o e,st.2.2.at fun o e=>hk l (by simp) o e⟩
 item:=fun j s Q E hj st _=>absurd st.1 (by omega)
 done:=fun s Q E st hE=>wpAny_nextOf_list_end hh st.2.1 st.2.2 hx hE
def Dq(K:E2)(a:Addr):It:=
 ⟨fun i H=>∃xs x,SqL K H a xs/\xs[i]?=some x,fun i H x H'=>∃T y,x=.ref T/\H T=none/\H'=upd H T (.tup [.int ((i+1:Nat):Int),y])/\∀xs,SqL K H a xs->xs[i]?=some y,fun i H=>∃xs,SqL K H a xs/\xs.length<=i⟩
theorem pR{P:F8}{w:Fy}{K:E2}{elts:List Expr}{kt}{pt:Pos}(a e it:Addr)(hei:e≠it):Turn P w K (.Tuple elts kt pt) (Dq K a) [e,it] e (fun i h=>(∃old,IsEnum h e it ((i+1:Nat):Int) old)/\h.IsListIter it a i) where
 mem:=by simp
 obj:=fun i h st b hb=>by
  rcases(show b=e\/b=it by simpa using hb)with rfl|rfl
  ·obtain⟨⟨old,q⟩,_⟩:=st
   exact⟨_,q,fun v z=>by
    have z':Data.fields _=Data.cell v:=z
    cases z'⟩
  ·obtain⟨o,q,c,d⟩:=st.2
   exact⟨o,q,fun v z=>by rw[d]at z;cases z⟩
 keep:=fun i h h' st k=>by
  obtain⟨⟨old,q⟩,st⟩:=st
  exact⟨⟨old,k e (by simp) _ q⟩,st.at fun o z=>k it (by simp) o z⟩
 item:=by
  intro X hP hw hK hc i pins s σ H E I hf st hg
  subst hP hw hK
  obtain⟨xs,x,hq,hx⟩:=hg
  obtain⟨its,rv,p,hz⟩:=I.list hq
  obtain⟨u,hu,ru⟩:=rv.get hx
  obtain⟨⟨old,he⟩,hit⟩:=st
  have le:e<s.heap.objs.size:=F9 he
  have li:it<s.heap.objs.size:=by obtain⟨o,q,_⟩:=hit;exact F9 q
  have hal:a≠it:=fun z=>by
   subst z
   obtain⟨o1,z1,z2,_⟩:=hit
   obtain⟨o2,y1,y2,_⟩:=p.isList
   rw[z1]at y1;cases y1
   rw[z2]at y2;exact absurd (Ht.inj y2) (by decide)
  have hea:e≠a:=fun z=>by
   subst z
   obtain⟨o2,y1,y2,_⟩:=p.isList
   rw[show s.heap.get? e=_ from he]at y1;cases y1
   exact absurd (Ht.inj y2) (by decide)
  have hhd:X.A.in1.handled=none:=I.ok.hd hc
  have hil:i<its.length:=(F0.mp hu).1
  refine wpAny_pyNext_enum_itemD (i:=i+1) (oI (Draws.list hhd it a hal its.toArray)) he ⟨i,rfl,hit,p.isList⟩ (by simp;omega) hei (by simp[hei,hea]) fun x0 h1 tk hx0 ho hit0 hT hsz hk=>?_
  obtain⟨i0,ei0,hx0⟩:=hx0
  obtain rfl:i=i0:=by omega
  obtain⟨i1,ei1,hit1⟩:=hit0
  obtain rfl:i1=i+1:=by omega
  obtain rfl:u=x0:=by
   have hx0:its[i]?=some x0:=by simpa using hx0
   rw[hu]at hx0;cases hx0;rfl
  refine⟨_,rfl,wpAny_letOwnedTupleGo_enum (s:={ s with heap:=h1,toks:=tk+1 }) ho fun h2 he2 hs2=>?_⟩
  have hs2:GO e h1 h2:=hs2
  have fr:=I.fresh
  have I1:Inv X pins σ (upd H s.heap.objs.size (.tup [.int ((i+1:Nat):Int),x])) { s with heap:=s.heap.push { cls:=.type "tuple",data:=.seq #[.int ((i+1:Nat):Int) tk,u] },toks:=s.toks }:=
   I.laid (fun b v q=>E5 _ q) (E8 _) ⟨nbL rfl,[.int ((i+1:Nat):Int) tk,u],.cons ⟨_,rfl⟩ (.cons ru .nil),⟨_,EY _ rfl,rfl,_,rfl⟩,⟨_,EY _ rfl,rfl⟩⟩
  have fk:∀{b:Addr},b<s.heap.objs.size->cf X pins H b->cf X pins (upd H s.heap.objs.size (.tup [.int ((i+1:Nat):Int),x])) b:=fun{b} lt f=>⟨by rw[aK (Fs lt)];exact f.1,f.2⟩
  have fe:=fk le (hf e (by simp))
  have fi:=fk li (hf it (by simp))
  have I2:Inv X pins σ (upd H s.heap.objs.size (.tup [.int ((i+1:Nat):Int),x])) { s with heap:=h2,toks:=tk+1 }:=by
   refine jL (s:={ s with heap:=s.heap.push { cls:=.type "tuple",data:=.seq #[.int ((i+1:Nat):Int) tk,u] },toks:=s.toks }) I1 (fun b o ne ni q=>?_) fe fi
   have q:(s.heap.push { cls:=.type "tuple",data:=.seq #[.int ((i+1:Nat):Int) tk,u] }).get? b=some o:=q
   refine(hs2.2 b ne).trans ?_
   rcases Heap.get?_push_cases q with⟨rfl,rfl⟩|q
   ·exact hT
   ·exact hk b o ne ni q
  refine⟨.ref s.heap.objs.size,_,I2,rfl,⟨_,x,rfl,fr,rfl,fun ys hy=>by rw[I.m5 hy hq];exact hx⟩,⟨⟨u,?_⟩,hit1.1.at fun o z=>(hs2.2 it hei.symm).trans z⟩,fun b hb=>?_⟩
  ·exact he2
  ·rcases(show b=e\/b=it by simpa using hb)with rfl|rfl
   ·exact fe.1
   ·exact fi.1
 done:=by
  intro X hP hw hK hc i pins s σ H E I hf st hg
  subst hP hw hK
  obtain⟨xs,hq,hx⟩:=hg
  obtain⟨its,rv,p,hz⟩:=I.list hq
  obtain⟨⟨old,he⟩,hit⟩:=st
  obtain⟨f0,f1,f2,f3,f4,f5⟩:=hf it (by simp)
  have hl:=rv.length
  have hal:a≠it:=fun z=>by
   subst z
   obtain⟨o1,z1,z2,_⟩:=hit
   obtain⟨o2,y1,y2,_⟩:=p.isList
   rw[z1]at y1;cases y1
   rw[z2]at y2;exact absurd (Ht.inj y2) (by decide)
  have hhd:X.A.in1.handled=none:=I.ok.hd hc
  exact wpAny_pyNext_enum_endD (pI hhd it a hal its.toArray (i:=i) (by simp;omega)) he ⟨rfl,hit,p.isList⟩ fun h' eb=>⟨rfl,I.turned (t':=s.toks) (fun b o hb q=>eb b o hb q) f0 f1 f3 f4 f5⟩
 self:=fun _ _ _ _ _ st h=>let⟨⟨_,he⟩,_⟩:=st;wpAny_pyIter_enum he h
section
variable{X:Cx}{elts:List Expr}{kt:Nat}{pt:Pos}
theorem jm{pos kp:Pos}{T:String}{e k:Expr}{name:Str}{env:Env}{M:Model}{A:FK}{E:E1->E3->Prop}{s:E3}{Q:E1->E3->Prop}
 (h:EX M A (spliced (GK pos (Fc [e] env))) (fun vs s₁=>EX M A (eval k env) (fun u s₂=>EX M A (call (.type T) vs [(name,u)]) Q E s₂) E s₁) E s)
 (he:GK pos (Fc [e] env)=(false,eval e env)::GK pos (Fc [] env):=by rfl) (hpl:(GK pos (Fc [e] env)).any (·.1)=false:=by rfl) :
 EX M A (callWith pos (.type T) [] (GK pos (Fc [e] env)) (backToKw pos (HE [⟨some name,k,kp⟩] env))) Q E s:=by
 have ev:EX M A (evalArgs (.type T) true (GK pos (Fc [e] env)) (backToKw pos (HE [⟨some name,k,kp⟩] env))) (fun a s₁=>EX M A (call (.type T) a.pos a.kw) Q E s₁) E s:=by
  rw[he]at h ⊢
  refine evalArgs_kwB rfl (F7 h (fun vs s₁ h₁=>?_) fun _ _ z=>z)
  exact kws_cons (F7 h₁ (fun u s₂ h₂=>kws_nil h₂) fun _ _ z=>z)
 unfold callWith
 refine cc (FX (F7 ev (fun a s₁ h₁=>cc (GL ?_)) fun _ _ z=>z))
 have no:(backToKw pos (HE [⟨some name,k,kp⟩] env)).any (·.1.isNone)=false:=rfl
 simp only[hpl,no,Bool.or_false]
 exact cc (E4 (cc (F7 h₁ (fun r s₂ hr=>cc (FX (wpAny_point (E4 hr)))) fun _ _ z=>z)))
def Az(K:E2)(ta:TA):TI:=fun σ H R=>ta σ H fun vs H1=>∃a xs,vs=[.ref a]/\H1 a=some (.lst xs)/\R (Dq K a) H1
theorem uo{a k:Expr}{ta:TA}{p pos kp:Pos}(hg:Gl X "enumerate")(hm:X.mg "enumerate"=none)(ha:PA X [a] ta)(hk:∀pins s σ H (Q:VK),Inv X pins σ H s->Q (.int 1) H->EX (F6 X.prog X.w) X.A (eval k X.env) (EP X pins σ Q) X.xe s)
 (hs:Fc [a] X.env=[(false,eval a X.env)]:=by rfl):PI X (.Tuple elts kt pt) (.Call (.Name "enumerate" p) [a] [⟨some "start",k,kp⟩] pos) (Az X.K ta):=by
 intro pins s σ H R I h
 refine wpAny_Call_Name_kw (gT I hg hm gu (jm (thn (ha pos pins s σ H _ I h) fun us s1 ⟨vs,H1,I1,r1,q1⟩=>?_) (by rw[hs];rfl) (by rw[hs];rfl)))
 obtain⟨l,xs,ev,hH,q⟩:=q1
 subst ev
 obtain⟨u,rfl,ru⟩:=r1.one
 cases ru
 refine thn (hk pins s1 σ H1 (fun v H'=>v=.int 1/\H'=H1) I1 ⟨rfl,rfl⟩) fun u s2 ⟨v,H2,I2,r2,e1,e2⟩=>?_
 subst e1 e2
 obtain⟨t,rfl⟩:=r2
 obtain⟨z,its,n,r,hl,e⟩:=I2.sC hH
 refine qw e fun h' he hit hk=>wpAny_pyIter_enum he ?_
 have fp:∀b∈[s2.heap.objs.size+1,s2.heap.objs.size],cf X pins H2 b:=fun b hb=>by
  have hb':s2.heap.objs.size<=b:=by
   rcases(show b=s2.heap.objs.size+1\/b=s2.heap.objs.size by simpa using hb)with rfl|rfl
   ·exact Nat.le_succ _
   ·exact E8 _
  exact I2.qg hb' (I2.hok.fresh hb')
 exact⟨_,[s2.heap.objs.size+1,s2.heap.objs.size],_,_,H2,rfl,I2.kept (t':=s2.toks) hk,pR l _ _ (Nat.succ_ne_self _),⟨⟨_,he⟩,hit⟩,fp,q⟩
def Ba(ta:TAD):TID:=fun δ M R=>ta δ M fun ds M1=>∃l es,ds=[.ref l]/\M1 l=some (.lst es)/\R ⟨es.length,fun i=>(es[i]?).map fun d=>.tup [.int ((i+1:Nat):Int),d],fun M=>M l=some (.lst es)⟩ M1
theorem wb{a:Expr}{ta:TAD}{p pos kp cp:Pos}{kc}(hg:Gl X "enumerate")(hm:X.mg "enumerate"=none)(ha:DA X [a] ta)(hs:Fc [a] X.env=[(false,eval a X.env)]:=by rfl):DI X (.Tuple elts kt pt) (.Call (.Name "enumerate" p) [a] [⟨some "start",.Constant (.int 1) kc cp,kp⟩] pos) (Ba ta):=
 pN (uo hg hm ha (fun pins s σ H Q I q=>wx pins s σ H Q I q) hs) fun σ H R ⟨δ,M,RD,hs,hM,q,fin⟩=>⟨δ,M,_,hs,hM,q,fun ds M1 vs H1 g1 r1 a1 ⟨l,es,e,hl,q1⟩=>by
  subst e
  obtain⟨v,rfl,r⟩:=bL r1
  rw[Rep]at r;subst r
  obtain⟨xs,hx,rs⟩:=a1 _ _ hl
  refine⟨l,xs,rfl,hx,fin _ M1 H1 _ g1 a1 q1 ⟨fun H2 M2 g2 a2 c2=>?_,fun i H2 M2 hi g2 a2 c2=>?_,?_⟩⟩
  ·obtain⟨ys,hy,ry⟩:=a2 _ _ (show M2 l=some (.lst es)from c2)
   exact⟨ys,SqL.of hy,by rw[<-ry.length];exact E8 _⟩
  ·obtain⟨ys,hy,ry⟩:=a2 _ _ (show M2 l=some (.lst es)from c2)
   have hi':i<ys.length:=by rw[<-ry.length];exact hi
   exact⟨ys,ys[i],SqL.of hy,by simp[hi']⟩
  ·rintro i H2 M2 v H3 hi g2 a2 c2 ⟨T,y,rfl,hT,rfl,hy⟩
   have hi:i<es.length:=hi
   obtain⟨ys,hys,ry⟩:=a2 _ _ (show M2 l=some (.lst es)from c2)
   obtain⟨x,e1,e2⟩:=ry.get (show es[i]?=some es[i] by simp[hi])
   have:=hy ys (SqL.of hys)
   rw[e1]at this;cases this
   exact⟨.new hT,a2.new hT,.tup [.int ((i+1:Nat):Int),es[i]],by simp[hi],by rw[Rep];exact⟨T,_,rfl,SqT.of aM,.cons (by rw[Rep]) (.cons (e2.mono (.new hT)) .nil)⟩⟩⟩
end
theorem l0{ws:List Wl}:∀{i:Nat} {rs:List (List Nat)},Rgs ws i rs->rs.length<=i
 |0,rs,h=>by rw[show rs=[]from h];simp
 |i+1,rs,⟨qs,h1,h2⟩=>by
  have:=l0 h1
  rcases h2 with⟨_,rfl⟩|⟨_,r,_,rfl⟩
  ·omega
  ·simp;omega
structure RgA(ws:List Wl)(r:List Nat):Prop where
 rng:Rng ws r
 len:r.length<=2*ws.length
 lt:∀g∈r,g<2*ws.length
 pos:0<r.length
theorem iN{ws:List Wl}(hU:∀w∈ws,Un5 w)(hF:PF ws):∀{i:Nat} {rs:List (List Nat)},i<=2*ws.length->Rgs ws i rs->∀r∈rs,RgA ws r
 |0,rs,_,h,r,hr=>by rw[show rs=[]from h]at hr;cases hr
 |i+1,rs,hi,⟨qs,h1,h2⟩,r,hr=>by
  rcases h2 with⟨_,rfl⟩|⟨_,r',⟨kk,n,e,rfl⟩,rfl⟩
  ·exact iN hU hF (by omega) h1 r hr
  ·rcases Fl.mp hr with z|z
   ·exact iN hU hF (by omega) h1 r z
   ·have:r=rn ws i kk:=by simpa using z
    subst this
    have hl:=qG hU hF (show i<2*ws.length by omega) n
    refine⟨⟨i,kk,by omega,hl,rfl,e⟩,by rw[gL];omega,fun g hg=>?_,by rw[gL];omega⟩
    unfold rn at hg
    obtain⟨j,_,rfl⟩:=Fm.mp hg
    exact eG hU hF (by omega) j
def bT(ws:List Wl)(r:List Nat):Bool:=decide (0<(r.map (twT ws)).sum)
theorem uT{ws:List Wl}(hU:∀w∈ws,Un5 w)(hF:PF ws){r:List Nat}(R:Rng ws r){t b X Y tot B:Int}(ht:0<t)(hb:0<b)(hB:0<B)(e:(tot:Rat)=(r.map (arT t b X Y ws)).sum*(B:Rat)):decide (0<tot)=bT ws r:=by
 have cp:∀{z:Int},0<z->(0:Rat)<(z:Rat):=fun{z} h=>by exact_mod_cast h
 have kpos:(0:Rat)<(t:Rat)/b:=by rw[Rat.div_def];exact Ig (Ma.pos_int ht) (Rat.inv_pos.mpr (Ma.pos_int hb))
 have hk:(0:Rat)<((t:Rat)/b)*((t:Rat)/b)*(B:Rat):=Ig (Ig kpos kpos) (cp hB);rw[Cv hU hF R hb]at e;have e1:(tot:Rat)=((t:Rat)/b)*((t:Rat)/b)*(B:Rat)*(((r.map (twT ws)).sum:Int):Rat):=by rw[e];grind
 have s1:=sgn_mul hk (r.map (twT ws)).sum;rw[<-e1]at s1;have s2:=sgn_mul (show(0:Rat)<1 by decide) tot;rw[Rat.one_mul]at s2;rw[s2]at s1;unfold bT;rw[decide_eq_decide,<-Int.sign_eq_one_iff_pos,s1,Int.sign_eq_one_iff_pos]
theorem RL.get{M:MH}{ps:List Addr}{rs:List (List Nat)}(h:RL M ps rs){i:Nat}(hi:i<ps.length):∃r,rs[i]?=some r/\M ps[i]=some (.lst (r.map fun g:Nat=>D.int (g:Int))):=by
 unfold RL at h
 induction h generalizing i with
 |nil=>simp at hi
 |@cons p r ps rs a _ ih=>
  cases i with
  |zero=>exact⟨r,rfl,a⟩
  |succ i=>simpa using ih (by simpa using hi)
theorem iz{α:Type}(f:α->Bool)(l:List α){i:Nat}{r:α}(e:l[i]?=some r):(l.take (i+1)).filter f=(l.take i).filter f++(if f r=true then[r]else[]):=by
 rw[Hn,e,List.filter_append]
 congr 1
 simp[List.filter_cons]
def mn(a c:Vc):Vc:=if la a.1 a.2<la c.1 c.2 then a else c
theorem DV{t b X Y:Int}(ht:0<t)(hb:0<b){u v:Vc}(hu:B20 u)(hv:B20 v):(if Ma.ah (Ma.ut t b X 1 u.1) (Ma.ut t b Y 1 u.2) (Ma.ut t b X 1 v.1) (Ma.ut t b Y 1 v.2)then(Ma.ut t b X 1 u.1,Ma.ut t b Y 1 u.2)else(Ma.ut t b X 1 v.1,Ma.ut t b Y 1 v.2))=(Ma.ut t b X 1 (mn u v).1,Ma.ut t b Y 1 (mn u v).2):=by
 have h:=vp (X:=X) (Y:=Y) ht hb hu hv;unfold plt at h;unfold mn;by_cases z:la u.1 u.2<la v.1 v.2
 ·rw[if_pos (h.mpr z),if_pos z]
 ·rw[if_neg (fun q=>z (h.mp q)),if_neg z]
theorem Bg{u v:Vc}(hu:B20 u)(hv:B20 v):B20 (mn u v):=by
 unfold mn;split
 ·exact hu
 ·exact hv
theorem qk{ws:List Wl}(hU:∀w∈ws,Un5 w){g:Nat}(hg:g<2*ws.length):B20 (fa ws g):=by
 obtain⟨_,_,w3⟩:=bC (ws:=ws) (k:=((g/2:Nat):Int)) (by omega) (by omega);have W:=hU _ w3;unfold fa fw;by_cases h:g%2=0
 ·rw[if_pos h];exact⟨W.a,W.b⟩
 ·rw[if_neg h];exact⟨W.c,W.d⟩
def fcI(ws:List Wl)(r:List Nat)(i:Nat):Vc:=(r.take i).foldl (fun a g=>mn a (fa ws g)) (fa ws (r.headD 0))
def fc(ws:List Wl)(r:List Nat):Vc:=fcI ws r r.length
theorem nR{ws:List Wl}{r:List Nat}{i g:Nat}(e:r[i]?=some g):fcI ws r (i+1)=mn (fcI ws r i) (fa ws g):=by unfold fcI;rw[Hn,e,List.foldl_append];rfl
theorem mI{ws:List Wl}(hU:∀w∈ws,Un5 w){r:List Nat}(hr:∀g∈r,g<2*ws.length)(hp:0<r.length):∀i,i<=r.length->B20 (fcI ws r i)
 |0,_=>by
  unfold fcI
  cases r with
  |nil=>simp at hp
  |cons g r=>exact qk hU (hr g (by simp))
 |i+1,h=>by
  rw[nR (E7 (show i<r.length by omega))]
  exact Bg (mI hU hr hp i (by omega)) (qk hU (hr _ (G6 _)))
def B4(ws:List Wl)(fs:List Int):Int:=(fs.filter fun k=>fs.all fun j=>!abv (wAt ws j) (wAt ws k)).headD 0
theorem yp{ws:List Wl}(hU:∀w∈ws,Un5 w)(hF:PF ws){p q tt:Int}(htt:tt∈bK ws 1 p q)(h:∀w∈(bK ws 1 p q).map (wAt ws),w=wAt ws tt\/(abv (wAt ws tt) w=true/\abv w (wAt ws tt)=false)):B4 ws (bK ws 1 p q)=tt:=by
 obtain⟨t,h1,h2,h3⟩:=ua hU hF (show(0:Int)<1 by decide) (fun k hk=>fM hk) (List.ne_nil_of_mem htt) (nT ws 1 p q);unfold B4;rw[h3];show t=tt
 have e:wAt ws t=wAt ws tt:=by
  rcases h _ (Fm.mpr ⟨t,h1,rfl⟩)with z|z
  ·exact z
  ·rcases h2 _ (Fm.mpr ⟨tt,htt,rfl⟩)with y|y
   ·exact y.symm
   ·rw[y.1]at z;exact absurd z.2 (by decide)
 have a:=ff (fM h1);have c:=ff (fM htt);by_cases ne:t.toNat=tt.toNat
 ·omega
 ·exact absurd ⟨by rw[e],by rw[e]⟩ (hF t.toNat tt.toNat _ _ ne (bC a.1 a.2.1).1 (bC c.1 c.2.1).1).ne
def laF(ws:List Wl)(L:List Int)(u:Vc):Int:=if bK ws 1 u.1 u.2=[]then 0 else(L[2*(B4 ws (bK ws 1 u.1 u.2)).toNat]?).getD 0
def gG(L:List Int)(r:List Nat)(v:Int)(i:Nat):List Int:=(r.take i).foldl (fun L g=>L.set g v) L
def fill(L:List Int)(r:List Nat)(v:Int):List Int:=gG L r v r.length
theorem jO{L:List Int}{r:List Nat}{v:Int}{i g:Nat}(e:r[i]?=some g):gG L r v (i+1)=(gG L r v i).set g v:=by unfold gG;rw[Hn,e,List.foldl_append];rfl
theorem gm(v:Int):∀(r:List Nat) (L:List Int),(r.foldl (fun L g=>L.set g v) L).length=L.length
 |[],L=>rfl
 |g::r,L=>by rw[List.foldl_cons,gm v r,List.length_set]
theorem eZ(L:List Int)(r:List Nat)(v:Int)(i:Nat):(gG L r v i).length=L.length:=gm v _ L
theorem qJ{n j:Nat}(h:j<n):L2.ixN n (j:Int)=some j:=by unfold L2.ixN;rw[if_pos (by omega),if_pos (by omega)];rfl
def fO(m:Nat)(outs:List (List Nat)):Nat->List Int
 |0=>Fv m 0
 |i+1=>fill (fO m outs i) ((outs[i]?).getD []) ((i+1:Nat):Int)
theorem mM(m:Nat)(outs:List (List Nat)):∀i,(fO m outs i).length=m
 |0=>by simp[fO]
 |i+1=>by rw[fO,fill,eZ,mM m outs i]
def bU(ws:List Wl)(ins:List (List Nat)):Nat->List Vc
 |0=>[]
 |i+1=>let c:=fc ws ((ins[i]?).getD []);if c∈bU ws ins i then bU ws ins i else bU ws ins i++[c]
def n6(ws:List Wl)(ins:List (List Nat))(c:Vc):Nat->Option Nat
 |0=>none
 |i+1=>if fc ws ((ins[i]?).getD [])=c then some i else n6 ws ins c i
theorem ir(ws:List Wl)(ins:List (List Nat)):∀i,(bU ws ins i).Nodup
 |0=>List.nodup_nil
 |i+1=>by
  have ih:=ir ws ins i
  unfold bU
  dsimp only
  split
  ·exact ih
  ·rename_i h
   rw[List.nodup_append]
   refine⟨ih,by simp,fun a ha b hb=>?_⟩
   have:b=fc ws ((ins[i]?).getD []):=by simpa using hb
   subst this
   exact fun z=>h (z▸ha)
theorem gX(ws:List Wl)(ins:List (List Nat)):∀i,(bU ws ins i).length<=i
 |0=>E8 _
 |i+1=>by
  have ih:=gX ws ins i
  unfold bU
  dsimp only
  split
  ·omega
  ·simp;omega
theorem gZ{ws:List Wl}{ins:List (List Nat)}{c:Vc}:∀{i},c∈bU ws ins i->∃j,n6 ws ins c i=some j/\j<i/\fc ws ((ins[j]?).getD [])=c
 |0,h=>by cases h
 |i+1,h=>by
  unfold n6
  by_cases e:fc ws ((ins[i]?).getD [])=c
  ·exact⟨i,by rw[if_pos e],by omega,e⟩
  ·rw[if_neg e]
   have h':c∈bU ws ins i:=by
    unfold bU at h
    dsimp only at h
    split at h
    ·exact h
    ·rcases Fl.mp h with z|z
     ·exact z
     ·exact absurd (by simpa using z:c=_).symm e
   obtain⟨j,a,b,d⟩:=gZ h'
   exact⟨j,a,by omega,d⟩
def fS(ws:List Wl)(ins:List (List Nat))(L:List Int)(ps:List Vc):Nat->List Int
 |0=>L
 |i+1=>let c:=(ps[i]?).getD (0,0);fill (fS ws ins L ps i) ((ins[(n6 ws ins c ins.length).getD 0]?).getD []) (laF ws (fS ws ins L ps i) c)
theorem qe(ws:List Wl)(ins:List (List Nat))(L:List Int)(ps:List Vc):∀i,(fS ws ins L ps i).length=L.length
 |0=>rfl
 |i+1=>by rw[fS,fill,eZ,qe ws ins L ps i]
def yt(ws:List Wl)(L:List Int):Prop:=∃(rs:List (List Nat)) (ps:List Vc),Rgs ws (2*ws.length) rs/\ps.Perm (bU ws (rs.filter fun r=>!bT ws r) (rs.filter fun r=>!bT ws r).length)/\ps.Pairwise plt/\
 L=fS ws (rs.filter fun r=>!bT ws r) (fO (2*ws.length) (rs.filter (bT ws)) (rs.filter (bT ws)).length) ps ps.length
theorem fZ(k:SpK)(d:D)(k':SpK):∀kvs:SpT,((kvs.map fun x=>if x.1=k then(x.1,d)else x).find? fun x=>decide (x.1=k')).map (·.2)=if k'=k/\(kvs.any fun x=>decide (x.1=k))=true then some d else(kvs.find? fun x=>decide (x.1=k')).map (·.2)
 |[]=>by simp
 |x::kvs=>by
  have ih:=fZ k d k' kvs
  rw[EW,FA,FA,HF]
  by_cases a:x.1=k
  ·rw[if_pos a]
   by_cases b:x.1=k'
   ·have e:k'=k:=b.symm.trans a
    simp[a,e]
   ·have ne:¬k'=k:=fun z=>b (a.trans z.symm)
    rw[if_neg (fun z=>ne z.1)]
    rw[if_neg (fun z=>ne z.1)]at ih
    simp only[decide_eq_false b]
    exact ih
  ·rw[if_neg a]
   by_cases b:x.1=k'
   ·have ne:¬k'=k:=fun z=>a (b.trans z)
    rw[if_neg (fun z=>ne z.1)]
    simp[b]
   ·simp only[decide_eq_false b,decide_eq_false a,Bool.false_or]
    exact ih
theorem vV(kvs:SpT)(k:SpK)(d:D)(k':SpK):cO (putD kvs k d) k'=if k'=k then some d else cO kvs k':=by
 unfold putD cO;by_cases h:(kvs.any fun x=>decide (x.1=k))=true
 ·rw[if_pos h,fZ];by_cases e:k'=k
  ·rw[if_pos ⟨e,h⟩,if_pos e]
  ·rw[if_neg (fun z=>e z.1),if_neg e]
 ·rw[if_neg h,List.find?_append];by_cases e:k'=k
  ·subst e;have:(kvs.find? fun x=>decide (x.1=k'))=none:=by rw[List.find?_eq_none];intro x hx hq;exact h (List.any_eq_true.mpr ⟨x,hx,hq⟩)
   rw[this,if_pos rfl];simp
  ·rw[if_neg e];have:([(k,d)]:SpT).find? (fun x=>decide (x.1=k'))=none:=by simp;exact fun z=>e z.symm
   rw[this];simp
theorem wZ(kvs:SpT)(k:SpK)(d:D):(putD kvs k d).map (·.1)=if k∈kvs.map (·.1)then kvs.map (·.1)else kvs.map (·.1)++[k]:=by
 unfold putD;have e:((kvs.any fun x=>decide (x.1=k))=true)↔k∈kvs.map (·.1):=by rw[List.any_eq_true,Fm];exact⟨fun zz1_0=>by obtain⟨x,a,b⟩:=zz1_0;exact(⟨x,a,by simpa using b⟩),fun zz2_0=>by obtain⟨x,a,b⟩:=zz2_0;exact(⟨x,a,by simpa using b⟩)⟩
 by_cases h:k∈kvs.map (·.1)
 ·rw[if_pos (e.mpr h),if_pos h,Hy];apply List.map_congr_left;intro x _;show(if x.1=k then(x.1,d)else x).1=x.1;split<;>rfl
 ·rw[if_neg (fun z=>h (e.mp z)),if_neg h,FI];rfl
structure RDt(t b X Y:Int)(ws:List Wl)(ins:List (List Nat))(qs:List Addr)(i:Nat)(kvs:SpT):Prop where
 ks:kvs.map (·.1)=(bU ws ins i).map (gk t b X Y)
 vs:∀c,cO kvs (gk t b X Y c)=(n6 ws ins c i).bind fun j=>(qs[j]?).map D.ref
theorem RDt.nil(t b X Y:Int)(ws:List Wl)(ins:List (List Nat))(qs:List Addr):RDt t b X Y ws ins qs 0 []:=⟨rfl,fun c=>rfl⟩
theorem RDt.put{t b X Y:Int}{ws:List Wl}{ins:List (List Nat)}{qs:List Addr}{i:Nat}{kvs:SpT}{r:List Nat}{q:Addr}(ht:0<t)(hb:0<b)(h:RDt t b X Y ws ins qs i kvs)(er:ins[i]?=some r)(eq:qs[i]?=some q):RDt t b X Y ws ins qs (i+1) (putD kvs (gk t b X Y (fc ws r)) (.ref q)):=by
 have er':(ins[i]?).getD []=r:=by rw[er];rfl
 refine⟨?_,fun c=>?_⟩
 ·rw[wZ,h.ks]
  have ek:bU ws ins (i+1)=if fc ws r∈bU ws ins i then bU ws ins i else bU ws ins i++[fc ws r]:=by
   conv=>lhs;unfold bU
   rw[er']
  rw[ek];by_cases z:fc ws r∈bU ws ins i
  ·rw[if_pos z,if_pos (Fm.mpr ⟨_,z,rfl⟩)]
  ·rw[if_neg z,if_neg (fun y=>by
    obtain⟨c,hc,ec⟩:=Fm.mp y
    exact z ((mQ ht hb ec)▸hc)),FI]
   rfl
 ·rw[vV]
  have ea:n6 ws ins c (i+1)=if fc ws r=c then some i else n6 ws ins c i:=by
   conv=>lhs;unfold n6
   rw[er']
  rw[ea];by_cases z:fc ws r=c
  ·rw[if_pos (by rw[z]),if_pos z];show _=(qs[i]?).map D.ref;rw[eq];rfl
  ·rw[if_neg (fun y=>z (mQ ht hb y).symm),if_neg z];exact h.vs c
open PySem PySem.SetTable
theorem sub_len'{α:Type}[DecidableEq α]:∀{l m:List α},l.Nodup->(∀x∈l,x∈m)->l.length<=m.length
 |[],_,_,_=>FQ _
 |a::l,m,h,s=>by
  rw[Hu]at h
  have ha:=s a G9
  have:=sub_len' (m:=m.erase a) h.2 fun x hx=>(List.mem_erase_of_ne (fun e=>by subst e;exact h.1 hx)).mpr (s x (FH _ hx))
  rw[List.length_erase_of_mem ha]at this
  have:=List.length_pos_of_mem ha
  rw[Fi];omega
def ad(t:FE):Nat->Probe->Probe
 |0,p=>p
 |n+1,p=>ad t n (t.advance p)
theorem ie(t:FE):∀(n m:Nat) (p:Probe),ad t (n+m) p=ad t m (ad t n p)
 |0,m,p=>by rw[Nat.zero_add];rfl
 |n+1,m,p=>by rw[show n+1+m=(n+m)+1 by omega];exact ie t n m (t.advance p)
theorem l3(t:FE)(n:Nat)(p:Probe):ad t (n+1) p=t.advance (ad t n p):=ie t n 1 p
theorem lE(t:FE)(p:Probe):(t.advance p).dummy=p.dummy:=by unfold SetTable.advance;split<;>rfl
theorem nZ(t:FE):∀(n:Nat) (p:Probe),(ad t n p).dummy=p.dummy
 |0,_=>rfl
 |n+1,p=>by rw[ad,nZ t n,lE]
theorem tY{t u:FE}(e:t.mask=u.mask)(p:Probe):t.advance p=u.advance p:=by unfold SetTable.advance;rw[e]
theorem mN{t u:FE}(e:t.mask=u.mask):∀(n:Nat) (p:Probe),ad t n p=ad u n p
 |0,_=>rfl
 |n+1,p=>by rw[ad,ad,tY e,mN e n]
theorem jC{t u:FE}(e:t.mask=u.mask)(h:Int):t.probeStart h=u.probeStart h:=by unfold SetTable.probeStart;rw[e]
def lpN(m:Nat)(h:Int):Nat->Nat×Nat
 |0=>(bits h%(m+1),bits h)
 |K+1=>leap m (lpN m h K).1 (lpN m h K).2
def lpP(m:Nat)(h:Int)(K:Nat):Probe:={ j:=(lpN m h K).1,more:=runEnd m (lpN m h K).1-(lpN m h K).1,i:=(lpN m h K).1,perturb:=(lpN m h K).2,dummy:=none }
theorem pP(m i:Nat):runEnd m i-i<=9:=by unfold SetTable.runEnd;split<;>omega
theorem e9(t:FE):∀(r:Nat) (p:Probe),r<=p.more->ad t r p={ p with j:=p.j+r,more:=p.more-r }
 |0,p,_=>rfl
 |r+1,p,h=>by
  rw[l3,e9 t r p (by omega)]
  unfold SetTable.advance
  rw[if_pos (by show p.more-r>0;omega)]
  show({ p with j:=p.j+r+1,more:=p.more-r-1 }:Probe)=_
  congr 1
theorem qN(t:FE)(h:Int):∀K,∃n,n<=10*K/\ad t n (t.probeStart h)=lpP t.mask h K
 |0=>⟨0,E8 _,rfl⟩
 |K+1=>by
  obtain⟨n,hn,e⟩:=qN t h K
  have rl:=pP t.mask (lpN t.mask h K).1
  refine⟨n+((lpP t.mask h K).more+1),by show n+(runEnd t.mask (lpN t.mask h K).1-(lpN t.mask h K).1+1)<=_;omega,?_⟩
  rw[ie,e,l3,e9 t _ _ (E8 _)]
  unfold SetTable.advance
  rw[if_neg (by show ¬(lpP t.mask h K).more-(lpP t.mask h K).more>0;omega)]
  rfl
theorem rj(m:Nat)(h:Int):∀K,(lpN m h K).2=bits h/32^K
 |0=>by simp[lpN]
 |K+1=>by
  show(lpN m h K).2/32=_
  rw[rj m h K,Nat.div_div_eq_div_mul,Nat.pow_succ]
theorem yP(h:Int):bits h<2^64:=by unfold SetTable.bits;have:=Int.emod_lt_of_pos h (show(0:Int)<2^64 by decide);have:=Int.emod_nonneg h (show(2^64:Int)≠0 by decide);omega
theorem xZ(m:Nat)(h:Int){K:Nat}(hK:13<=K):(lpN m h K).2=0:=by rw[rj];refine Nat.div_eq_of_lt (Fh (yP h) ?_);exact Gp (show 2^64<=32^13 by decide) (Nat.pow_le_pow_right (by decide) hK)
def lcg(m:Nat):Nat->Nat->Nat
 |0,x=>x
 |k+1,x=>(lcg m k x*5+1)%(m+1)
theorem qm(m:Nat)(h:Int):∀k,(lpN m h (13+k)).1=lcg m k (lpN m h 13).1
 |0=>rfl
 |k+1=>by
  show((lpN m h (13+k)).1*5+1+(lpN m h (13+k)).2/32)%(m+1)=(lcg m k (lpN m h 13).1*5+1)%(m+1)
  rw[qm m h k,xZ m h (by omega)]
theorem uk(m:Nat)(h:Int)(K:Nat):(lpN m h K).1<m+1:=by
 cases K with
 |zero=>exact Nat.mod_lt _ (by omega)
 |succ K=>exact Nat.mod_lt _ (by omega)
def Mk7(m:Nat):Prop:=m=7\/m=31
theorem DB:∀x<8,∀j<8,∃k<8,lcg 7 k x=j:=by decide +kernel
theorem zy:∀x<32,∀j<32,∃k<32,lcg 31 k x=j:=by decide +kernel
theorem An{t:FE}(hm:Mk7 t.mask)(h:Int){j:Nat}(hj:j<=t.mask):∃n,n<10*turns t.mask/\(ad t n (t.probeStart h)).j=j:=by
 have l:=uk t.mask h 13
 obtain⟨k,hk,e⟩:∃k,k<=t.mask/\lcg t.mask k (lpN t.mask h 13).1=j:=by
  rcases hm with q|q
  ·rw[q]at l hj ⊢;obtain⟨k,hk,e⟩:=DB _ l j (by omega);exact⟨k,by omega,e⟩
  ·rw[q]at l hj ⊢;obtain⟨k,hk,e⟩:=zy _ l j (by omega);exact⟨k,by omega,e⟩
 obtain⟨n,hn,en⟩:=qN t h (13+k);refine⟨n,by unfold SetTable.turns;omega,?_⟩;rw[en];show(lpN t.mask h (13+k)).1=j;rw[qm,e]
theorem jU{xs:Array Nat}{j:Nat}(up:xs.toList.Pairwise (· < ·)):∀(f lo hi:Nat),hi<=lo+f->lo<=hi->hi<=xs.size->(∀i x,i<lo->xs[i]?=some x->x<j)->(∀i x,hi<=i->xs[i]?=some x->j<=x)->
 below.go xs j f lo hi<=xs.size/\(∀i x,i<below.go xs j f lo hi->xs[i]?=some x->x<j)/\∀i x,below.go xs j f lo hi<=i->xs[i]?=some x->j<=x
 |0,lo,hi,h1,h2,h3,a,b=>by
  obtain rfl:lo=hi:=by omega
  exact⟨h3,a,b⟩
 |f+1,lo,hi,h1,h2,h3,a,b=>by
  rw[SetTable.below.go]
  by_cases l:lo<hi
  ·rw[if_pos l]
   have hm:(lo+hi)/2<xs.size:=by omega
   have em:xs[(lo+hi)/2]?=some xs[(lo+hi)/2]:=Fd hm
   have ed:xs.getD ((lo+hi)/2) j=xs[(lo+hi)/2]:=by simp[Array.getD,hm]
   have mono:∀i i' x x',i<i'->xs[i]?=some x->xs[i']?=some x'->x<x':=fun i i' x x' l e e'=>by
    rw[<-Fp]at e e'
    obtain⟨l1,e1⟩:=F0.mp e
    obtain⟨l2,e2⟩:=F0.mp e'
    have:=FY.mp up i i' l1 l2 l
    rw[e1,e2]at this;exact this
   dsimp only
   rw[ed]
   by_cases q:xs[(lo+hi)/2]<j
   ·rw[if_pos q]
    refine jU up f _ _ (by omega) (by omega) h3 (fun i x hi' e=>?_) b
    by_cases z:i=(lo+hi)/2
    ·subst z;rw[em]at e;cases e;exact q
    ·exact Nat.lt_trans (mono i _ x _ (by omega) e em) q
   ·rw[if_neg q]
    refine jU up f _ _ (by omega) (by omega) (by omega) a fun i x hi' e=>?_
    by_cases z:i=(lo+hi)/2
    ·subst z;rw[em]at e;cases e;omega
    ·have:=mono _ i _ x (by omega) em e;omega
  ·rw[if_neg l]
   obtain rfl:lo=hi:=by omega
   exact⟨h3,a,b⟩
theorem below_at{xs:Array Nat}{j:Nat}(up:xs.toList.Pairwise (· < ·)):below xs j<=xs.size/\(∀i x,i<below xs j->xs[i]?=some x->x<j)/\∀i x,below xs j<=i->xs[i]?=some x->j<=x:=
 jU up xs.size 0 xs.size (by omega) (FQ _) (E8 _) (fun i x h=>by omega) fun i x h e=>by
  rw[Hz h]at e;cases e
theorem j8{xs:Array Nat}{i j:Nat}(up:xs.toList.Pairwise (· < ·))(e:xs[i]?=some j):below xs j=i:=by
 obtain⟨_,a,b⟩:=below_at (j:=j) up;have h1:¬i<below xs j:=fun l=>by have:=a i j l e;omega
 have li:i<xs.size:=(GB.mp e).1;by_cases l:below xs j<i
 ·have lb:below xs j<xs.size:=by omega
  have:=b _ _ (E8 _) (Fd lb);rw[<-Fp]at e;obtain⟨l2,e2⟩:=F0.mp e;have:=FY.mp up (below xs j) i (by simpa using lb) l2 l;rw[e2]at this;simp at this;omega
 ·omega
theorem ip{t:FE}(up:t.place.toList.Pairwise (· < ·)){i j:Nat}(e:t.place[i]?=some j):t.slot j=.live i:=by unfold SetTable.slot;rw[j8 up e];dsimp only;rw[e,if_pos (by simp)]
theorem jF{t:FE}(up:t.place.toList.Pairwise (· < ·))(hd:t.dummies=#[]){j:Nat}(n:j∉t.place.toList):t.slot j=.empty:=by
 unfold SetTable.slot;dsimp only;rw[if_neg,if_neg]
 ·unfold SetTable.has;rw[hd];simp
 ·intro q;have q:t.place[below t.place j]?=some j:=by simpa using q
  exact n (by rw[<-Fp]at q;exact EZ q)
theorem y9{t:FE}(up:t.place.toList.Pairwise (· < ·))(hd:t.dummies=#[])(j:Nat):(t.slot j=.empty/\j∉t.place.toList)\/∃i,t.slot j=.live i/\t.place[i]?=some j:=by
 by_cases h:j∈t.place.toList
 ·obtain⟨i,hi,e⟩:=Hc h;have e':t.place[i]?=some j:=by rw[<-Fp,E7 hi,e]
  exact .inr ⟨i,ip up e',e'⟩
 ·exact .inl ⟨jF up hd h,h⟩
theorem room{t:FE}(h:t.place.size<=t.mask):∃j,j<=t.mask/\j∉t.place.toList:=Classical.byContradiction fun n=>by have:=sub_len' (l:=Fg (t.mask+1)) (m:=t.place.toList) List.nodup_range fun x hx=>Classical.byContradiction fun q=>n ⟨x,by rw[Gg]at hx;omega,q⟩;rw[List.length_range,Fn]at this;omega
theorem oE{t:FE}{hashAt:Nat->Int}{h:Int}:∀(n f:Nat) (p:Probe),n<f->p.dummy=none->(∀m,m<n->∃i,t.slot (ad t m p).j=.live i/\(hashAt i==h)=false)->t.slot (ad t n p).j=.empty->
 probe.go t hashAt h f p=some (.empty (ad t n p).j none)
 |0,f+1,p,_,hd,_,e=>by
  rw[SetTable.probe.go]
  have e:t.slot p.j=.empty:=e
  rw[e]
  dsimp only
  rw[hd];rfl
 |n+1,f+1,p,hf,hd,hl,e=>by
  rw[SetTable.probe.go]
  obtain⟨i,e0,e1⟩:=hl 0 (by omega)
  have e0:t.slot p.j=.live i:=e0
  rw[e0]
  dsimp only
  rw[e1,if_neg (by decide)]
  exact oE n f (t.advance p) (by omega) (by rw[lE];exact hd) (fun m hm=>hl (m+1) (by omega)) e
theorem qP{t:FE}{hashAt:Nat->Int}{h:Int}:∀(n f:Nat) (p:Probe) (i:Nat),n<f->(∀m,m<n->∃i,t.slot (ad t m p).j=.live i/\(hashAt i==h)=false)->t.slot (ad t n p).j=.live i->(hashAt i==h)=true->
 probe.go t hashAt h f p=some (.candidate (ad t n p).j i (ad t (n+1) p))
 |0,f+1,p,i,_,_,e,q=>by
  rw[SetTable.probe.go]
  have e:t.slot p.j=.live i:=e
  rw[e]
  dsimp only
  rw[q,if_pos rfl];rfl
 |n+1,f+1,p,i,hf,hl,e,q=>by
  rw[SetTable.probe.go]
  obtain⟨i',e0,e1⟩:=hl 0 (by omega)
  have e0:t.slot p.j=.live i':=e0
  rw[e0]
  dsimp only
  rw[e1,if_neg (by decide)]
  exact qP n f (t.advance p) i (by omega) (fun m hm=>hl (m+1) (by omega)) e q
structure TOk(t:FE)(es:Array (Int×E1)):Prop where
 ms:Mk7 t.mask
 dm:t.dummies=#[]
 sz:t.place.size=es.size
 up:t.place.toList.Pairwise (· < ·)
 le:es.size<=t.mask
 way:∀(i:Nat) (e:Int×E1) (j:Nat),es[i]?=some e->t.place[i]?=some j->∃n,n<10*turns t.mask/\(ad t n (t.probeStart e.1)).j=j/\∀m,m<n->(ad t m (t.probeStart e.1)).j∈t.place.toList
theorem TOk.fits{t:FE}{es:Array (Int×E1)}(T:TOk t es):t.fits es.size=true:=by
 have:=T.sz;have:=T.le;have:=T.dm
 simp[SetTable.fits,SetTable.fill,T.sz,T.dm];omega
theorem TOk.Ed{t:FE}{es:Array (Int×E1)}(T:TOk t es):t.gaveWay=false:=by unfold SetTable.gaveWay;rcases T.ms with q|q<;>rw[q]<;>rfl
theorem TOk.first{t:FE}{es:Array (Int×E1)}(T:TOk t es)(h:Int):∃N,N<10*turns t.mask/\(ad t N (t.probeStart h)).j∉t.place.toList/\∀m,m<N->(ad t m (t.probeStart h)).j∈t.place.toList:=by
 obtain⟨j,hj,nj⟩:=room (t:=t) (by rw[T.sz];exact T.le);obtain⟨n,hn,e⟩:=An T.ms h hj;have ex:∃n,(ad t n (t.probeStart h)).j∉t.place.toList:=⟨n,by rw[e];exact nj⟩
 have least:∀n,(ad t n (t.probeStart h)).j∉t.place.toList->∃N,N<=n/\(ad t N (t.probeStart h)).j∉t.place.toList/\∀m,m<N->(ad t m (t.probeStart h)).j∈t.place.toList:=fun n=>by
  induction n using Nat.strongRecOn with
  |ind n ih=>
   intro hq
   by_cases z:∃m,m<n/\(ad t m (t.probeStart h)).j∉t.place.toList
   ·obtain⟨m,hm,q⟩:=z;obtain⟨N,h1,h2,h3⟩:=ih m hm q;exact⟨N,by omega,h2,h3⟩
   ·exact⟨n,E8 _,hq,fun m hm=>Classical.byContradiction fun q=>z ⟨m,hm,q⟩⟩
 obtain⟨N,h1,h2,h3⟩:=least n (by rw[e];exact nj);exact⟨N,by omega,h2,h3⟩
section
variable{P:F8}{w:Fy}
abbrev Pk(P:F8)(w:Fy)(h:Heap)(k:Int×Int)(b:Addr):Prop:=IsTupleKey (intKind P w) h [k.1,k.2] b
def hk(P:F8)(w:Fy)(k:Int×Int):Int:=tupleKeyHash (intKind P w) [k.1,k.2]
abbrev PrE:=(Int×Int)×Addr
def fg(P:F8)(w:Fy)(x:PrE):Int×E1:=(hk P w x.1,.ref x.2)
variable{A:FK}{E:E1->E3->Prop}{s:E3}
theorem zw{x y:Int×Int}{a b:Addr}{Q:Bool->E3->Prop}(hu:A.units<G0)(hx:Pk P w s.heap x a)(hy:Pk P w s.heap y b)(h:Q (decide (x=y)) s):EX (F6 P w) A (eqBool (.ref a) (.ref b)) Q E s:=
 wpAny_eqBool_tuple hu hx hy (by
  have e:decide ([x.1,x.2]=[y.1,y.2])=decide (x=y):=by
   rw[decide_eq_decide]
   exact⟨fun z=>by simp at z;exact Prod.ext z.1 z.2,fun z=>by rw[z]⟩
  rw[e];exact h)
theorem jj{k:Int×Int}{b:Addr}{Q:Bool->E3->Prop}(hb:Pk P w s.heap k b)(h:Q false s):EX (F6 P w) A (ofAClassStatement 8 (.ref b)) Q E s:=by
 have hT:=hb.typeIs;obtain⟨o,items,n,ho,hc,hd,hi⟩:=hb
 obtain⟨v1,v2,e,h1,h2⟩:∃v1 v2,items.toList=[v1,v2]/\(intKind P w).is k.1 v1=true/\(intKind P w).is k.2 v2=true:=by
  generalize items.toList=l at hi;cases hi with
  |cons a r=>cases r with
   |cons b r=>cases r;exact⟨_,_,rfl,a,b⟩
 obtain⟨t1,rfl⟩:=cE h1;obtain⟨t2,rfl⟩:=cE h2;unfold ofAClassStatement;refine cc (wpAny_typeOf hT ?_);dsimp only;rw[if_pos (by rfl)];simp only[GG,Gx,F5,if_false];refine cc (GA ho hd ?_);dsimp only;rw[<-Array.forIn_toList,e];have n1:ofAClassStatement 7 (.int k.1 t1)=pure false:=rfl;have n2:ofAClassStatement 7 (.int k.2 t2)=pure false:=rfl;simp only[HZ,Ip,n1,n2,GG,bind_assoc,F5,if_false];exact E4 h
theorem vE{k:Int×Int}{b:Addr}{Q:Bool->E3->Prop}(hb:Pk P w s.heap k b)(h:Q true s):EX (F6 P w) A (hashByValue 8 (.ref b)) Q E s:=by
 have hT:=hb.typeIs;obtain⟨o,items,n,ho,hc,hd,hi⟩:=hb
 obtain⟨v1,v2,e,h1,h2⟩:∃v1 v2,items.toList=[v1,v2]/\(intKind P w).is k.1 v1=true/\(intKind P w).is k.2 v2=true:=by
  generalize items.toList=l at hi;cases hi with
  |cons a r=>cases r with
   |cons b r=>cases r;exact⟨_,_,rfl,a,b⟩
 obtain⟨t1,rfl⟩:=cE h1;obtain⟨t2,rfl⟩:=cE h2;unfold hashByValue;refine cc (wpAny_specialOf hT F.slot_tuple_hash.lookup ?_);dsimp only;refine cc (GA ho hd ?_);simp only[Hk];rw[<-Array.forIn_toList,e];have n1:hashByValue 7 (.int k.1 t1)=pure true:=rfl;have n2:hashByValue 7 (.int k.2 t2)=pure true:=rfl;simp only[HZ,Ip,n1,n2,GG,bind_assoc,Gx,F5,if_false];exact E4 h
theorem rW{k:Int×Int}{b:Addr}(hb:Pk P w s.heap k b){Q:Bool->E3->Prop}(h:Q false s):∀(ys:List E1),(∀y∈ys,∃k' b',y=.ref b'/\Pk P w s.heap k' b')->EX (F6 P w) A (searchCouldBeSeen (.ref b) ys) Q E s:=fun ys hy=>by
 unfold searchCouldBeSeen;refine cc ?_
 induction ys with
 |nil=>
  rw[Ip]
  exact E4 (E4 h)
 |cons y ys ih=>
  have ih:=ih fun z hz=>hy z (FH _ hz)
  obtain⟨k',b',rfl,hb'⟩:=hy y G9
  rw[HZ]
  refine cc ?_
  dsimp only
  split
  ·exact E4 ih
  ·refine cc (wpAny_eqIsQuiet_tuple hb ?_);simp only[Gx,F5,if_false];refine cc (wpAny_eqIsQuiet_tuple hb' ?_);simp only[Gx,F5,if_false];refine cc (jj hb ?_);simp only[F5,if_false];refine cc (jj hb' ?_);simp only[F5,if_false];exact E4 ih
structure StE(P:F8)(w:Fy)(h:Heap)(a:Addr)(o:Obj)(es:Array (Int×E1))(ep:Nat)(t:FE)(xs:List PrE):Prop where
 get:h.get? a=some o
 ex:o.ExactSet
 data:o.data=.set es ep t
 ents:es.toList=xs.map (fg P w)
 ok:TOk t es
 pl:t.plain=true
 pk:∀x∈xs,Pk P w h x.1 x.2
 nd:(xs.map (·.1)).Nodup
theorem StE.at{a:Addr}{o:Obj}{es:Array (Int×E1)}{ep:Nat}{t:FE}{xs:List PrE}(S:StE P w s.heap a o es ep t xs){i:Nat}{e:Int×E1}(h:es[i]?=some e):∃x,xs[i]?=some x/\e=fg P w x:=by
 rw[<-Fp,S.ents,E9]at h;cases ex:xs[i]? with
 |none=>rw[ex]at h;cases h
 |some x=>rw[ex]at h;cases h;exact⟨x,rfl,rfl⟩
theorem TOk.next{t:FE}{es:Array (Int×E1)}(T:TOk t es){h:Int}{N:Nat}(hN:N<10*turns t.mask)(hN0:(ad t N (t.probeStart h)).j∉t.place.toList)(hN1:∀m,m<N->(ad t m (t.probeStart h)).j∈t.place.toList){n:Nat}(hn:n<=N){g:Nat->Int}(hg:∀(i:Nat) (e:Int×E1),es[i]?=some e->g i=e.1) :
 ((∀(m i:Nat) (e:Int×E1),n<=m->m<N->t.place[i]?=some (ad t m (t.probeStart h)).j->es[i]?=some e->e.1≠h)/\t.probe g h (ad t n (t.probeStart h))=some (.empty (ad t N (t.probeStart h)).j none))\/
 ∃(n' i:Nat) (e:Int×E1),n<=n'/\n'<N/\(∀(m i:Nat) (e:Int×E1),n<=m->m<n'->t.place[i]?=some (ad t m (t.probeStart h)).j->es[i]?=some e->e.1≠h)/\t.place[i]?=some (ad t n' (t.probeStart h)).j/\es[i]?=some e/\e.1=h/\t.probe g h (ad t n (t.probeStart h))=some (.candidate (ad t n' (t.probeStart h)).j i (ad t (n'+1) (t.probeStart h))):=by
 obtain⟨n',l1,l2,hb1,hlast⟩:∃n',n<=n'/\n'<=N/\(∀(m i:Nat) (e:Int×E1),n<=m->m<n'->t.place[i]?=some (ad t m (t.probeStart h)).j->es[i]?=some e->e.1≠h)/\(n'=N\/(n'<N/\∃(i:Nat) (e:Int×E1),t.place[i]?=some (ad t n' (t.probeStart h)).j/\es[i]?=some e/\e.1=h)):=by
  have go:∀d n,n+d=N->∃n',n<=n'/\n'<=N/\(∀(m i:Nat) (e:Int×E1),n<=m->m<n'->t.place[i]?=some (ad t m (t.probeStart h)).j->es[i]?=some e->e.1≠h)/\(n'=N\/(n'<N/\∃(i:Nat) (e:Int×E1),t.place[i]?=some (ad t n' (t.probeStart h)).j/\es[i]?=some e/\e.1=h)):=fun d=>by
   induction d with
   |zero=>intro n e;exact⟨n,E8 _,by omega,fun m i e h1 h2=>by omega,.inl (by omega)⟩
   |succ d ihd=>
    intro n en
    by_cases q:∃(i:Nat) (e:Int×E1),t.place[i]?=some (ad t n (t.probeStart h)).j/\es[i]?=some e/\e.1=h
    ·exact⟨n,E8 _,by omega,fun m i e h1 h2=>by omega,.inr ⟨by omega,q⟩⟩
    ·obtain⟨n',a1,a2,a3,a4⟩:=ihd (n+1) (by omega)
     refine⟨n',by omega,a2,fun m i e h1 h2 h3 h4 h5=>?_,a4⟩
     by_cases z:m=n
     ·subst z;exact q ⟨i,e,h3,h4,h5⟩
     ·exact a3 m i e (by omega) h2 h3 h4 h5
  exact go (N-n) n (by omega)
 have at':∀m,ad t (n+m) (t.probeStart h)=ad t m (ad t n (t.probeStart h)):=fun m=>ie t n m _
 have live:∀m,n<=m->m<n'->∃i,t.slot (ad t m (t.probeStart h)).j=.live i/\(g i==h)=false:=fun m g1 g2=>by
  have mem:=hN1 m (by omega)
  rcases y9 T.up T.dm (ad t m (t.probeStart h)).j with⟨_,q⟩|⟨i,q1,q2⟩
  ·exact absurd mem q
  ·refine⟨i,q1,?_⟩
   have li:i<es.size:=by rw[<-T.sz];exact(GB.mp q2).1
   have ee:es[i]?=some es[i]:=Fd li
   rw[hg i _ ee]
   exact beq_eq_false_iff_ne.mpr (hb1 m i _ g1 g2 q2 ee)
 have fu:n'-n<10*turns t.mask:=by omega
 have en:ad t (n'-n) (ad t n (t.probeStart h))=ad t n' (t.probeStart h):=by rw[<-at',show n+(n'-n)=n' by omega]
 have lv:∀m,m<n'-n->∃i,t.slot (ad t m (ad t n (t.probeStart h))).j=.live i/\(g i==h)=false:=fun m hm=>by
  rw[<-at'];exact live (n+m) (by omega) (by omega)
 have dn:(ad t n (t.probeStart h)).dummy=none:=by rw[nZ];rfl
 rcases hlast with e|⟨lN,i,e,pi,ei,eh⟩
 ·subst e
  refine .inl ⟨hb1,?_⟩
  have:=oE (hashAt:=g) (h:=h) (n'-n) (10*turns t.mask) (ad t n (t.probeStart h)) fu dn lv (by rw[en];exact jF T.up T.dm hN0)
  rw[en]at this
  exact this
 ·refine .inr ⟨n',i,e,l1,lN,hb1,pi,ei,eh,?_⟩
  have:=qP (hashAt:=g) (h:=h) (n'-n) (10*turns t.mask) (ad t n (t.probeStart h)) i fu lv (by rw[en];exact ip T.up pi) (by rw[hg i e ei];exact beq_iff_eq.mpr eh)
  rw[en,<-at',show n+(n'-n+1)=n'+1 by omega]at this
  exact this
end
section
variable{P:F8}{w:Fy}{A:FK}{E:E1->E3->Prop}{s:E3}
theorem StE.met{a:Addr}{o:Obj}{es:Array (Int×E1)}{ep:Nat}{t:FE}{xs:List PrE}(S:StE P w s.heap a o es ep t xs){k:Int×Int}{h:Int}(eh:hk P w k=h){N:Nat}(hN0:(ad t N (t.probeStart h)).j∉t.place.toList)(mem:k∈xs.map (·.1)):∃(nx ix:Nat) (x:PrE),nx<N/\xs[ix]?=some x/\x.1=k/\es[ix]?=some (fg P w x)/\(fg P w x).1=h/\t.place[ix]?=some (ad t nx (t.probeStart h)).j:=by
 obtain⟨x,hx,ek⟩:=Fm.mp mem;obtain⟨ix,lx,ex⟩:=Hc hx;have ex':xs[ix]?=some x:=by rw[E7 lx,ex]
 have eex:es[ix]?=some (fg P w x):=by rw[<-Fp,S.ents,E9,ex'];rfl
 have lpN':ix<t.place.size:=by rw[S.ok.sz];exact(GB.mp eex).1
 obtain⟨nx,hnx,ej,occ⟩:=S.ok.way ix _ _ eex (Fd lpN');have hkx:(fg P w x).1=h:=by show hk P w x.1=_;rw[ek];exact eh
 rw[hkx]at ej occ;refine⟨nx,ix,x,?_,ex',ek,eex,hkx,by rw[ej];exact Fd lpN'⟩;rcases Hr nx N with z|z|z
 ·exact z
 ·subst z;exact absurd (by rw[ej];exact G6 (l:=t.place.toList) (by simpa using lpN')) hN0
 ·exact absurd (occ N z) hN0
theorem TOk.Cp{t:FE}{es:Array (Int×E1)}(T:TOk t es){h:Int}{N:Nat}(hN:N<10*turns t.mask)(hN0:(ad t N (t.probeStart h)).j∉t.place.toList)(hN1:∀m,m<N->(ad t m (t.probeStart h)).j∈t.place.toList){n:Nat}(hn:n<=N){g:Nat->Int}{r:Option Met}(hr:t.probe g h (ad t n (t.probeStart h))=r)(hg:∀(i:Nat) (e:Int×E1),es[i]?=some e->g i=e.1) : ((∀(m i:Nat) (e:Int×E1),n<=m->m<N->t.place[i]?=some (ad t m (t.probeStart h)).j->es[i]?=some e->e.1≠h)/\r=some (.empty (ad t N (t.probeStart h)).j none))\/ ∃(n' i:Nat) (e:Int×E1),n<=n'/\n'<N/\(∀(m i:Nat) (e:Int×E1),n<=m->m<n'->t.place[i]?=some (ad t m (t.probeStart h)).j->es[i]?=some e->e.1≠h)/\t.place[i]?=some (ad t n' (t.probeStart h)).j/\es[i]?=some e/\e.1=h/\r=some (.candidate (ad t n' (t.probeStart h)).j i (ad t (n'+1) (t.probeStart h))):=by subst hr;exact T.next hN hN0 hN1 hn hg
theorem jg{b:Addr}{Q:Bool->E3->Prop}(h:Q true s):EX (F6 P w) A (isSame (.ref b) (.ref b)) Q E s:=by unfold isSame;dsimp only;rw[if_pos (by simp)];exact E4 h
theorem search{a:Addr}{o:Obj}{es:Array (Int×E1)}{ep:Nat}{t:FE}{xs:List PrE}(S:StE P w s.heap a o es ep t xs)(hu:A.units<G0){k:Int×Int}{b:Addr}(hb:Pk P w s.heap k b){h:Int}(eh:hk P w k=h){N:Nat}(hN:N<10*turns t.mask)(hN0:(ad t N (t.probeStart h)).j∉t.place.toList)(hN1:∀m,m<N->(ad t m (t.probeStart h)).j∈t.place.toList){Q:SetFound->E3->Prop}
 (q1:k∈xs.map (·.1)->Q (.there none) s) (q2:k∉xs.map (·.1)->Q (.free (ad t N (t.probeStart h)).j false) s) :
 ∀(f n:Nat) (stand:Option Probe),n<=N->N-n<f->stand.getD (t.probeStart h)=ad t n (t.probeStart h)->
  (∀(m i:Nat),m<n->t.place[i]?=some (ad t m (t.probeStart h)).j->∀x:PrE,xs[i]?=some x->x.1≠k)->
  EX (F6 P w) A (setSearchFrom a (.ref b) h true f stand) Q E s:=by
 intro f
 induction f with
 |zero=>intro n stand h1 h2;omega
 |succ f ih=>
  intro n stand h1 h2 hs hno
  unfold setSearchFrom
  refine cc (GJ S.get S.data S.ok.fits ?_)
  dsimp only
  rw[S.ok.Ed]
  simp only[F5,if_false]
  rw[hs]
  generalize hg:t.probe _ _ _=r
  have nn:=S.ok.Cp hN hN0 hN1 h1 hg (fun i e he=>(show(es[i]?.map (·.1)).getD 0=e.1 by rw[he];rfl))
  clear hg
  rcases nn with⟨hb1,rfl⟩|⟨n',i,e,l1,lN,hb1,pi,ei,ehash,rfl⟩
  ·dsimp only
   refine E4 (q2 fun mem=>?_)
   obtain⟨nx,ix,x,nlt,ex',ek,eex,hkx,px⟩:=S.met eh hN0 mem
   by_cases z:nx<n
   ·exact hno nx ix z px x ex' ek
   ·exact hb1 nx ix _ (by omega) nlt px eex hkx
  ·obtain⟨x,ex,rfl⟩:=S.at ei
   have sl:=ip S.ok.up pi
   have hx:=EZ ex
   have px:=S.pk x hx
   have seen:∀y∈(es.filter fun e=>e.1==h).toList.map (·.2),∃k' b',y=.ref b'/\Pk P w s.heap k' b':=fun y hy=>by
    obtain⟨e,he,rfl⟩:=Fm.mp hy
    have he:e∈es.toList:=by
     have:=Array.mem_toList_iff.mp he
     exact Array.mem_toList_iff.mpr (Array.mem_of_mem_filter this)
    rw[S.ents]at he
    obtain⟨x',hx',rfl⟩:=Fm.mp he
    exact⟨x'.1,x'.2,rfl,S.pk x' hx'⟩
   have sm:t.sameMemory t.moves t.mask=some true:=by unfold SetTable.sameMemory;rw[if_pos (by simp)]
   have again:∀(m i':Nat),m<n'+1->t.place[i']?=some (ad t m (t.probeStart h)).j->∀x':PrE,xs[i']?=some x'->x.1≠k->x'.1≠k:=fun m i' hm e' x' ex' nk=>by
    by_cases z1:m<n
    ·exact hno m i' z1 e' x' ex'
    ·by_cases z2:m<n'
     ·intro ek
      have ee:es[i']?=some (fg P w x'):=by rw[<-Fp,S.ents,E9,ex'];rfl
      exact hb1 m i' _ (by omega) z2 e' ee (by show hk P w x'.1=h;rw[ek];exact eh)
     ·obtain rfl:m=n':=by omega
      have:i'=i:=by
       have a1:=j8 S.ok.up e'
       have a2:=j8 S.ok.up pi
       omega
      subst this
      rw[ex]at ex';cases ex';exact nk
   dsimp only
   split
   ·refine cc (rW hb ?_ _ seen)
    simp only[F5,if_false]
    rw[ei]
    dsimp only[fg]
    refine cc (FX (zw hu px hb ?_))
    refine cc (GJ S.get S.data S.ok.fits ?_)
    dsimp only
    rw[Bool.true_and]
    by_cases ek:x.1=k
    ·rw[decide_eq_true ek,if_pos rfl]
     exact E4 (q1 (Fm.mpr ⟨x,hx,ek⟩))
    ·rw[decide_eq_false ek,if_neg (by decide),sm]
     dsimp only
     rw[if_pos rfl,sl]
     dsimp only
     rw[ei]
     dsimp only[fg]
     refine cc (jg ?_)
     rw[if_pos rfl]
     simp only[GG,F5,if_false]
     exact ih (n'+1) _ (by omega) (by omega) rfl fun m i' hm e' x' ex'=>again m i' hm e' x' ex' ek
   ·skip
    rw[ei]
    dsimp only[fg]
    refine cc (FX (zw hu px hb ?_))
    refine cc (GJ S.get S.data S.ok.fits ?_)
    dsimp only
    rw[Bool.true_and]
    by_cases ek:x.1=k
    ·rw[decide_eq_true ek,if_pos rfl]
     exact E4 (q1 (Fm.mpr ⟨x,hx,ek⟩))
    ·rw[decide_eq_false ek,if_neg (by decide),sm]
     dsimp only
     rw[if_pos rfl,sl]
     dsimp only
     rw[ei]
     dsimp only[fg]
     refine cc (jg ?_)
     rw[if_pos rfl]
     simp only[GG,F5,if_false]
     exact ih (n'+1) _ (by omega) (by omega) rfl fun m i' hm e' x' ex'=>again m i' hm e' x' ex' ek
end
theorem Aq{α:Type}(xs:Array α)(p:Nat)(x:α):(Hs xs p x).toList=cB xs.toList p x:=SetTable.toList_insertAt xs p x
theorem ra{α:Type}(l:List α)(p:Nat)(x:α)(hp:p<=l.length)(i:Nat):(cB l p x)[i]?=if i<p then l[i]? else if i=p then some x else l[i-1]?:=by
 unfold cB;have lt:(l.take p).length=p:=by rw[HJ];omega
 by_cases h1:i<p
 ·rw[if_pos h1,FO (by omega),List.getElem?_take_of_lt h1]
 ·rw[if_neg h1,FL (by omega),lt];by_cases h2:i=p
  ·subst h2;rw[if_pos rfl,Nat.sub_self];rfl
  ·rw[if_neg h2];obtain⟨d,rfl⟩:∃d,i=p+d+1:=⟨i-p-1,by omega⟩;rw[show p+d+1-p=d+1 by omega,List.getElem?_cons_succ,List.getElem?_drop]
   congr 1
theorem TOk.put{t:FE}{es:Array (Int×E1)}(T:TOk t es){h:Int}(x:E1){N:Nat}(hN:N<10*turns t.mask)(hN0:(ad t N (t.probeStart h)).j∉t.place.toList)(hN1:∀m,m<N->(ad t m (t.probeStart h)).j∈t.place.toList)(hr:es.size+1<=t.mask) :
 TOk (t.put (ad t N (t.probeStart h)).j).1 (Hs es (t.put (ad t N (t.probeStart h)).j).2 (h,x)):=by
 generalize ej:(ad t N (t.probeStart h)).j=j at hN0
 obtain⟨bl,b1,b2⟩:=below_at (j:=j) T.up
 have hp:(t.put j).2=below t.place j:=rfl
 have hpl:(t.put j).1.place=Hs t.place (below t.place j) j:=rfl
 have hm:(t.put j).1.mask=t.mask:=rfl
 have hd:(t.put j).1.dummies=#[]:=by
  show(if has t.dummies j=true then _ else t.dummies)=#[]
  rw[T.dm]
  have:has (#[]:Array Nat) j=false:=by unfold SetTable.has;simp
  rw[this];rfl
 generalize (t.put j).1=u at hpl hm hd ⊢
 rw[hp]
 generalize below t.place j=p at bl b1 b2 hpl ⊢
 have ul:u.place.toList=cB t.place.toList p j:=by rw[hpl];exact Aq _ _ _
 have el:(Hs es p (h,x)).toList=cB es.toList p (h,x):=Aq _ _ _
 have pt:p<=t.place.toList.length:=by rw[Fn];exact bl
 have pe:p<=es.toList.length:=by rw[Fn,<-T.sz];exact bl
 have ae:∀n q,ad u n q=ad t n q:=fun n q=>mN hm n q
 have se:∀q,u.probeStart q=t.probeStart q:=fun q=>jC hm q
 have sub:∀z,z∈t.place.toList->z∈u.place.toList:=fun z hz=>by
  rw[ul];unfold cB
  rw[<-List.take_append_drop p t.place.toList]at hz
  rcases Fl.mp hz with q|q
  ·exact Fl.mpr (.inl q)
  ·exact Fl.mpr (.inr (FH _ q))
 have li:∀{α:Type} (l:List α) (y:α),(cB l p y).length=l.length+1:=fun l y=>by unfold cB;simp;omega
 refine⟨by rw[hm];exact T.ms,hd,?_,?_,?_,fun i e j' he hj'=>?_⟩
 ·rw[<-Fn,<-Fn,ul,el,li,li,Fn,Fn,T.sz]
 ·rw[ul]
  have hs:(t.place.toList.take p++t.place.toList.drop p).Pairwise (· < ·):=by rw[List.take_append_drop];exact T.up
  rw[List.pairwise_append]at hs
  have a1:∀z∈t.place.toList.take p,z<j:=fun z hz=>by
   obtain⟨i,hi,e⟩:=Hc hz
   rw[HJ]at hi
   rw[List.getElem_take]at e
   exact b1 i z (by omega) (by rw[<-Fp,E7 (by omega),e])
  have a2:∀z∈t.place.toList.drop p,j<z:=fun z hz=>by
   obtain⟨i,hi,e⟩:=Hc hz
   rw[List.length_drop]at hi
   rw[List.getElem_drop]at e
   have e':t.place[p+i]?=some z:=by rw[<-Fp,E7 (by omega),e]
   have:=b2 (p+i) z (by omega) e'
   have:j≠z:=fun q=>hN0 (by rw[q,<-e];exact G6 _)
   omega
  unfold cB
  rw[List.pairwise_append,List.pairwise_cons]
  refine⟨hs.1,⟨a2,hs.2.1⟩,fun y hy z hz=>?_⟩
  rcases FN.mp hz with q|q
  ·rw[q];exact a1 y hy
  ·exact hs.2.2 y hy z q
 ·rw[<-Fn,el,li,Fn,hm];exact hr
 ·rw[<-Fp,el,ra _ _ _ pe]at he
  rw[<-Fp,ul,ra _ _ _ pt]at hj'
  rw[hm]
  simp only[ae,se]
  by_cases z1:i<p
  ·rw[if_pos z1,Fp]at he hj'
   obtain⟨n,h1,h2,h3⟩:=T.way i e j' he hj'
   exact⟨n,h1,h2,fun m hm'=>sub _ (h3 m hm')⟩
  ·rw[if_neg z1]at he hj'
   by_cases z2:i=p
   ·rw[if_pos z2]at he hj'
    cases he;cases hj'
    exact⟨N,hN,ej,fun m hm'=>sub _ (hN1 m hm')⟩
   ·rw[if_neg z2,Fp]at he hj'
    obtain⟨n,h1,h2,h3⟩:=T.way (i-1) e j' he hj'
    exact⟨n,h1,h2,fun m hm'=>sub _ (h3 m hm')⟩
def nK(m:Nat)(h:Int):Nat->Nat
 |0=>0
 |K+1=>nK m h K+(runEnd m (lpN m h K).1-(lpN m h K).1)+1
theorem ub(t:FE)(h:Int):∀K,ad t (nK t.mask h K) (t.probeStart h)=lpP t.mask h K
 |0=>rfl
 |K+1=>by
  have e:=ub t h K
  show ad t (nK t.mask h K+((lpP t.mask h K).more+1)) (t.probeStart h)=_
  rw[ie,e,l3,e9 t _ _ (E8 _)]
  unfold SetTable.advance
  rw[if_neg (by show ¬(lpP t.mask h K).more-(lpP t.mask h K).more>0;omega)]
  rfl
theorem zA(m:Nat)(h:Int):∀K,nK m h K<=10*K
 |0=>E8 _
 |K+1=>by
  have:=zA m h K
  have:=pP m (lpN m h K).1
  show nK m h K+(runEnd m (lpN m h K).1-(lpN m h K).1)+1<=_
  omega
theorem zo(m:Nat)(h:Int){K:Nat}:∀d,nK m h K<nK m h (K+d+1)
 |0=>by show _<nK m h K+_+1;omega
 |d+1=>by
  have:=zo m h (K:=K) d
  show _<nK m h (K+d+1)+_+1
  omega
theorem xn{m:Nat}(hm:Mk7 m)(h:Int){j:Nat}(hj:j<=m):∃K,K<=13+m/\(lpN m h K).1=j:=by
 have l:=uk m h 13
 obtain⟨k,hk,e⟩:∃k,k<=m/\lcg m k (lpN m h 13).1=j:=by
  rcases hm with q|q
  ·rw[q]at l hj ⊢;obtain⟨k,hk,e⟩:=DB _ l j (by omega);exact⟨k,by omega,e⟩
  ·rw[q]at l hj ⊢;obtain⟨k,hk,e⟩:=zy _ l j (by omega);exact⟨k,by omega,e⟩
 exact⟨13+k,by omega,by rw[qm,e]⟩
theorem Dv{m i:Nat}(h:i<=m):runEnd m i<=m/\i<=runEnd m i:=by unfold SetTable.runEnd;split<;>omega
theorem qR{u:FE}(hm:Mk7 u.mask){owner:Array (Option Nat)}(so:owner.size=u.mask+1)(h:Int){js:Nat}(hj:js<=u.mask)(hn:owner[js]?=some none) :
 ∀f K,K+f=turns u.mask->(∀m,m<nK u.mask h K->∃k,owner[(ad u m (u.probeStart h)).j]?=some (some k))->
  ∃n,n<10*turns u.mask/\layClean.free u.mask owner f (lpN u.mask h K).1 (lpN u.mask h K).2=some (ad u n (u.probeStart h)).j/\owner[(ad u n (u.probeStart h)).j]?=some none/\∀m,m<n->∃k,owner[(ad u m (u.probeStart h)).j]?=some (some k)
 |0,K,e,occ=>by
  exfalso
  obtain⟨K',hK,ej⟩:=xn hm h hj
  have lt:nK u.mask h K'<nK u.mask h K:=by
   have:=zo u.mask h (K:=K') (K-K'-1)
   rw[show K'+(K-K'-1)+1=K by unfold SetTable.turns at e;omega]at this
   exact this
  obtain⟨k,q⟩:=occ _ lt
  rw[ub u h K']at q
  have q:owner[(lpN u.mask h K').1]?=some (some k):=q
  rw[ej,hn]at q;cases q
 |f+1,K,e,occ=>by
  rw[layClean.free]
  have il:=uk u.mask h K
  obtain⟨r1,r2⟩:=Dv (show(lpN u.mask h K).1<=u.mask by omega)
  have at':∀r,r<=runEnd u.mask (lpN u.mask h K).1-(lpN u.mask h K).1->(ad u (nK u.mask h K+r) (u.probeStart h)).j=(lpN u.mask h K).1+r:=fun r hr=>by
   rw[ie,ub u h K,e9 u r _ hr];rfl
  have gd:∀r,r<=runEnd u.mask (lpN u.mask h K).1-(lpN u.mask h K).1->∃v,owner[(lpN u.mask h K).1+r]?=some v/\owner.getD ((lpN u.mask h K).1+r) (some 0)=v:=fun r hr=>by
   have l:(lpN u.mask h K).1+r<owner.size:=by omega
   exact⟨_,Fd l,by simp[Array.getD,l]⟩
  cases hf:(Fg (runEnd u.mask (lpN u.mask h K).1+1-(lpN u.mask h K).1)).find? fun k=>(owner.getD ((lpN u.mask h K).1+k) (some 0)).isNone with
  |some k=>
   obtain⟨p1,p2,p3⟩:=List.find?_range_eq_some.mp hf
   rw[Gg]at p2
   have kr:k<=runEnd u.mask (lpN u.mask h K).1-(lpN u.mask h K).1:=by omega
   refine⟨nK u.mask h K+k,?_,by dsimp only;rw[at' k kr],?_,fun m hm'=>?_⟩
   ·have:=zA u.mask h K
    have:=pP u.mask (lpN u.mask h K).1
    unfold SetTable.turns at e ⊢
    omega
   ·rw[at' k kr]
    obtain⟨v,e1,e2⟩:=gd k kr
    rw[e2]at p1
    rw[e1]
    cases v with
    |none=>rfl
    |some _=>cases p1
   ·by_cases z:m<nK u.mask h K
    ·exact occ m z
    ·obtain⟨r,rfl⟩:∃r,m=nK u.mask h K+r:=⟨m-nK u.mask h K,by omega⟩
     rw[at' r (by omega)]
     obtain⟨v,e1,e2⟩:=gd r (by omega)
     have:=p3 r (by omega)
     rw[e2]at this
     rw[e1]
     cases v with
     |none=>cases this
     |some k'=>exact⟨k',rfl⟩
  |none=>
   have no:=List.find?_eq_none.mp hf
   dsimp only
   refine qR hm so h hj hn f (K+1) (by omega) fun m hm'=>?_
   have hm':m<nK u.mask h K+(runEnd u.mask (lpN u.mask h K).1-(lpN u.mask h K).1)+1:=hm'
   by_cases z:m<nK u.mask h K
   ·exact occ m z
   ·obtain⟨r,rfl⟩:∃r,m=nK u.mask h K+r:=⟨m-nK u.mask h K,by omega⟩
    rw[at' r (by omega)]
    obtain⟨v,e1,e2⟩:=gd r (by omega)
    have:=no r (Gg.mpr (by omega))
    rw[e2]at this
    rw[e1]
    cases v with
    |none=>exact absurd rfl this
    |some k'=>exact⟨k',rfl⟩
structure OwnT(u:FE)(owner:Array (Option Nat))(hs:List Int):Prop where
 so:owner.size=u.mask+1
 all:∀k,k<hs.length->∃j:Nat,owner[j]?=some (some k)
 lt:∀(j k:Nat),owner[j]?=some (some k)->k<hs.length
 inj:∀(j j' k:Nat),owner[j]?=some (some k)->owner[j']?=some (some k)->j=j'
 way:∀(j k:Nat) (h:Int),owner[j]?=some (some k)->hs[k]?=some h->∃n,n<10*turns u.mask/\(ad u n (u.probeStart h)).j=j/\∀m,m<n->∃k',owner[(ad u m (u.probeStart h)).j]?=some (some k')
theorem OwnT.step{u:FE}(hm:Mk7 u.mask){owner:Array (Option Nat)}{hs:List Int}(O:OwnT u owner hs)(h:Int)(hl:hs.length<=u.mask):∃j,layClean.free u.mask owner (turns u.mask) (bits h%(u.mask+1)) (bits h)=some j/\OwnT u (owner.setIfInBounds j (some hs.length)) (hs++[h]):=by
 obtain⟨js,hj,hn⟩:∃js,js<=u.mask/\owner[js]?=some none:=Classical.byContradiction fun no=>by
  have tot:∀j,j<=u.mask->∃k,owner[j]?=some (some k):=fun j hj=>by
   have l:j<owner.size:=by rw[O.so];omega
   cases e:owner[j]with
   |none=>exact absurd ⟨j,hj,by rw[Fd l,e]⟩ no
   |some k=>exact⟨k,by rw[Fd l,e]⟩
  have nd:((Fg (u.mask+1)).map fun j=>((owner[j]?).getD none).getD 0).Nodup:=by
   refine Ih.mpr (List.Pairwise.imp_of_mem (fun{a b} ha hb hne q=>?_) List.nodup_range)
   rw[Gg]at ha hb
   obtain⟨k,e1⟩:=tot a (by omega)
   obtain⟨k',e2⟩:=tot b (by omega)
   rw[e1,e2]at q
   have q:k=k':=q
   subst q
   exact hne (O.inj a b k e1 e2)
  have:=sub_len' (m:=Fg hs.length) nd fun x hx=>by obtain⟨j,hj,rfl⟩:=Fm.mp hx;rw[Gg]at hj;obtain⟨k,e⟩:=tot j (by omega);rw[e];exact Gg.mpr (O.lt j k e)
  rw[E6,List.length_range,List.length_range]at this;omega
 obtain⟨n,n1,n2,n3,n4⟩:=qR hm O.so h hj hn (turns u.mask) 0 (by omega) (fun m hm'=>absurd hm' (Nat.not_lt_zero _));refine⟨_,n2,?_⟩;generalize ej:(ad u n (u.probeStart h)).j=j at n3;have lj:j<owner.size:=(GB.mp n3).1
 have get:∀i,(owner.setIfInBounds j (some hs.length))[i]?=if i=j then some (some hs.length)else owner[i]?:=fun i=>by
  rw[Array.getElem?_setIfInBounds];by_cases z:j=i
  ·subst z;rw[if_pos rfl,if_pos lj,if_pos rfl]
  ·rw[if_neg z,if_neg (fun q=>z q.symm)]
 have occ:∀(i k:Nat),owner[i]?=some (some k)->∃k',(owner.setIfInBounds j (some hs.length))[i]?=some (some k'):=fun i k e=>by
  rw[get];split
  ·exact⟨_,rfl⟩
  ·exact⟨k,e⟩
 refine⟨by rw[Array.size_setIfInBounds];exact O.so,fun k hk=>?_,fun i k e=>?_,fun i i' k e e'=>?_,fun i k h' e eh=>?_⟩
 ·rw[Ga]at hk;have hk:k<hs.length+1:=hk;by_cases z:k=hs.length
  ·subst z;exact⟨j,by rw[get,if_pos rfl]⟩
  ·obtain⟨i,e⟩:=O.all k (by omega);refine⟨i,?_⟩;rw[get,if_neg (fun q=>by subst q;rw[n3]at e;cases e)];exact e
 ·rw[Ga];show k<hs.length+1;rw[get]at e;split at e
  ·cases e;omega
  ·have:=O.lt i k e;omega
 ·rw[get]at e e';split at e
  ·cases e;split at e'
   ·rename_i a b;rw[a,b]
   ·exact absurd (O.lt _ _ e') (HD _)
  ·split at e'
   ·cases e';exact absurd (O.lt _ _ e) (HD _)
   ·exact O.inj i i' k e e'
 ·rw[get]at e;split at e
  ·rename_i q;cases e;rw[FL (E8 _),Nat.sub_self]at eh;cases eh;exact⟨n,n1,by rw[ej,q],fun m hm'=>let⟨k,ek⟩:=n4 m hm';occ _ k ek⟩
  ·rw[FO (O.lt i k e)]at eh;obtain⟨n',m1,m2,m3⟩:=O.way i k h' e eh;exact⟨n',m1,m2,fun m hm'=>let⟨k,ek⟩:=m3 m hm';occ _ k ek⟩
theorem BH{u:FE}(hm:Mk7 u.mask){hashes:Array Int}(hl:hashes.size<=u.mask):∃owner,layClean u.mask hashes=some owner/\OwnT u owner hashes.toList:=by
 have O0:OwnT u (Array.replicate (u.mask+1) none) []:=by
  have none':∀(j k:Nat),(Array.replicate (u.mask+1) (none:Option Nat))[j]?≠some (some k):=fun j k e=>by rw[Array.getElem?_replicate]at e;split at e<;>cases e
  exact⟨by simp,fun k hk=>absurd hk (Nat.not_lt_zero _),fun j k e=>absurd e (none' j k),fun j j' k e=>absurd e (none' j k),fun j k h e=>absurd e (none' j k)⟩
 have run:∀(rest done:List Int) (owner:Array (Option Nat)),OwnT u owner done->done.length+rest.length<=u.mask+1->done.length+rest.length<=u.mask->
  ∃o',rest.foldl (fun(acc:Option (Array (Option Nat)×Nat)) h=>do
   let __x <-acc
   match __x with
    |(owner,k)=>do
     let j <-layClean.free u.mask owner (turns u.mask) (bits h%(u.mask+1)) (bits h)
     pure (owner.setIfInBounds j (some k),k+1)) (some (owner,done.length))=some (o',done.length+rest.length)/\OwnT u o' (done++rest):=fun rest=>by
  induction rest with
  |nil=>intro done owner O _ _;exact⟨owner,rfl,by rw[GC];exact O⟩
  |cons h rest ih=>
   intro done owner O l1 l2
   rw[Fi]at l1 l2
   obtain⟨j,e,O'⟩:=O.step hm h (by omega)
   obtain⟨o',e',O''⟩:=ih (done++[h]) _ O' (by rw[Ga];show done.length+1+_<=_;omega) (by rw[Ga];show done.length+1+_<=_;omega)
   refine⟨o',?_,by rw[List.append_assoc]at O'';exact O''⟩
   rw[List.foldl_cons]
   have:(do
    let __x <-some (owner,done.length)
    match __x with
     |(owner,k)=>do
      let j <-layClean.free u.mask owner (turns u.mask) (bits h%(u.mask+1)) (bits h)
      pure (owner.setIfInBounds j (some k),k+1):Option (Array (Option Nat)×Nat))=some (owner.setIfInBounds j (some done.length),done.length+1):=by
    show((layClean.free u.mask owner (turns u.mask) (bits h%(u.mask+1)) (bits h)).bind fun j=>some (owner.setIfInBounds j (some done.length),done.length+1))=_
    rw[e];rfl
   rw[this]
   rw[Ga]at e'
   rw[Fi,show done.length+(rest.length+1)=done.length+[h].length+rest.length by show _=done.length+1+rest.length;omega]
   exact e'
 obtain⟨o',e,O⟩:=run hashes.toList [] _ O0 (by simp;omega) (by simpa using hl);refine⟨o',?_,by simpa using O⟩;unfold layClean;rw[<-Array.foldl_toList];have e:List.foldl _ (some (Array.replicate (u.mask+1) none,0)) hashes.toList=some (o',0+hashes.toList.length):=e;rw[e];rfl
theorem vA{α:Type}(g:Nat->Option α):∀(l:List Nat),(∀k∈l,(g k).isSome=true)->∀i:Nat,(l.filterMap g)[i]?=l[i]?.bind g
 |[],_,i=>by simp
 |k::l,h,i=>by
  obtain⟨v,e⟩:=Option.isSome_iff_exists.mp (h k G9)
  rw[List.filterMap_cons_some e]
  cases i with
  |zero=>simp[e]
  |succ i=>simp only[List.getElem?_cons_succ];exact vA g l (fun k' hk=>h k' (FH _ hk)) i
theorem uM{α:Type}(g:Nat->Option α):∀(l:List Nat),(∀k∈l,(g k).isSome=true)->(l.filterMap g).length=l.length
 |[],_=>rfl
 |k::l,h=>by
  obtain⟨v,e⟩:=Option.isSome_iff_exists.mp (h k G9)
  rw[List.filterMap_cons_some e,Fi,Fi,uM g l fun k' hk=>h k' (FH _ hk)]
theorem xK{M:Nat}(hm:Mk7 M)(es:Array (Int×E1))(hl:es.size<=M)(fi mv:Nat)(led plain:Bool) :
 ∃(u:FE) (order:Array Nat),laid M fi mv led plain (es.map (·.1))=some (u,order)/\u.plain=plain/\u.led=led/\u.mask=M/\TOk u (order.filterMap (es[·]?))/\order.toList.Perm (Fg es.size):=by
 obtain⟨owner,eo,O⟩:=BH (u:={ mask:=M,place:=#[],dummies:=#[],finger:=fi,led:=led,moves:=mv,plain:=plain }) hm (hashes:=es.map (·.1)) (by simpa using hl)
 have so:owner.size=M+1:=O.so
 have gd:∀(j k:Nat),owner.getD j none=some k↔owner[j]?=some (some k):=fun j k=>by
  by_cases l:j<owner.size
  ·simp[Array.getD,l]
  ·simp[Array.getD,l]
 generalize hlive:(Fg (M+1)).filterMap (fun j=>(owner.getD j none).map (j,·))=live
 have mem:∀(j k:Nat),(j,k)∈live↔owner[j]?=some (some k):=fun j k=>by
  rw[<-hlive,List.mem_filterMap]
  constructor
  ·rintro⟨j',hj,e⟩
   obtain⟨k',e1,e2⟩:=HC.mp e
   cases e2
   exact(gd _ _).mp e1
  ·intro e
   have l:j<M+1:=by rw[<-so];exact(GB.mp e).1
   exact⟨j,Gg.mpr l,by rw[(gd _ _).mpr e];rfl⟩
 have up:live.Pairwise (fun p q=>p.1<q.1):=by
  rw[<-hlive]
  refine List.Pairwise.filterMap _ (fun a a' hr b hb b' hb'=>?_) (List.pairwise_lt_range (n:=M+1))
  obtain⟨_,_,rfl⟩:=HC.mp hb
  obtain⟨_,_,rfl⟩:=HC.mp hb'
  exact hr
 have hs:∀k:Nat,(es.map (·.1)).toList[k]?=es[k]?.map (·.1):=fun k=>by simp
 have hsl:(es.map (·.1)).toList.length=es.size:=by simp
 have lt:∀(j k:Nat),(j,k)∈live->k<es.size:=fun j k h=>by
  have:=O.lt j k ((mem j k).mp h);rw[hsl]at this;exact this
 have oks:∀k∈live.map (·.2),(es[k]?).isSome=true:=fun k hk=>by
  obtain⟨⟨j,k'⟩,h,rfl⟩:=Fm.mp hk
  rw[Fd (lt _ _ h)];rfl
 refine⟨_,(live.map (·.2)).toArray,by unfold laid;rw[eo];dsimp only[Option.bind_eq_bind,Option.bind_some,Option.pure_def];rw[hlive],rfl,rfl,rfl,?_,?_⟩
 ·have fl:((live.map (·.2)).toArray.filterMap (es[·]?)).toList=(live.map (·.2)).filterMap (es[·]?):=by rw[Array.toList_filterMap]
  have sz:((live.map (·.2)).toArray.filterMap (es[·]?)).size=live.length:=by
   rw[<-Fn,fl,uM _ _ oks,E6]
  have ll:live.length<=M:=by
   have nd:(live.map (·.2)).Nodup:=by
    refine Ih.mpr (up.imp_of_mem fun{p q} hp hq h e=>?_)
    obtain⟨j,k⟩:=p
    obtain⟨j',k'⟩:=q
    have e:k=k':=e
    subst e
    have:=O.inj j j' k ((mem j k).mp hp) ((mem j' k).mp hq)
    have h:j<j':=h
    omega
   have:=sub_len' (m:=Fg es.size) nd fun k hk=>by
    obtain⟨⟨j,k'⟩,h,rfl⟩:=Fm.mp hk
    exact Gg.mpr (lt _ _ h)
   rw[E6,List.length_range]at this
   omega
  refine⟨hm,rfl,?_,?_,?_,fun i e j he hj=>?_⟩
  ·rw[sz];simp
  ·show((live.map (·.1)).toArray).toList.Pairwise _
   exact Ih.mpr up
  ·rw[sz];exact ll
  ·rw[<-Fp,fl,vA _ _ oks,E9]at he
   have hj:((live.map (·.1)).toArray)[i]?=some j:=hj
   rw[<-Fp]at hj
   have hj:(live.map (·.1))[i]?=some j:=hj
   rw[E9]at hj
   obtain⟨⟨j',k⟩,el,rfl⟩:=HC.mp hj
   rw[el]at he
   have he:es[k]?=some e:=he
   have own:=(mem j' k).mp (EZ el)
   obtain⟨n,n1,n2,n3⟩:=O.way j' k e.1 own (by rw[hs,he];rfl)
   have ae:∀n q,ad { mask:=M,place:=(live.map (·.1)).toArray,dummies:=#[],finger:=fi,led:=led,moves:=mv,plain:=plain } n q=ad { mask:=M,place:=#[],dummies:=#[],finger:=fi,led:=led,moves:=mv,plain:=plain } n q:=fun n q=>mN (by rfl) n q
   have se:∀q,probeStart { mask:=M,place:=(live.map (·.1)).toArray,dummies:=#[],finger:=fi,led:=led,moves:=mv,plain:=plain } q=probeStart { mask:=M,place:=#[],dummies:=#[],finger:=fi,led:=led,moves:=mv,plain:=plain } q:=fun q=>jC (by rfl) q
   refine⟨n,n1,by rw[ae,se];exact n2,fun m hm'=>?_⟩
   rw[ae,se]
   obtain⟨k',ek⟩:=n3 m hm'
   show _∈live.map (·.1)
   exact Fm.mpr ⟨(_,k'),(mem _ _).mpr ek,rfl⟩
 ·show(live.map (·.2)).Perm _
  have nd:(live.map (·.2)).Nodup:=by
   refine Ih.mpr (up.imp_of_mem fun{p q} hp hq h e=>?_)
   obtain⟨j,k⟩:=p
   obtain⟨j',k'⟩:=q
   have e:k=k':=e
   subst e
   have:=O.inj j j' k ((mem j k).mp hp) ((mem j' k).mp hq)
   have h:j<j':=h
   omega
  refine(List.perm_ext_iff_of_nodup nd List.nodup_range).mpr fun k=>⟨fun hk=>?_,fun hk=>?_⟩
  ·obtain⟨⟨j,k'⟩,h,rfl⟩:=Fm.mp hk
   exact Gg.mpr (lt _ _ h)
  ·rw[Gg]at hk
   obtain⟨j,e⟩:=O.all k (by rw[hsl];exact hk)
   exact Fm.mpr ⟨(j,k),(mem j k).mpr e,rfl⟩
section
variable{P:F8}{w:Fy}{A:FK}{E:E1->E3->Prop}{s:E3}
structure StS(P:F8)(w:Fy)(h:Heap)(a:Addr)(o:Obj)(es:Array (Int×E1))(ep:Nat)(t:FE)(xs:List PrE):Prop where
 E:StE P w h a o es ep t xs
 lo:t.mask=7->es.size<=4
 hi:es.size<=18
theorem vC{h h':Heap}{k:Int×Int}{b:Addr}(hb:Pk P w h k b)(hk:∀o,h.get? b=some o->h'.get? b=some o):Pk P w h' k b:=by obtain⟨o,items,n,ho,hc,hd,hi⟩:=hb;exact⟨o,items,n,hk o ho,hc,hd,hi⟩
theorem CB{h:Heap}{k:Int×Int}{b a:Addr}{o:Obj}{es:Array (Int×E1)}{ep:Nat}{t:FE}(hb:Pk P w h k b)(ho:h.get? a=some o)(hd:o.data=.set es ep t):b≠a:=by rintro rfl;obtain⟨o',items,n,ho',hc,hd',hi⟩:=hb;obtain rfl:o'=o:=Option.some.inj (ho'.symm.trans ho);rw[hd]at hd';exact nomatch hd'
theorem StE.len{h:Heap}{a:Addr}{o:Obj}{es:Array (Int×E1)}{ep:Nat}{t:FE}{xs:List PrE}(S:StE P w h a o es ep t xs):es.size=xs.length:=by rw[<-Fn,S.ents,E6]
theorem StE.store{h:Heap}{a:Addr}{o:Obj}{es es':Array (Int×E1)}{ep:Nat}{t t':FE}{xs xs':List PrE}(S:StE P w h a o es ep t xs)
 (ents:es'.toList=xs'.map (fg P w)) (ok:TOk t' es') (pl:t'.plain=true) (pk:∀x∈xs',Pk P w h x.1 x.2) (nd:(xs'.map (·.1)).Nodup) :
 StE P w (h.update a (Obj.putSet es' t')) a { o with data:=.set es' (ep+1) t' } es' (ep+1) t' xs':=by
 have hg:(h.update a (Obj.putSet es' t')).get? a=some { o with data:=.set es' (ep+1) t' }:=by
  have:=G7 (Obj.putSet es' t') S.get (by rw[putSet_of es' t' S.data];rfl)
  rw[putSet_of es' t' S.data]at this;exact this
 have sb:=FW h a (Obj.putSet es' t')
 exact⟨hg,S.ex,rfl,ents,ok,pl,fun x hx=>vC (pk x hx) fun o' e=>by rw[sb.2 _ (CB (pk x hx) S.get S.data)];exact e,nd⟩
theorem DP{a:Addr}{o:Obj}{es:Array (Int×E1)}{ep:Nat}{t:FE}{xs:List PrE}(S:StE P w s.heap a o es ep t xs)(h5:es.size<=18){Q:Unit->E3->Prop}
 (h:∀h' o' es' ep' t' xs',GO a s.heap h'->StE P w h' a o' es' ep' t' xs'->t'.led=t.led->t'.mask=31->xs'.Perm xs->Q () { s with heap:=h' }) :
 EX (F6 P w) A (setRelay a 20) Q E s:=by
 obtain⟨u,order,e,e1,e2,e3,T,pm⟩:=xK (M:=31) (.inr rfl) es (by omega) t.finger (t.movedTo 31) t.led t.plain
 have er:t.relaid (es.map (·.1)) 20=some (u,order):=e
 have fl:(order.filterMap (es[·]?)).toList=(order.toList.filterMap (xs[·]?)).map (fg P w):=by
  rw[Array.toList_filterMap,List.map_filterMap]
  congr 1
  funext i
  rw[<-Fp,S.ents,E9]
 have px:(order.toList.filterMap (xs[·]?)).Perm xs:=by
  have:=pm.filterMap (xs[·]?)
  rw[S.len,List.filterMap_getElem?_range_length]at this
  exact this
 have hsz:(order.filterMap (es[·]?)).size=es.size:=by
  rw[<-Fn,fl,E6,px.length_eq,S.len]
 unfold setRelay
 refine cc (GJ S.get S.data S.ok.fits ?_)
 dsimp only
 rw[if_neg (by rw[show SetTable.sizeAbove 20=32 by decide,Ib];decide),er]
 refine cc ?_
 show EX _ _ (do
  if(order.filterMap (es[·]?)).size != es.size then unsupported "internal:set-table-lost-an-element"
  pure (order.filterMap (es[·]?),u)) _ _ _
 rw[hsz]
 simp only[bne_self_eq_false,F5,if_false,GG]
 refine E4 ?_
 dsimp only
 refine wpAny_storeSet_of S.get S.data ?_ (fits_of_scanBound (by rw[hsz];unfold scanBound;omega))
 exact h _ _ _ _ _ _ (FW _ a _) (S.store fl T (by rw[e1];exact S.pl) (fun x hx=>S.pk x (px.mem_iff.mp hx)) ((px.map (·.1)).nodup_iff.mpr S.nd)) e2 e3 px
theorem uX{a:Addr}{o:Obj}{es:Array (Int×E1)}{ep:Nat}{t:FE}{xs:List PrE}(S:StS P w s.heap a o es ep t xs)(hu:A.units<G0){k:Int×Int}{b:Addr}(hb:Pk P w s.heap k b)
 (hroom:k∉xs.map (·.1)->xs.length+1<=18) {Q:Bool->E3->Prop}
 (h:∀r h' o' es' ep' t' xs',GO a s.heap h'->StS P w h' a o' es' ep' t' xs'->t'.led=t.led->(k∈xs.map (·.1)/\xs'=xs\/k∉xs.map (·.1)/\xs'.Perm ((k,b)::xs))->Q r { s with heap:=h' }) :
 EX (F6 P w) A (setAddHashed a (.ref b) (hk P w k)) Q E s:=by
 have S0:=S.E
 unfold setAddHashed
 refine FX ?_
 unfold setAddHashedIn
 refine cc (GJ S0.get S0.data S0.ok.fits ?_)
 dsimp only
 rw[show byScan (.ref b) es=false from rfl]
 simp only[F5,if_false]
 obtain⟨N,hN,hN0,hN1⟩:=S0.ok.first (hk P w k)
 refine cc (search S0 hu hb rfl hN hN0 hN1 (fun mem=>?_) (fun nm=>?_) 100000 0 none (FQ _) ?_ rfl fun m i hm=>absurd hm (Nat.not_lt_zero _))
 ·dsimp only
  exact E4 (h _ s.heap _ _ _ _ _ (Heap.SameBut.refl a s.heap) S rfl (.inl ⟨mem,rfl⟩))
 ·dsimp only
  have rm:=hroom nm
  have ln:=S0.len
  have r1:es.size+1<=t.mask:=by
   rcases S0.ok.ms with q|q
   ·have:=S.lo q;omega
   ·omega
  refine cc (GJ S0.get S0.data S0.ok.fits ?_)
  dsimp only
  have T:=S0.ok.put (.ref b) hN hN0 hN1 r1
  generalize hj:(ad t N (t.probeStart (hk P w k))).j=j at T
  have hpl:(t.put j).1.plain=true:=S0.pl
  have hld:(t.put j).1.led=t.led:=rfl
  have hms:(t.put j).1.mask=t.mask:=rfl
  generalize t.put j=tp at T hpl hld hms
  obtain⟨u,p⟩:=tp
  dsimp only at T hpl hld hms ⊢
  rw[hpl,if_pos rfl]
  refine cc (vE hb ?_)
  rw[if_pos rfl]
  have el:(Hs es p (hk P w k,FZ b)).toList=(cB xs p (k,b)).map (fg P w):=by
   rw[Aq,S0.ents]
   unfold cB
   rw[FI,EW,List.map_take,List.map_drop];rfl
  have pm:(cB xs p (k,b)).Perm ((k,b)::xs):=by
   unfold cB
   have:=List.perm_middle (a:=(k,b)) (l₁:=xs.take p) (l₂:=xs.drop p)
   rw[List.take_append_drop]at this;exact this
  have sz:(Hs es p (hk P w k,FZ b)).size=es.size+1:=by
   rw[<-Fn,el,E6,pm.length_eq,Fi,ln]
  have S1:=S0.store el T hpl (fun x hx=>by
   rcases FN.mp (pm.mem_iff.mp hx)with q|q
   ·rw[q];exact hb
   ·exact S0.pk x q) ((pm.map (·.1)).nodup_iff.mpr (Hu.mpr ⟨nm,S0.nd⟩))
  refine cc (wpAny_storeSet_of S0.get S0.data ?_ (fits_of_scanBound (by rw[sz];unfold scanBound;omega)))
  have sb:=FW s.heap a (Obj.putSet (Hs es p (hk P w k,FZ b)) u)
  have fill:u.fill=es.size+1:=by unfold SetTable.fill;rw[T.dm,T.sz,sz];rfl
  by_cases full:t.mask=7/\es.size=4
  ·have tf:u.tooFull=true:=by unfold SetTable.tooFull;rw[fill,hms,full.1,full.2];rfl
   rw[tf]
   simp only[Bool.not_false,Bool.and_self,if_true]
   rw[show SetTable.grown (es.size+1)=20 by rw[full.2];rfl]
   refine cc (DP S1 (by rw[sz];omega) fun h' o' es' ep' t' xs' sb' S' l m px=>?_)
   refine E4 (h _ h' o' es' ep' t' xs' (sb.trans sb') ⟨S',(fun q=>by rw[m]at q;cases q),?_⟩ (l.trans hld) (.inr ⟨nm,px.trans pm⟩))
   rw[S'.len,px.length_eq,<-S1.len,sz];omega
  ·have tf:u.tooFull=false:=by
    unfold SetTable.tooFull;rw[fill,hms,decide_eq_false_iff_not]
    rcases S0.ok.ms with q|q
    ·have:=S.lo q
     have:es.size≠4:=fun z=>full ⟨q,z⟩
     rw[q];omega
    ·rw[q];omega
   rw[tf]
   simp only[Bool.and_false,F5,if_false,GG]
   refine E4 (h _ _ _ _ _ _ _ sb ⟨S1,fun q=>?_,by rw[sz];omega⟩ hld (.inr ⟨nm,pm⟩))
   rw[hms]at q
   have:=S.lo q
   have:es.size≠4:=fun z=>full ⟨q,z⟩
   rw[sz];omega
 ·have:turns t.mask<=46:=by
   unfold SetTable.turns
   rcases S0.ok.ms with q|q<;>rw[q]<;>decide
  omega
end
theorem bQ:Slot "set_iterator" "__next__" "set_iterator.__next__":=
 .of (owner:="set_iterator") (n:="__next__") (by rw[typeLookup_type,builtinLookup_eq_fast];kernel_rfl) (by decide +kernel) (by decide +kernel) (by decide +kernel)
  (by first|exact .inl (by decide +kernel)|exact .inr (by decide +kernel)) (by rw[isSubtype_type];kernel_rfl)
theorem gg:Slot "set_iterator" "__iter__" "set_iterator.__iter__":=
 .of (owner:="set_iterator") (n:="__iter__") (by rw[typeLookup_type,builtinLookup_eq_fast];kernel_rfl) (by decide +kernel) (by decide +kernel) (by decide +kernel)
  (by first|exact .inl (by decide +kernel)|exact .inr (by decide +kernel)) (by rw[isSubtype_type];kernel_rfl)
theorem fD:entryFor table "set_iterator.__next__"=some GQ.«set_iterator.__next__»:=entryFor_of_tree (by kernel_rfl)
theorem oB:Manifest.owners.lookup (String.ofList ['r','o','t','a','r','e','t','i','_','t','e','s'].reverse)=some Manifest.sig_set_iterator:=by kernel_rfl
theorem gA(a:E1):argsOk "set_iterator.__next__" ⟨[a],[]⟩:=by unfold argsOk;rw[signature?_of (id:="set_iterator.__next__") (n:=['_','_','t','x','e','n','_','_']) (o:=['r','o','t','a','r','e','t','i','_','t','e','s']) (by kernel_rfl) oB];kernel_rfl
theorem ma(a:E1):argsOk "set_iterator.__iter__" ⟨[a],[]⟩:=by unfold argsOk;rw[signature?_of (id:="set_iterator.__iter__") (n:=['_','_','r','e','t','i','_','_']) (o:=['r','o','t','a','r','e','t','i','_','t','e','s']) (by kernel_rfl) oB];kernel_rfl
theorem mO:entryFor table "set.__iter__"=some GQ.«frozenset.__iter__»:=entryFor_alias (id':="frozenset.__iter__") (by kernel_rfl) rfl (by decide +kernel) (by kernel_rfl)
theorem qW{α:Type}:∀(l:List α) (i:Nat) (h:i<l.length),(l[i]::l.eraseIdx i).Perm l
 |x::l,0,_=>.rfl
 |x::l,i+1,h=>by
  rw[List.getElem_cons_succ,List.eraseIdx_cons_succ]
  exact(List.Perm.swap _ _ _).trans (List.Perm.cons x (qW l i (by simpa using h)))
theorem rk{α:Type}(next:Nat->Nat):∀(f k:Nat) (left:List α) (out:Array α),left.length<=f->(pickOrder.go next f k left out).toList.Perm (out.toList++left)
 |0,k,left,out,h=>by
  obtain rfl:left=[]:=List.length_eq_zero_iff.mp (by omega)
  rw[GC];exact .rfl
 |f+1,k,left,out,h=>by
  rw[pickOrder.go]
  cases e:left[next k%left.length]? with
  |none=>
   dsimp only
   have:=List.getElem?_eq_none_iff.mp e
   have:left.length=0:=by
    rcases Nat.eq_zero_or_pos left.length with z|z
    ·exact z
    ·have:=Nat.mod_lt (next k) z;omega
   obtain rfl:=List.length_eq_zero_iff.mp this
   rw[GC]
  |some x=>
   dsimp only
   obtain⟨l,e'⟩:=F0.mp e
   have:=rk next f (k+1) (left.eraseIdx (next k%left.length)) (out.push x) (by rw[List.length_eraseIdx_of_lt l];omega)
   refine this.trans ?_
   rw[Array.toList_push,List.append_assoc]
   refine List.Perm.append_left _ ?_
   have p:=qW left _ l
   rw[e']at p
   exact p
theorem yx{α:Type}(next:Nat->Nat)(xs:Array α):(pickOrder next xs).toList.Perm xs.toList:=by have:=rk next xs.size 0 xs.toList #[] (by simp);unfold pickOrder;simpa using this
def wkS(w:Fy)(a ep:Nat)(es:Array (Int×E1)):Array (Int×E1):=if w.params.followText "set-order" then pickOrder (w.params.setOrder a ep) es else es
theorem rP(w:Fy)(a ep:Nat)(es:Array (Int×E1)):(wkS w a ep es).toList.Perm es.toList:=by
 unfold wkS;split
 ·exact yx _ _
 ·exact .rfl
theorem iJ(w:Fy)(a ep:Nat)(es:Array (Int×E1)):(wkS w a ep es).size=es.size:=by have:=(rP w a ep es).length_eq;simpa using this
structure RawS(w:Fy)(h:Heap)(a:Addr)(o:Obj)(es:Array (Int×E1))(ep:Nat)(t:FE):Prop where
 get:h.get? a=some o
 ex:o.ExactSet
 data:o.data=.set es ep t
 fits:t.fits es.size=true
 pl:t.plain=true
 led:t.led=!w.params.followText "set-order"
 up:t.place.toList.Pairwise (· < ·)
 sz:t.place.size=es.size
def slP(t:FE):Nat->Nat
 |0=>0
 |i+1=>(t.place[i]?).getD 0+1
def slW(w:Fy)(t:FE)(i:Nat):Nat:=if w.params.followText "set-order" then 0 else slP t i
def ItS(w:Fy)(h:Heap)(it a:Addr)(i n ep:Nat)(t:FE):Prop:=∃o,h.get? it=some o/\o.cls=.type "set_iterator"/\o.data=.fields #[Hf (slW w t i),Hf i,.ref a,Hf n,Hf ep]
section
variable{prog:F8}{w:Fy}{A:FK}{E:E1->E3->Prop}{s:E3}{a it:Addr}{o:Obj}{es:Array (Int×E1)}{ep i:Nat}{t:FE}
theorem RawS.ty(h:RawS w s.heap a o es ep t):s.TypeIs (.ref a) "set":=⟨o,h.get,h.ex.1⟩
theorem RawS.kept{h h':Heap}(q:RawS w h a o es ep t)(k:∀o,h.get? a=some o->h'.get? a=some o):RawS w h' a o es ep t:={ q with get:=k o q.get }
theorem RawS.lt{h:Heap}(q:RawS w h a o es ep t):a<h.objs.size:=F9 q.get
theorem ItS.ty{n:Nat}(h:ItS w s.heap it a i n ep t):s.TypeIs (.ref it) "set_iterator":=let⟨o,g,c,_⟩:=h;⟨o,g,c⟩
theorem ItS.at{h h':Heap}{n:Nat}(q:ItS w h it a i n ep t)(k:∀o,h.get? it=some o->h'.get? it=some o):ItS w h' it a i n ep t:=let⟨o,g,r⟩:=q;⟨o,k o g,r⟩
theorem sj{Q:E1->E3->Prop}(hm:RawS w s.heap a o es ep t)
 (q:Q (.ref s.heap.objs.size) { s with heap:=s.heap.push { cls:=.type "set_iterator",data:=.fields #[Hf 0,Hf 0,.ref a,Hf es.size,Hf ep] } }):EX (F6 prog w) A (pyIter (.ref a)) Q E s:=by
 have hT:=hm.ty
 refine wpAny_pyIter_slot hT F.slot_set_iter (Gy F.slot_set_iter hT mO ?_ (F.args_set_iter_1 _))
 unfold GQ.«frozenset.__iter__» Builtin.Frozenset.slot0 slotArgs
 simp only[List.isEmpty_nil,Gx,F5,↓reduceIte,bind_assoc,Gb,bne_self_eq_false]
 unfold Builtin.Frozenset.addrOf Builtin.Frozenset.sizeOf
 refine cc (E4 ?_)
 try dsimp only
 refine cc (E4 ?_)
 refine cc (cc (wpAny_setEntries_of hm.get hm.data hm.fits (E4 ?_)))
 unfold setDrawn
 refine cc (cc (GJ hm.get hm.data hm.fits ?_))
 dsimp only
 unfold setsByText
 refine cc (cc (wpAny_askSetting (E4 (E4 ?_))))
 show EX _ _ _ _ _ _
 have hd:(!t.plain&&decide (es.size>1))=false:=by rw[hm.pl];rfl
 refine wpAny_ite_split (fun hc=>absurd hc ?_) fun _=>cc (E4 ?_)
 ·show ¬(!_&&(!t.plain&&decide (es.size>1)))=true
  rw[hd,Bool.and_false];exact F4
 refine cc (wpAny_setEpoch_of hm.get hm.data hm.fits ?_)
 unfold newFields
 refine cc (FR (E4 ⟨_,rfl,"set_iterator",_,⟨_,EY _ rfl,rfl⟩,bQ.lookup,?_⟩))
 exact q
end
theorem vj{t:FE}(up:t.place.toList.Pairwise (· < ·)):∀i,i<=t.place.size->below t.place (slP t i)=i
 |0,_=>by
  obtain⟨bl,b1,b2⟩:=below_at (j:=0) up
  show below t.place 0=0
  rcases Nat.eq_zero_or_pos (below t.place 0)with z|z
  ·exact z
  ·have:=b1 0 _ z (Fd (by omega));omega
 |i+1,h=>by
  have hi:i<t.place.size:=by omega
  have e:t.place[i]?=some t.place[i]:=Fd hi
  show below t.place ((t.place[i]?).getD 0+1)=i+1
  rw[e,Hk]
  obtain⟨bl,b1,b2⟩:=below_at (j:=t.place[i]+1) up
  rcases Hr (below t.place (t.place[i]+1)) (i+1)with z|z|z
  ·have:=b2 i _ (by omega) e;omega
  ·exact z
  ·have l:i+1<t.place.size:=by omega
   have:=b1 (i+1) _ z (Fd l)
   have:=FY.mp up i (i+1) (by simpa using hi) (by simpa using l) (by omega)
   simp at this
   omega
section
variable{prog:F8}{w:Fy}{A:FK}{E:E1->E3->Prop}{s:E3}{a it:Addr}{o:Obj}{es:Array (Int×E1)}{ep i:Nat}{t:FE}
theorem jy{Q:Option (E1×Nat)->E3->Prop}(hm:RawS w s.heap a o es ep t)(hi:i<=es.size)
 (q:Q (((wkS w a ep es)[i]?).map fun e=>(e.2,slW w t (i+1))) s):EX (F6 prog w) A (setNext a (slW w t i) i ep) Q E s:=by
 unfold setNext
 refine cc (GJ hm.get hm.data hm.fits ?_)
 dsimp only
 unfold setsByText
 refine cc (cc (wpAny_askSetting (E4 ?_)))
 show EX _ _ (if w.params.followText "set-order"=true then _ else _) _ _ _
 by_cases bt:w.params.followText "set-order"=true
 ·rw[if_pos bt,if_neg (by simp)]
  unfold setWalk
  refine cc (cc (GJ hm.get hm.data hm.fits ?_))
  dsimp only
  unfold setsByText
  refine cc (cc (wpAny_askSetting (E4 ?_)))
  show EX _ _ (if w.params.followText "set-order"=true then _ else _) _ _ _
  rw[if_pos bt]
  refine cc (wpAny_askSetting (E4 (E4 ?_)))
  unfold wkS slW at q
  rw[if_pos bt,if_pos bt]at q
  unfold slW
  rw[if_pos bt]
  exact q
 ·rw[if_neg bt]
  have bf:w.params.followText "set-order"=false:=by simpa using bt
  show EX _ _ (if(!t.plain&&decide (es.size>1))=true then _ else _) _ _ _
  rw[hm.pl]
  simp only[Gx,Bool.false_and,F5,if_false,GG]
  show EX _ _ ((if(!t.led&&!es.isEmpty)=true then unsupported "set:maker-not-led" else pure ()) >>= _) _ _ _
  rw[hm.led,bf]
  simp only[Bool.not_false,Gx,Bool.false_and,F5,if_false,GG]
  refine E4 ?_
  unfold wkS slW at q
  rw[if_neg bt,if_neg bt]at q
  unfold slW
  rw[if_neg bt,vj hm.up i (by rw[hm.sz];exact hi)]
  have q:Q (es[i]?.map fun e=>(e.2,(t.place[i]?).getD 0+1)) s:=q
  by_cases l:i<es.size
  ·have l':i<t.place.size:=by rw[hm.sz];exact l
   rw[Fd l,Fd l']at q ⊢
   exact q
  ·rw[Hz (show es.size<=i by omega),Hz (show t.place.size<=i by rw[hm.sz];omega)]at q ⊢
   exact q
theorem sJ{Q:Option E1->E3->Prop}(hit:ItS w s.heap it a i es.size ep t)(hm:RawS w s.heap a o es ep t){e:Int×E1}(hi:(wkS w a ep es)[i]?=some e)
 (hQ:∀h':Heap,ItS w h' it a (i+1) es.size ep t->GO it s.heap h'->Q (some e.2) { s with heap:=h' }):EX (F6 prog w) A (HP (.ref it)) Q E s:=by
 obtain⟨oi,ho,hc,hd⟩:=id hit
 have hT:=hit.ty
 have li:i<es.size:=by rw[<-iJ w a ep es];exact(GB.mp hi).1
 unfold HP
 refine cc (wpAny_attempt (GY (name:=Gz "__next__") hT bQ (Gy bQ hT fD ?_ (gA _))))
 unfold GQ.«set_iterator.__next__» slotArgs
 simp only[List.isEmpty_nil,Gx,F5,↓reduceIte,Gb,bne_self_eq_false,GG]
 refine cc (wpAny_fieldsOf ho hd ?_)
 simp only[Hf]
 refine cc (wpAny_setEntries_of hm.get hm.data hm.fits ?_)
 simp only[bne_self_eq_false,F5,if_false,GG,Hb]
 refine cc (jy hm (by omega) ?_)
 rw[hi]
 dsimp only[Option.map_some]
 refine cc (Ir ho hd (by simp) ?_)
 have g1:=G7 (Obj.mapFields (·.setIfInBounds 0 (Hf (slW w t (i+1))))) ho (Obj.isFreed_of_fields (GW hd _))
 have d1:=GW hd (·.setIfInBounds 0 (Hf (slW w t (i+1))))
 refine cc (Ir (s:={ s with heap:=s.heap.update it (Obj.mapFields (·.setIfInBounds 0 (Hf (slW w t (i+1))))) }) g1 d1 (by simp) ?_)
 have n1:((s.heap.update it (Obj.mapFields (·.setIfInBounds 0 (Hf (slW w t (i+1)))))).update it (Obj.mapFields (·.setIfInBounds 1 (Hf ((i:Int)+1))))).get? it=some _:=
  G7 _ g1 (Obj.isFreed_of_fields (GW d1 _))
 refine E4 ⟨_,rfl,E4 (hQ _ ⟨_,n1,?_,?_⟩ ((FW ..).trans (FW ..)))⟩
 ·exact(Obj.cls_mapFields ..).trans ((Obj.cls_mapFields ..).trans hc)
 ·rw[GW d1];simp[Hf]
theorem wG{Q:Option E1->E3->Prop}(hh:A.handled=none)(hit:ItS w s.heap it a es.size es.size ep t)(hm:RawS w s.heap a o es ep t)
 (hQ:∀h',Heap.ExtBut it s.heap h'->Q none { s with heap:=h' }):EX (F6 prog w) A (HP (.ref it)) Q E s:=by
 obtain⟨oi,ho,hc,hd⟩:=id hit
 have hT:=hit.ty
 unfold HP
 refine cc (wpAny_attempt (GY (name:=Gz "__next__") hT bQ (Gy bQ hT fD ?_ (gA _))))
 unfold GQ.«set_iterator.__next__» slotArgs
 simp only[List.isEmpty_nil,Gx,F5,↓reduceIte,Gb,bne_self_eq_false,GG]
 refine cc (wpAny_fieldsOf ho hd ?_)
 simp only[Hf]
 refine cc (wpAny_setEntries_of hm.get hm.data hm.fits ?_)
 simp only[bne_self_eq_false,F5,if_false,GG,Hb]
 refine cc (jy hm (E8 _) ?_)
 rw[Hz (by rw[iJ];exact E8 _)]
 dsimp only[Option.map_none]
 refine cc (Ir ho hd (by simp) ?_)
 refine cc ?_
 simp only[newExc,newTuple]
 refine cc (FR ?_ (by size_fits))
 refine cc (m:=firstArgMember _ _) (wpAny_of_eq (a:=Gu) (by first|rfl|(simp only[firstArgMember];rfl)) ?_)
 refine FR ?_ (by size_fits)
 simp only[raiseNew]
 refine cc (wpAny_handled ?_)
 rw[show A.in1.handled=none from hh]
 refine cc (E4 (wpAny_throw ?_))
 refine cc (wpAny_isInstance (T:="StopIteration") (b:=true) ⟨_,EY _ rfl,rfl⟩ isSubtype_stop ?_)
 exact E4 (hQ _ (((FW ..).extBut.push _).push _))
end
theorem ki:entryFor table "set_iterator.__iter__"=some GQ.«dict_keyiterator.__iter__»:=entryFor_alias (id':="dict_keyiterator.__iter__") (by kernel_rfl) rfl (by decide +kernel) (by kernel_rfl)
section
variable{prog:F8}{w:Fy}{A:FK}{E:E1->E3->Prop}{s:E3}{a it:Addr}{o:Obj}{es:Array (Int×E1)}{ep i:Nat}{t:FE}
theorem uI{Q:Bool->E3->Prop}(hT:s.TypeIs (.ref a) "set")(h:Q false s):EX (F6 prog w) A (Builtin.List.listLengthHint (.ref a)) Q E s:=by
 unfold Builtin.List.listLengthHint;refine cc (wpAny_specialOf hT PySem.F.slot_set_len.lookup ?_);generalize hid:("set.__len__":String)=id0
 wp_delta
 rw[show splitId id0=some ("set","__len__")from by subst hid;decide +kernel];subst hid;refine cc (wpAny_isInstance (T:="set") (b:=true) hT (by rw[isSubtype_type];kernel_rfl) ?_);refine wpAny_ite_split (fun hab=>absurd hab (by decide)) (fun _=>?_);refine wpAny_ite_split (fun _=>?_) (fun hab=>absurd (by decide +kernel) hab);refine cc (wpAny_typeOf hT ?_);exact E4 h
theorem p9(hh:A.handled=none)(I a:Addr)(hne:a≠I):Walks prog w A I [I,a] [I] es.size (fun i v=>∃e,(wkS w a ep es)[i]?=some e/\v=e.2) (fun i h=>ItS w h I a i es.size ep t/\RawS w h a o es ep t) where
 sub:=fun b hb=>by simp at hb;simp[hb]
 frame:=fun _ _ _ st hk=>⟨st.1.at fun o e=>hk I (by simp) o e,st.2.kept fun o e=>hk a (by simp) o e⟩
 item:=fun i s Q E hi st hQ=>by
  have hi':i<(wkS w a ep es).size:=by rw[iJ];exact hi
  exact sJ st.1 st.2 (Fd hi') fun h' n1 sb=>hQ _ h' s.toks ⟨_,Fd hi',rfl⟩ ⟨n1,st.2.kept fun o e=>(sb.2 a hne).trans e⟩ fun b o hb e=>sb.extBut b o (fun h=>hb (by simp[h])) e
 done:=fun s Q E st hQ=>wG hh st.1 st.2 fun h' he=>hQ h' s.toks fun b o hb e=>he b o (fun h=>hb (by simp[h])) e
 self:=fun _ _ _ _ st hQ=>by
  refine wpAny_pyIter_slot st.1.ty gg (Gy gg st.1.ty ki ?_ (ma _))
  show EX _ _ (ret (.ref I)) _ _ _
  exact E4 ⟨_,rfl,"set_iterator",_,st.1.ty,bQ.lookup,hQ⟩
theorem u7:PySem.W.KdlSrc prog w "set" a a es.size (fun i v=>∃e,(wkS w a ep es)[i]?=some e/\v=e.2) (fun h=>RawS w h a o es ep t) where
 type:=fun _ hm=>hm.ty
 there:=fun _ hm=>⟨hm.lt,hm.lt⟩
 keep:=fun _ _ hm hk=>hm.kept fun o e=>hk a (.inl rfl) o e
 notList:=by decide
 notTuple:=by decide
 hint:=fun _ _ _ _ hm hq=>uI hm.ty hq
 iter:=fun _ _ hh hm=>⟨_,_,(fun _ _ hq=>sj hm hq),p9 hh _ a (Fs hm.lt),⟨⟨_,EY _ rfl,rfl,by unfold slW;split<;>rfl⟩,hm.kept fun o e=>E5 _ e⟩⟩
end
section
variable{P:F8}{w:Fy}
theorem StE.kept{h h':Heap}{a:Addr}{o:Obj}{es:Array (Int×E1)}{ep:Nat}{t:FE}{xs:List PrE}(S:StE P w h a o es ep t xs)(k:∀o,h.get? a=some o->h'.get? a=some o)(k2:∀x∈xs,∀o,h.get? x.2=some o->h'.get? x.2=some o):StE P w h' a o es ep t xs:={ S with get:=k o S.get,pk:=fun x hx=>vC (S.pk x hx) (k2 x hx) }
theorem StS.kept{h h':Heap}{a:Addr}{o:Obj}{es:Array (Int×E1)}{ep:Nat}{t:FE}{xs:List PrE}(S:StS P w h a o es ep t xs)(k:∀o,h.get? a=some o->h'.get? a=some o)(k2:∀x∈xs,∀o,h.get? x.2=some o->h'.get? x.2=some o):StS P w h' a o es ep t xs:={ S with E:=S.E.kept k k2 }
def mj(P:F8)(w:Fy)(h:Heap)(a:Addr)(items:Array E1)(ks:List (Int×Int))(i:Nat)(L:Bool):Prop:=
 ∃o es ep t xs,StS P w h a o es ep t xs/\t.led=L/\(∀x,x∈xs.map (·.1)↔x∈ks.take i)/\∀x∈xs,∃j:Nat,items[j]?=some (.ref x.2)/\ks[j]?=some x.1
theorem oP{h:Heap}{a:Addr}{items:Array E1}{ks:List (Int×Int)}{L:Bool}(hg:h.get? a=some { cls:=.type "set",dict:=none,data:=.set #[] 0 (.fresh 0 0 L) }):mj P w h a items ks 0 L:=by refine⟨_,#[],0,.fresh 0 0 L,[],⟨⟨hg,⟨rfl,rfl,rfl⟩,rfl,rfl,⟨.inl rfl,rfl,rfl,List.Pairwise.nil,FQ _,fun i e j he=>?_⟩,rfl,fun x hx=>absurd hx (by simp),List.nodup_nil⟩,fun _=>FQ _,FQ _⟩,rfl,fun x=>by simp,fun x hx=>absurd hx (by simp)⟩;simp at he
variable{A:FK}{R:Result->E3->Prop}{I:Addr}{fp wr:List Addr}{G:Array GenState->Array GenState->Prop}{St:Nat->E3->Prop}
theorem mj.kept{h h':Heap}{a:Addr}{items:Array E1}{ks:List (Int×Int)}{i:Nat}{L:Bool}(q:mj P w h a items ks i L)(k:∀o,h.get? a=some o->h'.get? a=some o)(k2:∀(j:Nat) b,items[j]?=some (.ref b)->∀o,h.get? b=some o->h'.get? b=some o):mj P w h' a items ks i L:=by obtain⟨o,es,ep,t,xs,S,l,m,src⟩:=q;exact⟨o,es,ep,t,xs,S.kept k fun x hx=>let⟨j,e,_⟩:=src x hx;k2 j _ e,l,m,src⟩
theorem l9{items:Array E1}(W:WalksS P w A.in1 I fp wr G items.size (fun i v=>items[i]?=some v) St)(S:Addr)(hSf:S∉fp)(hu:A.in1.units<G0){ks:List (Int×Int)}{h0:Heap}{L:Bool}
 (hit:∀(i:Nat) v,items[i]?=some v->∃b k,v=.ref b/\ks[i]?=some k/\Pk P w h0 k b/\b∉S::wr)
 (hroom:∀l:List (Int×Int),l.Nodup->(∀x∈l,x∈ks)->l.length<=18) :
 ∀(k i:Nat) (s:E3),items.size-i=k->i<=items.size->St i s->(∀b o,b∉S::wr->h0.get? b=some o->s.heap.get? b=some o)->
  mj P w s.heap S items ks i L->
  (∀s',Moved (S::wr) G s s'->mj P w s'.heap S items ks items.size L->R (.ok (.ret .none)) s')->
  Hh (F6 P w) A (.builtin "set.update.loop" ⟨[.ref S,.ref I],[]⟩) R s:=by
 have hSw:S∉wr:=fun h=>hSf (W.sub _ h)
 have hsub:∀b∈wr,b∈S::wr:=fun b hb=>FH _ hb
 have itw:∀(j:Nat) b,items[j]?=some (.ref b)->b∉S::wr:=fun j b e=>by
  obtain⟨b',k,e1,_,_,e2⟩:=hit j _ e
  cases e1;exact e2
 intro k
 induction k with
 |zero=>
  intro i s hk hi hst h0s hS hR
  have hin:i=items.size:=by omega
  subst hin
  refine Gf PyProof.Rows.F.entry_set_update_loop ?_
  rw[Gd PyProof.Rows.F.plain_set_update_loop _]
  show EX _ A.in1 (HP (.ref I) >>= _) _ _ s
  refine cc (W.done s _ _ hst fun s' hm=>?_)
  show EX _ A.in1 (ret Gu) _ _ s'
  exact E4 (hR s' (hm.mono hsub) (hS.kept (fun o e=>hm.heap S o hSw e) fun j b e o ho=>hm.heap b o (fun q=>itw j b e (hsub b q)) ho))
 |succ k ih=>
  intro i s hk hi hst h0s hS hR
  have hlt:i<items.size:=by omega
  refine Gf PyProof.Rows.F.entry_set_update_loop ?_
  rw[Gd PyProof.Rows.F.plain_set_update_loop _]
  show EX _ A.in1 (HP (.ref I) >>= _) _ _ s
  refine cc (W.item i s _ _ hlt hst fun v s' hP hst' hm=>?_)
  obtain⟨b,x,rfl,ek,hpk,hbw⟩:=hit i v hP
  have hS':=hS.kept (h':=s'.heap) (fun o e=>hm.heap S o hSw e) fun j b e o ho=>hm.heap b o (fun q=>itw j b e (hsub b q)) ho
  have h0s':∀b o,b∉S::wr->h0.get? b=some o->s'.heap.get? b=some o:=fun b o hb e=>hm.heap b o (fun q=>hb (hsub b q)) (h0s b o hb e)
  have pk':Pk P w s'.heap x b:=vC hpk fun o e=>h0s' b o hbw e
  show EX _ A.in1 (holding [FZ b] (setAdd S (.ref b)) >>= _) _ _ s'
  refine cc (FX ?_)
  unfold setAdd
  refine FX ?_
  refine cc (wpAny_pyHash_tuple hu pk' ?_)
  obtain⟨o,es,ep,t,xs,SS,l,m,src⟩:=hS'
  refine uX (s:={ s' with toks:=s'.toks+([x.1,x.2].length+1) }) SS hu pk' (fun nm=>?_) fun r h' o' es' ep' t' xs' sb SS' l' hx=>?_
  ·have:=hroom (x::xs.map (·.1)) (Hu.mpr ⟨nm,SS.E.nd⟩) fun y hy=>by
    rcases FN.mp hy with q|q
    ·rw[q];exact EZ ek
    ·exact List.mem_of_mem_take ((m y).mp q)
   rw[Fi,E6]at this
   exact this
  have hSi:mj P w h' S items ks (i+1) L:=by
   have tk:∀y,y∈ks.take (i+1)↔y∈ks.take i\/y=x:=fun y=>by
    rw[List.take_add_one,ek,Fl];simp
   refine⟨o',es',ep',t',xs',SS',l'.trans l,fun y=>?_,fun y hy=>?_⟩
   ·rw[tk y,<-m y]
    rcases hx with⟨hx,rfl⟩|⟨hx,px⟩
    ·exact⟨.inl,fun q=>q.elim id fun e=>by rw[e];exact hx⟩
    ·rw[(px.map (·.1)).mem_iff,EW,FN]
     exact⟨fun q=>q.elim .inr .inl,fun q=>q.elim .inr .inl⟩
   ·rcases hx with⟨hx,rfl⟩|⟨hx,px⟩
    ·exact src y hy
    ·rcases FN.mp (px.mem_iff.mp hy)with q|q
     ·rw[q];exact⟨i,hP,ek⟩
     ·exact src y q
  refine E4 ⟨GN PyProof.Rows.F.plain_set_update_loop _,ih (i+1) _ (by omega) hlt (W.frame _ s' _ _ hst' (Nat.le_add_right _ _) fun b hb o e=>?_) (fun b o hb e=>?_) hSi fun s'' hm'' hS''=>?_⟩
  ·rw[sb.2 b (fun h:b=S=>hSf (by rw[<-h];exact hb))];exact e
  ·show h'.get? b=some o
   rw[sb.2 b (fun h:b=S=>hb (by rw[h];exact G9))];exact h0s' b o hb e
  ·refine hR s'' (Moved.trans W.gtrans ((hm.mono hsub).then_heap (Nat.le_add_right _ _) fun b o hb e=>?_) hm'') hS''
   rw[sb.2 b (fun h:b=S=>hb (by rw[h];exact G9))];exact e
end
open PySem PySem.SetTable PyProof.Rows PySem.F
section
variable{P:F8}{w:Fy}{A:FK}{E:E1->E3->Prop}{s:E3}
abbrev fL(w:Fy):Bool:=!w.params.followText "set-order"
theorem nY(a:E1){Q₁:E1->E3->Prop}
 (h:Q₁ (.ref s.heap.objs.size) { s with heap:=s.heap.push { cls:=.type "set",dict:=none,data:=.set #[] 0 (.fresh 0 0 (fL w)) } }) :
 Hh (F6 P w) A (.call (.builtin "set.__new__") ⟨[.type "set",a],[]⟩) (wants Q₁ E) s:=by
 refine codeAny_of_tree ?_
 show EX _ A.in1 (do checkBuiltinCall "set.__new__" ⟨[.type "set",a],[]⟩;again (.builtin "set.__new__" ⟨[.type "set",a],[]⟩)) _ _ s
 refine cc (wpAny_of_eq (F.newCall_set_1 a) (E4 ⟨GN F.plain_set_new _,Gf F.entry_set_new ?_⟩))
 rw[Gd F.plain_set_new _]
 unfold GQ.«set.__new__» Builtin.Frozenset.newClass
 have hsub:=sub_set_self
 obtain⟨hp,g,d,tk,os⟩:=s
 dsimp only
 wp_walk
 refine wpAny_askSetting (E4 ?_)
 dsimp only
 simp only[newObj]
 refine cc (wpAny_alloc (E4 ?_))
 exact E4 h
theorem tE{l:Addr}{items:Array E1}{ks:List (Int×Int)}{Q:E1->E3->Prop}
 (hh:A.handled=none) (hu:A.units+8<G0) (hl:s.heap.IsList l items)
 (hit:∀(i:Nat) v,items[i]?=some v->∃b k,v=.ref b/\ks[i]?=some k/\Pk P w s.heap k b)
 (hroom:∀l:List (Int×Int),l.Nodup->(∀x∈l,x∈ks)->l.length<=18)
 (h:∀(h':Heap) (tk:Nat),mj P w h' s.heap.objs.size items ks items.size (fL w)->
  (∀b o,b<s.heap.objs.size->s.heap.get? b=some o->h'.get? b=some o)->Q (.ref s.heap.objs.size) { s with heap:=h',toks:=tk }) :
 EX (F6 P w) A (call (.type "set") [.ref l]) Q E s:=by
 obtain⟨c,tl,hmro⟩:=F.called_set.mro
 have hmade:=F.called_set.made
 have hsub:=F.called_set.sub
 refine wpAny_call (codeAny_of_tree ?_)
 show EX _ _ (callAny (.type "set") _) _ _ _
 refine E4 ⟨Code.quiet_builtin _ (by decide +kernel),Gf F.entry_type_call ?_⟩
 rw[Around.under_plain (weight_type_call_type "set" [.ref l] []) rfl]
 have h1:=F.called_set.notType
 have h2:=F.called_set.canCreate
 have hct:=F.typeCall_set_1 (.ref l)
 repeat (any_goals (first|assumption|wp_step))
 refine Ic (nY (.ref l) (E:=E) (Q₁:=fun obj s₁=>obj=.ref s.heap.objs.size/\s₁={ s with heap:=s.heap.push { cls:=.type "set",dict:=none,data:=.set #[] 0 (.fresh 0 0 (fL w)) } }) ⟨rfl,rfl⟩) fun r s₁ hr=>?_
 cases r with
 |error e=>exact hr
 |ok fl=>
  cases fl with
  |ret obj=>
   obtain⟨rfl,rfl⟩:=hr
   have hS:(s.heap.push { cls:=.type "set",dict:=none,data:=.set #[] 0 (.fresh 0 0 (fL w)) }).get? s.heap.objs.size=some { cls:=.type "set",dict:=none,data:=.set #[] 0 (.fresh 0 0 (fL w)) }:=EY _ rfl
   have hT:Shared.TypeIs { s with heap:=s.heap.push { cls:=.type "set",dict:=none,data:=.set #[] 0 (.fresh 0 0 (fL w)) } } (.ref s.heap.objs.size) "set":=⟨_,hS,rfl⟩
   have hli:=F.called_set.init.lookup
   have hbi:=F.called_set.init.bind (.ref s.heap.objs.size)
   repeat (any_goals (first|assumption|wp_step))
   refine Ic (codeAny_call_builtin (R:=wants (fun r s₂=>r=.none/\∃h' tk,s₂={ s with heap:=h',toks:=tk }/\
    mj P w h' s.heap.objs.size items ks items.size (fL w)/\
    (∀b o,b<s.heap.objs.size->s.heap.get? b=some o->h'.get? b=some o)) E) F.called_set.init.plain F.entry_set_init (check_set_init_1 hT ?_)) fun r₂ s₂ hr₂=>?_
   ·obtain⟨ol,hol,hcl,nl,hdl⟩:=hl
    obtain⟨ocls,odict,odata,oslots⟩:=ol
    simp only at hcl hdl
    subst hcl;subst hdl
    have hol':(s.heap.push { cls:=.type "set",dict:=none,data:=.set #[] 0 (.fresh 0 0 (fL w)) }).get? l=some { cls:=.type "list",dict:=odict,data:=.seq items nl,slots:=oslots }:=E5 _ hol
    have hsls:=F.sub_list_set
    have hslf:=F.sub_list_frozenset
    have hne:(Ht "list"==Ht "dict")=false:=by decide
    have hl1:(s.heap.push { cls:=.type "set",dict:=none,data:=.set #[] 0 (.fresh 0 0 (fL w)) }).IsList l items:=⟨_,hol',rfl,nl,rfl⟩
    unfold GQ.«set.__init__» noKeywords Builtin.Frozenset.updateFrom
    generalize hPI:pyIter=PI
    wp_walk
    subst hPI
    refine wpAny_pyIter_list hl1 ?_
    refine cc (wpAny_runValue ?_)
    have hlS:l<s.heap.objs.size:=F9 hol
    have hh3:A.in1.in1.in1.handled=none:=by simp[hh]
    have hneI:l≠(s.heap.push { cls:=.type "set",dict:=none,data:=.set #[] 0 (.fresh 0 0 (fL w)) }).objs.size:=by
     rw[Gj];exact Fs (Hq hlS)
    have hSf:s.heap.objs.size∉[(s.heap.push { cls:=.type "set",dict:=none,data:=.set #[] 0 (.fresh 0 0 (fL w)) }).objs.size,l]:=by
     rw[Gj];simp only[FN,List.mem_singleton,List.not_mem_nil,or_false,not_or]
     exact⟨Fs (Nat.lt_succ_self _),Nat.ne_of_gt hlS⟩
    refine l9 (h0:=s.heap) (ks:=ks) (L:=fL w) ((Walks.list hh3 _ l hneI items).toS) s.heap.objs.size
     hSf ?hu0 ?hit hroom (items.size-0) 0 _ (by omega) (FQ _)
     ⟨⟨_,EY _ rfl,rfl,rfl⟩,(hl1.push _)⟩ ?h0 ?hS0 ?hR
    case hu0=>simp only[Around.in1];omega
    case hit=>
     intro i v hv
     obtain⟨b,k,e1,e2,e3⟩:=hit i v hv
     refine⟨b,k,e1,e2,e3,?_⟩
     obtain⟨ob,itb,nb,hob,_⟩:=e3
     have lb:=F9 hob
     rw[Gj];simp only[FN,List.mem_singleton,List.not_mem_nil,or_false,not_or]
     exact⟨Fs lb,Fs (Hq lb)⟩
    case h0=>exact fun b o hb e=>E5 _ (E5 _ e)
    case hS0=>
     have hget:((s.heap.push { cls:=.type "set",dict:=none,data:=.set #[] 0 (.fresh 0 0 (fL w)) }).push { cls:=.type "list_iterator",data:=.fields #[.ref l,.int 0 0] }).get? s.heap.objs.size
      = some { cls:=.type "set",dict:=none,data:=.set #[] 0 (.fresh 0 0 (fL w)) }:=E5 _ hS
     exact oP hget
    case hR=>
     intro s' hm hS'
     obtain⟨h',g',d',tk',os'⟩:=s'
     have eg:g'=s.gens:=hm.gens
     have ed:d'=s.drawn:=hm.drawn
     have eo:os'=s.os:=hm.os
     subst eg;subst ed;subst eo
     show EX _ _ _ _ _ _
     refine E4 ?_
     show EX _ _ (ret Gu) _ _ _
     refine E4 ⟨rfl,h',tk',rfl,hS',fun b o hb e=>?_⟩
     have hb1:b≠s.heap.objs.size:=Fs hb
     have hb2:b≠(s.heap.push { cls:=.type "set",dict:=none,data:=.set #[] 0 (.fresh 0 0 (fL w)) }).objs.size:=by
      rw[Gj];exact Fs (Hq hb)
     exact hm.heap b o (by simp only[FN,List.mem_singleton,List.not_mem_nil,or_false,not_or];exact⟨hb1,hb2⟩) (E5 _ (E5 _ e))
   ·cases r₂ with
    |error e=>exact hr₂
    |ok fl₂=>
     cases fl₂ with
     |ret r=>
      obtain⟨rfl,h',tk,rfl,hS',hk'⟩:=hr₂
      repeat (any_goals (first|assumption|wp_step))
      exact h _ _ hS' hk'
     |_=>exact hr₂.elim
  |_=>exact hr.elim
end
section
variable{prog:F8}{w:Fy}{A:FK}{E:E1->E3->Prop}{s:E3}{T:String}{r d:Addr}{n:Nat}{P:Nat->E1->Prop}{OK:Heap->Prop}
theorem xh{Q:List E1->E3->Prop}(K:PySem.W.KdlSrc prog w T r d n P OK)(hh:A.handled=none)(hok:OK s.heap)(hn:n<=Fb)
 (h:∀h' tk (acc:Array E1),(∀b o,s.heap.get? b=some o->h'.get? b=some o)->s.heap.objs.size<h'.objs.size->ItemsOf P acc n->Q acc.toList { s with heap:=h',toks:=tk }):EX (F6 prog w) A (collect (.ref r)) Q E s:=by
 unfold collect
 refine cc (wpAny_runValue (Gf entry_proto_collect' ?_))
 show EX _ _ (do again (.builtin "list.__iadd__" ⟨[<-newList [],.ref r],[]⟩)) _ _ s
 refine cc (wpAny_newList (E4 ⟨Code.quiet_builtin _ (by decide +kernel),Gf entry_list_iadd' ?_⟩))
 show EX _ _ (Builtin.List.listExtendWith (.ref s.heap.objs.size) (.ref r) (.ref s.heap.objs.size)) _ _ { s with heap:=s.heap.push (seqObj "list" #[] 0) }
 have hlt:=K.there _ hok
 have hS0:(s.heap.push (seqObj "list" #[] 0)).get? s.heap.objs.size=some { cls:=.type "list",data:=.seq #[] 0 }:=EY _ rfl
 rw[Around.under_plain rfl rfl]
 refine F7 (PySem.W.kdl_extend (s:={ s with heap:=s.heap.push (seqObj "list" #[] 0) }) (R:=fun r s'=>r=.ok (.ret (.ref s.heap.objs.size))/\EX (F6 prog w) A (do
  let o <-load s.heap.objs.size
  match o.data with
  |.seq xs _=>pure xs.toList
  |_=>unsupported "internal:collect") Q E s') K hh (K.keep _ _ hok fun b _ o e=>E5 _ e) s.heap.objs.size (Nat.ne_of_gt hlt.1) (Nat.ne_of_gt hlt.2) (.ref s.heap.objs.size) 0 hS0 (fun h' tk acc c hk hS it=>⟨rfl,?_⟩) hn) (fun fin s' z=>?_) (fun e s' z=>by cases z.1)
 ·exact cc (wpAny_load hS (E4 (h h' tk acc (fun b o e=>hk b o (Fs (F9 e)) (E5 _ e)) (F9 hS) it)))
 ·cases fin with
  |done f=>
   obtain⟨z1,z2⟩:=z
   cases z1
   exact z2
  |again c'=>exact⟨z.1,Ic z.2 fun r s2 y=>by obtain⟨y1,y2⟩:=y;subst y1;exact y2⟩
theorem sortedS{vs:List E1}{k:Nat->Int}{κ:SortKind}{Q:E1->E3->Prop}(K:PySem.W.KdlSrc prog w T r d n P OK)(hh:A.handled=none)(hok:OK s.heap)(hn:n<=Fb)(hvs:∀acc,ItemsOf P acc n->acc.toList=vs)(h64:vs.length<64)(hinj:Inj vs.length k)
 (hk:∀(h':Heap) (tk:Nat),(∀b o,s.heap.get? b=some o->h'.get? b=some o)->2<=vs.length->∀(R:SortKind->E3->Prop) (E':E1->E3->Prop),R κ { s with heap:=h',toks:=tk }->EX (F6 prog w) A.in1.in1 (keyKind' vs.toArray) R E' { s with heap:=h',toks:=tk })
 (hc:∀(h':Heap) (tk:Nat),(∀b o,s.heap.get? b=some o->h'.get? b=some o)->∀i j (C:Bool->E3->Prop),i<vs.length->j<vs.length->C (decide (k i<k j)) { s with heap:=h',toks:=tk }->PySem.W.kas_ask prog w A.in1.in1 κ vs i j C { s with heap:=h',toks:=tk })
 (h:∀(h':Heap) (tk:Nat) (l:Addr) (e:Nat) p,(∀b o,s.heap.get? b=some o->h'.get? b=some o)->s.heap.objs.size<=l->h'.get? l=some (seqObj "list" (dO vs p) e)->Pmu vs.length p->Up k p vs.length->Q (.ref l) { s with heap:=h',toks:=tk }):EX (F6 prog w) A (call (.builtin "sorted") [.ref r]) Q E s:=by
 refine Calls.call_function_entry kind_sorted plain_sorted entry_sorted (args_sorted1 _) ?_
 unfold GQ.«sorted»
 refine cc (m:=checkCount "sorted" 1 1 _) (E4 (cc (xh K hh hok hn fun h1 tk acc kp lt it=>?_)))
 rw[hvs acc it]
 refine cc (wpAny_newList ?_ (by rw[Ib];omega))
 have at1:(h1.push (seqObj "list" vs.toArray 0)).get? h1.objs.size=some (seqObj "list" vs.toArray 0):=EY _ rfl
 show EX _ _ _ _ _ { s with heap:=h1.push (seqObj "list" vs.toArray 0),toks:=tk }
 have k2:∀b o,s.heap.get? b=some o->(ko (h1.push (seqObj "list" vs.toArray 0)) h1.objs.size vs).get? b=some o:=fun b o q=>
  tQ (Fs (F9 (kp b o q))) (E5 _ (kp b o q))
 refine cc (FX (Gy PyProof.Rows.slot_list_sort ⟨_,at1,rfl⟩ PyProof.Rows.entry_list_sort (u5 (s:={ s with heap:=h1.push (seqObj "list" vs.toArray 0),toks:=tk }) at1 h64 hinj (hk _ tk k2) (hc _ tk k2) fun p hp hu=>⟨_,rfl,E4 ⟨_,rfl,?_⟩⟩) (args_list_sort _)))
 obtain⟨e,he⟩:=sortedHeap_at (out:=dO vs p) at1
 refine h _ tk h1.objs.size e p (fun b o q=>?_) (Nat.le_of_lt lt) he hp hu
 have lb:=F9 (kp b o q)
 rw[sortedHeap_old (Fs lb) (by rw[size_push'];exact Hq lb)]
 exact E5 _ (kp b o q)
end
theorem kL{α β:Type}{f:α->β}{l m:List β}(p:l.Perm m):∀xs:List α,m=xs.map f->∃ys:List α,ys.Perm xs/\l=ys.map f:=by
 induction p with
 |nil=>intro xs e;exact⟨xs,.rfl,e⟩
 |cons x _ ih=>
  intro xs e
  cases xs with
  |nil=>cases e
  |cons y xs=>
   rw[EW]at e
   injection e with e1 e2
   obtain⟨ys,p,e3⟩:=ih xs e2
   exact⟨y::ys,p.cons y,by rw[EW,e1,e3]⟩
 |swap x y l=>
  intro xs e
  match xs,e with
  |a::b::xs,e=>
   rw[EW,EW]at e
   injection e with e1 e2
   injection e2 with e2 e3
   exact⟨b::a::xs,.swap a b xs,by rw[EW,EW,e1,e2,e3]⟩
 |trans _ _ ih1 ih2=>
  intro xs e
  obtain⟨ys,p,e1⟩:=ih2 xs e
  obtain⟨zs,q,e2⟩:=ih1 ys e1
  exact⟨zs,q.trans p,e2⟩
def wL(P:F8)(w:Fy)(a:Addr)(xs:List PrE):Heap->Prop:=fun h=>∃o es ep t,RawS w h a o es ep t/\es.toList=xs.map (fg P w)/\xs.length<=18
section
variable{X:Cx}
abbrev PaT(K:E2)(H:Hp)(x:PrE):Prop:=SqT K H x.2 [.int x.1.1,.int x.1.2]
theorem md{K:E2}{H:Hp}:∀{ys:List V} {us:List (Int×Int)} {its:List E1},Prs K H ys us->Vals ys its->∀(j:Nat) u,us[j]?=some u->∃a,its[j]?=some (.ref a)/\PaT K H (u,a)
 |[],[],_,_,_,j,u,e=>by simp at e
 |y::ys,v::us,_,h,.cons a r,j,u,e=>by
  cases j with
  |zero=>
   obtain⟨b,rfl,q⟩:=h.1
   cases a
   simp at e;subst e
   exact⟨b,rfl,q⟩
  |succ j=>simp only[List.getElem?_cons_succ]at e ⊢;exact md h.2 r j u e
 |[],_::_,_,h,_,_,_,_=>h.elim
 |_::_,[],_,h,_,_,_,_=>h.elim
theorem Ao{pins:List (Addr×Obj)}{σ:List (Option V)}{H:Hp}{s:E3}(I:Inv X pins σ H s){u:Int×Int}{b:Addr}(h:PaT X.K H (u,b)):Pk X.prog X.w s.heap u b:=by obtain⟨a,t1,t2,e,o,ho,hc,n,hd⟩:=oM (x:=.ref b) (v:=.ref b) I ⟨b,rfl,h⟩ rfl;cases e;exact⟨o,_,n,ho,hc,hd,.cons (intKind_is _ _ _ _) (.cons (intKind_is _ _ _ _) .nil)⟩
def oW(us:List (Int×Int)):Prop:=∀l:List (Int×Int),l.Nodup->(∀x∈l,x∈us)->l.length<=18
theorem tw(hc:X.calm=true)(hu:X.A.units+8<G0):bE X (.type "set") (fun vs H Q=>∃l ys us,vs=[.ref l]/\SqL X.K H l ys/\Prs X.K H ys us/\oW us/\∀(a:Addr) (xs:List PrE),H a=none->(xs.map (·.1)).Nodup->(∀k,k∈xs.map (·.1)↔k∈us)->(∀x∈xs,PaT X.K H x)->Q (.ref a) (upd H a (.ext (wL X.prog X.w a xs)))):=by
 intro pins s σ H vs us' Q I r ⟨l,ys,us,ev,hl,hp,hr,q⟩;subst ev;obtain⟨u,rfl,ru⟩:=vals1 r;cases ru;obtain⟨its,r1,p1,hz⟩:=I.list hl;have hlen:its.length=us.length:=by rw[<-r1.length,hp.len]
 refine tE (items:=its.toArray) (ks:=us) (I.ok.hd hc) hu p1.isList (fun i v hv=>?_) hr fun h' tk hS kp=>?_
 ·have hv:its[i]?=some v:=by simpa using hv
  have li:=(F0.mp hv).1;have eu:us[i]?=some us[i]:=E7 (by omega);obtain⟨a,e1,e2⟩:=md hp r1 i _ eu;rw[hv]at e1;cases e1;exact⟨a,_,rfl,eu,Ao I e2⟩
 ·obtain⟨o,es,ep,t,xs,S,hl',mm,src⟩:=hS
  have mm:∀x,x∈xs.map (·.1)↔x∈us:=fun x=>by
   have:=mm x
   rw[show its.toArray.size=us.length by simpa using hlen,List.take_length]at this
   exact this
  have pa:∀x∈xs,PaT X.K H x:=fun x hx=>by
   obtain⟨j,e1,e2⟩:=src x hx
   obtain⟨a,e3,e4⟩:=md hp r1 j _ e2
   have e1:its[j]?=some (.ref x.2):=by simpa using e1
   rw[e1]at e3;cases e3
   exact e4
  have R:RawS X.w h' s.heap.objs.size o es ep t:=⟨S.E.get,S.E.ex,S.E.data,S.E.ok.fits,S.E.pl,hl',S.E.ok.up,S.E.ok.sz⟩;refine⟨.ref s.heap.objs.size,_,I.laid (t':=tk) (fun b o e=>kp b o (F9 e) e) (E8 _) (show bz X.prog X.w _ h' _ (.ext (wL X.prog X.w s.heap.objs.size xs))from⟨⟨o,es,ep,t,R,S.E.ents,by rw[<-S.E.len];exact S.hi⟩,⟨o,R.get⟩,fun h1 h2 x y=>?_⟩),rfl,q _ _ (I.hok.fresh (E8 _)) S.E.nd mm pa⟩;obtain⟨o,es,ep,t,R,z⟩:=x;exact⟨o,es,ep,t,R.kept y,z⟩
theorem qO:∀xs:List PrE,Vals (xs.map fun x=>V.ref x.2) (xs.map fun x=>FZ x.2)
 |[]=>.nil
 |x::xs=>.cons rfl (qO xs)
theorem uJ{K:E2}{H:Hp}:∀xs:List PrE,(∀x∈xs,PaT K H x)->Prs K H (xs.map fun x=>V.ref x.2) (xs.map (·.1))
 |[],_=>trivial
 |x::xs,h=>⟨⟨_,rfl,h x G9⟩,uJ xs fun y hy=>h y (FH _ hy)⟩
theorem mL(hc:X.calm=true):bE X (.builtin "sorted") (fun vs H Q=>∃p xs,vs=[.ref p]/\H p=some (.ext (wL X.prog X.w p xs))/\(∀x∈xs,PaT X.K H x)/\(xs.map (·.1)).Nodup/\(∀u∈xs.map (·.1),0<=u.2/\u.2<100)/\∀(l:Addr) π (zs:List PrE),H l=none->zs.Perm xs->Pmu (zs.map (·.1)).length π->Up (pky (zs.map (·.1))) π (zs.map (·.1)).length->Q (.ref l) (upd H l (.lst (π.toList.map fun i=>(zs.map fun x=>V.ref x.2).getD i .non)))):=by
 intro pins s σ H vs us' Q I r ⟨p,xs0,ev,hp,pa0,nd0,hb0,q⟩;subst ev;obtain⟨u,rfl,ru⟩:=vals1 r;cases ru;obtain⟨⟨o,es,ep,t,R,ee,h18⟩,_⟩:=I.hok p _ hp;obtain⟨xs,px,ew⟩:=kL (f:=fg X.prog X.w) (rP X.w p ep es) xs0 ee;have pa:∀x∈xs,PaT X.K H x:=fun x hx=>pa0 x (px.mem_iff.mp hx);have hb:Pb (xs.map (·.1)):=⟨by rw[(px.map (·.1)).length_eq,E6];omega,(px.map (·.1)).nodup_iff.mpr nd0,fun u hu=>hb0 u ((px.map (·.1)).mem_iff.mp hu)⟩;have hprs:=uJ xs pa;have rv:=qO xs;have tp:=vQ I hprs rv;have hz:es.size=xs.length:=by rw[<-iJ X.w p ep es,<-Fn,ew,E6]
 have hlen:(xs.map fun x=>FZ x.2).length=(xs.map (·.1)).length:=by rw[E6,E6]
 have h2:xs.length<=Fb:=by rw[px.length_eq,Ib];omega
 refine sortedS (k:=pky (xs.map (·.1))) (κ:=tuples' true) (vs:=xs.map fun x=>FZ x.2) (u7 (o:=o) (es:=es) (ep:=ep) (t:=t)) (I.ok.hd hc) R (by rw[hz];exact h2) (fun acc it=>?_) (by rw[hlen];exact hb.1) (by rw[hlen];exact hb.inj) (fun h' tk kp h2 R E' hr=>?_) (fun h' tk kp i j C hi hj hC=>?_) fun h' tk l e π kp hl he hπ hu=>?_
 ·apply List.ext_getElem?;intro i;by_cases hi:i<es.size
  ·have hi':i<acc.size:=by rw[it.1];exact hi
   obtain⟨e,e1,e2⟩:=it.2 i acc[i] (by simp[hi']);rw[<-Fp,ew,E9]at e1;obtain⟨x,ex,rfl⟩:=HC.mp e1;rw[E9,ex,Fp,Fd hi',e2];rfl
  ·have hi':¬i<acc.size:=by rw[it.1];exact hi
   rw[hz]at hi;rw[List.getElem?_eq_none (by rw[Fn];omega),List.getElem?_eq_none (by rw[E6];omega)]
 ·obtain⟨fs,k1,k2,k3⟩:=oo (h:=h') hlen fun i hi=>(tp i hi).kept kp;refine PySem.W.kat_kind (s:={ s with heap:=h',toks:=tk }) (T:=.type "int") k1 (by omega) (fun v hv=>?_) (by decide) hr;obtain⟨n,t,rfl⟩:=k3 v hv;exact PySem.W.Looks.now
 ·obtain⟨a,t1,t2,ea,ha⟩:=(tp i (by omega)).kept kp;obtain⟨b,t3,t4,eb,hb'⟩:=(tp j (by omega)).kept kp;unfold PySem.W.kas_ask;rw[ea,eb];exact xu (s:={ s with heap:=h',toks:=tk }) ha hb' (hb.2.2 _ (fX (by omega))) (hb.2.2 _ (fX (by omega))) hC
 ·rw[hlen]at hπ hu;refine⟨.ref l,_,I.laid (t':=tk) kp hl (show bz X.prog X.w _ _ _ (.lst _)from⟨?_,_,e,lp rv π.toList,he⟩),rfl,q _ π xs (I.hok.fresh hl) px hπ hu⟩;rw[E6,Fn,hπ.size,E6];exact h2
end
def DH(P:F8)(w:Fy)(us:List (Int×Int)):E2->Hp->Addr->Prop:=fun K H a=>∃xs:List PrE,H a=some (.ext (wL P w a xs))/\(xs.map (·.1)).Nodup/\(∀k,k∈xs.map (·.1)↔k∈us)/\∀x∈xs,PaT K H x
def setM(P:F8)(w:Fy)(us:List (Int×Int)):MO:=.gen (DH P w us)
def wB(M:MH)(a:Addr):MH:=fun b=>if b=a then none else M b
theorem Abs.out{K:E2}{H:Hp}{M:MH}(h:Abs K H M)(a:Addr):Abs K H (wB M a):=fun b o e=>by
 unfold wB at e;split at e
 ·cases e
 ·exact h b o e
theorem xN{M:MH}{a:Addr}{o:MO}(h:M a=none):wB (aw M a o) a=M:=by
 funext b
 unfold wB aw;by_cases e:b=a
 ·subst e;rw[if_pos rfl,h]
 ·rw[if_neg e,if_neg e]
theorem qM{K:E2}{H:Hp}:∀xs:List PrE,(∀x∈xs,PaT K H x)->aB K H ((xs.map (·.1)).map prD) (xs.map fun x=>V.ref x.2)
 |[],_=>aB.nil
 |x::xs,h=>by
  rw[EW,EW,EW]
  refine aB.cons ?_ (qM xs fun y hy=>h y (FH _ hy))
  unfold prD
  rw[Rep]
  exact⟨x.2,_,rfl,h x G9,aB.cons (by rw[Rep]) (aB.cons (by rw[Rep]) aB.nil)⟩
section
variable{X:Cx}
def zR(X:Cx):RC:=fun ds M Q=>match ds with
 |[.ref l]=>∃us:List (Int×Int),M l=some (.lst (us.map prD))/\oW us/\∀z:Addr,M z=none->Q (.ref z) (aw M z (setM X.prog X.w us))
 |_=>False
theorem xA(hc:X.calm=true)(hu:X.A.units+8<G0):cI X (.type "set") (zR X):=br (tw hc hu) fun vs H Q ⟨ds,M,R,rs,a,q,fin⟩=>by
 unfold zR at q;split at q
 ·obtain⟨us,e,hr,q⟩:=q;obtain⟨v,rfl,r⟩:=bL rs;rw[Rep]at r;subst r;obtain⟨ys,hx,rx⟩:=a _ _ e;refine⟨_,ys,us,rfl,SqL.of hx,wy rx,hr,fun z xs hz nd mm pa=>fin (.ref z) _ _ _ (.new hz) (by rw[Rep]) (fun b u eb=>?_) (q z (a.fresh hz))⟩;by_cases ne:b=z
  ·subst ne;rw[aj]at eb;cases eb;have g:Grow X.K H (upd H b (.ext (wL X.prog X.w b xs))):=.new hz;refine⟨⟨xs,aM,nd,mm,fun x hx=>g.t _ _ (pa x hx)⟩,by rw[aM];simp,fun H' g' e'=>⟨xs,e'.trans aM,nd,mm,fun x hx=>g'.t _ _ (g.t _ _ (pa x hx))⟩⟩
  ·rw[ar ne]at eb;exact(a b u eb).fW (.new hz) (aK ne)
 ·exact q.elim
def Sml(us:List (Int×Int)):Prop:=∀u∈us,0<=u.2/\u.2<100
def pY(X:Cx):RC:=fun ds M Q=>match ds with
 |[.ref l]=>∃us:List (Int×Int),M l=some (setM X.prog X.w us)/\Sml us/\∀(z:Addr) (us':List (Int×Int)),M z=none->(∀k,k∈us'↔k∈us)->us'.Pairwise plt->Q (.ref z) (aw (wB M l) z (.lst (us'.map prD)))
 |_=>False
theorem wm(hc:X.calm=true):cI X (.builtin "sorted") (pY X):=br (mL hc) fun vs H Q ⟨ds,M,R,rs,a,q,fin⟩=>by
 unfold pY at q;split at q
 ·rename_i l;obtain⟨us,e,hb,q⟩:=q;obtain⟨v,rfl,r⟩:=bL rs;rw[Rep]at r;subst r;obtain⟨xs,hx,nd,mm,pa⟩:=(show DH X.prog X.w us X.K H l from(a _ _ e).1);refine⟨_,xs,rfl,hx,pa,nd,fun u hu=>hb u ((mm u).mp hu),fun z π zs hz pz hπ hu=>?_⟩
  ·have rx:=qM zs fun x hx=>pa x (pz.mem_iff.mp hx);refine fin (.ref z) _ _ _ (.new hz) (by rw[Rep]) ((a.out l).mi hz (lL rx π.toList fun i hi=>?_)) ?_
   ·have:i∈π:=by simpa using hi
    have:=hπ.perm.mem_iff.mp this;simpa using this
   ·rw[wH hπ];exact q z _ (a.fresh hz) (fun k=>by rw[(rX hπ).mem_iff,(pz.map (·.1)).mem_iff];exact mm k) (xG hπ hu)
 ·exact q.elim
def vz(t:TD):TD:=fun δ M Q=>t δ M fun x M1=>∃l us,x=.ref l/\M1 l=some (.lst (us.map prD))/\oW us/\Sml us/\∀(z:Addr) (us':List (Int×Int)),M1 z=none->(∀k,k∈us'↔k∈us)->us'.Pairwise plt->Q (.ref z) (aw M1 z (.lst (us'.map prD)))
variable{e:Expr}{t:TD}{p1 p2 pos1 pos2:Pos}
theorem Ax:G5 "set"=some (.type "set"):=by rfl
theorem pO(hc:X.calm=true)(hu:X.A.units+66<G0)(g1:Gl X "sorted")(m1:X.mg "sorted"=none)(g2:Gl X "set")(m2:X.mg "set"=none)(he:DE X e t)(hs:Fc [e] X.env=(false,eval e X.env)::Fc [] X.env:=by rfl)(hs2:Fc [.Call (.Name "set" p2) [e] [] pos2] X.env=(false,eval (.Call (.Name "set" p2) [e] [] pos2) X.env)::Fc [] X.env:=by rfl) : DE X (.Call (.Name "sorted" p1) [.Call (.Name "set" p2) [e] [] pos2] [] pos1) (vz t):=by
 refine aP (nC (wm hc) g1 m1 tD (lV (kP (xA hc (by omega)) g2 m2 Ax (lV he qr hs) (he:=hs)) qr hs2) (he:=hs2)) fun σ H Q zz1_0=>?_;obtain⟨δ,M,R,h1,h2,h3,h4⟩:=zz1_0;refine⟨δ,M,_,h1,h2,h3,fun x M1 v H1 gr r a zz2_0=>?_⟩;obtain⟨l,us,ex,el,hr,hb,q⟩:=zz2_0;subst ex;refine⟨[.ref l],M1,fun d M'=>pY X [d] M' R,aB.cons r aB.nil,a,⟨us,el,hr,fun z hz=>⟨us,aj,hb,fun z' us' hz' hm hp=>?_⟩⟩,fun d M' v' H' g' r' a' r1=>⟨[d],M',R,aB.cons r' aB.nil,a',r1,h4.go (gr.trans g')⟩⟩;rw[xN hz];refine q z' us' ?_ hm hp;unfold aw at hz';split at hz'
 ·cases hz'
 ·exact hz'
end
end SD
namespace HT
open PySem PyProof.Rows
section
open PySem.SeqAt
open PySem.AutoSeq1 (wpAny_loadPart')
open PySem.MeetsSeq PySem.MeetsSeq2 PySem.MeetsSeq3 PySem.SeqRoads2
theorem oF(l:Addr)(items:Array E1)(n:Nat)(dd:Option Addr)(sl:Array (Option E1))(x:E1)(upto:Int)(j:Nat)(hj:j<items.size)(hupto:(j:Int)<upto)(k:Nat) :
 ∀i:Nat,j-i=k->i<=j->Meets (GQ.«list.index.loop» ⟨[.ref l,x,Hf i,Hf upto],[]⟩)
  (fun A R s=>s.heap.get? l=some { cls:=.type "list",dict:=dd,data:=.seq items n,slots:=sl }/\(∀(i:Nat) (hi:i<items.size),i<=j->EqAt A.in1 s items[i] x (decide (i=j)))/\R (.ok (.ret (.int j s.toks))) { s with toks:=s.toks+1 }):=by
 induction k with
 |zero=>
  intro i hk hij prog w A R s h
  obtain⟨hp,g,d,tk,os⟩:=s;obtain⟨hl,he,h⟩:=h
  have hij':i=j:=by omega
  subst hij'
  wp_walk using FF hl
  have hi:(if(i:Int)<upto then items[((i:Nat):Int).toNat]? else none)=some items[i]:=by simp[hupto,hj]
  rw[hi]
  refine cc (he i hj (E8 _) prog w _ _ ?_)
  rw[decide_eq_true rfl]
  wp_walk
  exact h
 |succ k ih=>
  intro i hk hij prog w A R s h
  obtain⟨hp,g,d,tk,os⟩:=s;obtain⟨hl,he,h⟩:=h
  have hlt:i<items.size:=by omega
  have hst:(i:Int)<upto:=by omega
  wp_walk using FF hl
  have hi:(if(i:Int)<upto then items[((i:Nat):Int).toNat]? else none)=some items[i]:=by simp[hst,hlt]
  have hc:((i:Int)+1)=((i+1:Nat):Int):=by push_cast;rfl
  rw[hi]
  refine cc (he i hlt hij prog w _ _ ?_)
  rw[decide_eq_false (show ¬i=j by omega)]
  wp_walk
  rw[hc]
  exact⟨GN plain_index_loop _,Gf entry_index_loop (by
   rw[Gd plain_index_loop _]
   exact ih (i+1) (by omega) (by omega) prog w A R _ ⟨hl,he,h⟩)⟩
theorem n8(l:Addr)(items:Array E1)(n:Nat)(dd:Option Addr)(sl:Array (Option E1))(x:E1)(j:Nat)(hj:j<items.size)(hsmall:(j:Int)<2^63-1) :
 Meets (GQ.«list.index» ⟨[.ref l,x],[]⟩)
  (fun A R s=>s.heap.get? l=some { cls:=.type "list",dict:=dd,data:=.seq items n,slots:=sl }/\(∀(i:Nat) (hi:i<items.size),i<=j->EqAt A.in1 s items[i] x (decide (i=j)))/\R (.ok (.ret (.int j s.toks))) { s with toks:=s.toks+1 }):=by
 intro prog w A R s h
 obtain⟨hp,g,d,tk,os⟩:=s;obtain⟨hl,he,h⟩:=h
 wp_walk using FF hl
 have a1:((fun i:Int=>if i<0 then max 0 (i+(items.size:Int))else i) ((none:Option Int).getD 0))=((0:Nat):Int):=by simp
 have a2:((fun i:Int=>if i<0 then max 0 (i+(items.size:Int))else i) ((none:Option Int).getD (2^63-1)))=2^63-1:=by simp
 rw[a1,a2]
 exact⟨GN plain_index_loop _,Gf entry_index_loop (by
  rw[Gd plain_index_loop _]
  exact oF l items n dd sl x (2^63-1) j hj hsmall _ 0 rfl (FQ _) prog w A R _ ⟨hl,he,h⟩)⟩
end
end HT
namespace SD
open PySem PySem.Spec PyProof.Rows L2
section
variable{X:Cx}
def DY(to:TD)(t:TAD):TD:=fun δ M Q=>to δ M fun x M1=>∃l ys0,x=.ref l/\M1 l=some (.lst ys0)/\t δ M1 fun ds M2=>∃ys d p,∃j:Nat,ds=[d]/\M2 l=some (.lst ys)/\j<ys.length/\Pd M2 d p/\GD p=true/\
 (∀(i:Nat) (y:D),i<=j->ys[i]?=some y->∃q,Pd M2 y q/\Iq q=true/\FG q p=decide (i=j))/\Q (.int (j:Int)) M2
def Ek(K:E2):V->List V->Hp->VK->Prop:=fun x vs H Q=>∃a ys M v d p,∃j:Nat,x=.ref a/\vs=[v]/\Abs K H M/\M a=some (.lst ys)/\Rep K H d v/\j<ys.length/\Pd M d p/\GD p=true/\
 (∀(i:Nat) (y:D),i<=j->ys[i]?=some y->∃q,Pd M y q/\Iq q=true/\FG q p=decide (i=j))/\Q (.int (j:Int)) H
theorem AF(hu:X.A.units+66<G0):MtR X "list.index" (Ek X.K):=by
 intro pins s σ H x vs v us Q I rx rv z0;obtain⟨a,ys,M,v1,d,p,j,ex,ev,hM,hx,hd,hj,pd,hsh,hall,q⟩:=z0;subst ex ev;cases rx;obtain⟨u1,rfl,r1⟩:=rv.one;obtain⟨xs,hq,rs⟩:=hM _ _ hx;obtain⟨its,rvs,p1,hz⟩:=I.list (SqL.of hq);obtain⟨o,h1,h2,n,h3⟩:=p1.isList;obtain⟨as,q1⟩:=aV I hM pd hd r1;have hlen:its.length=ys.length:=by rw[<-rvs.length,rs.length]
 obtain⟨oc,od,odt,osl⟩:=o;cases h2;cases h3
 have hs:(j:Int)<2^63-1:=by
  rw[Ib]at hz
  have:=rs.length
  omega
 refine call_meets PySem.F.slot_list_index ⟨_,h1,rfl⟩ PySem.F.entry_list_index (PySem.F.args_list_index_2 _ _) (HT.n8 a its.toArray n od osl u1 j (by simpa[hlen]using hj) hs) ⟨h1,fun i hi hij=>?_,?_⟩
 ·have hi':i<ys.length:=by simpa[hlen]using hi
  obtain⟨pq,g1,g2,g3⟩:=hall i ys[i] hij (E7 hi');obtain⟨x1,e1,rx1⟩:=rs.get (E7 hi');obtain⟨u2,e2,ru2⟩:=rvs.get e1;obtain⟨bs,q2⟩:=aV I hM g1 rx1 ru2
  have e3:its.toArray[i]=u2:=by
   have:=F0.mp e2
   obtain⟨_,e⟩:=this
   simpa using e
  rw[e3,<-g3];have hm:min pq.depth p.depth<=63+1:=Gp (Nat.min_le_right _ _) (SeqAt.depth_of_shaped hsh);exact PySem.SeqAt.eqAt_reads _ _ _ _ _ _ _ _ q2 q1 g2 (Ha hsh) (by show X.A.units+1+_<G0;omega)
 ·exact⟨.int _,H,I.tok _,⟨_,rfl⟩,q⟩
variable{o e1:Expr}{to:TD}{t:TAD}{apos cpos:Pos}
theorem jo(hu:X.A.units+66<G0)(ho:DE X o to)(ha:DA X [e1] t)
 (hbase:Ik o "index" X.env (eval o X.env)=eval o X.env:=by rfl)
 (hfew:((GK cpos (Fc [e1] X.env)).all (fun x=>!x.1)&&(backToKw cpos (HE [] X.env)).all (fun x=>x.1.isSome)
  && decide ([e1].length+([]:List Iw).length+(if([]:List Iw).isEmpty then 0 else 1)<30))=true:=by rfl)
 (hline:(apos.endLine==cpos.line)=true:=by rfl) (hs:Fc [e1] X.env=(false,eval e1 X.env)::Fc [] X.env:=by rfl) (hplain:(GK cpos (Fc [] X.env)).any (·.1)=false:=by rfl) :
 DE X (.Call (.Attribute o "index" apos) [e1] [] cpos) (DY to t):=
 aP (wO PySem.F.plainAttrs_list PySem.F.slot_list_index PySem.F.type_list_index (AF hu) ho ha hbase hfew hline hs hplain) fun σ H Q z9=>by
  obtain⟨δ,M,R,hsl,hM,q,fin⟩:=z9
  refine⟨δ,M,_,hsl,hM,q,fun x M1 v H1 g1 r1 a1 zz1_0=>?_⟩
  obtain⟨l,ys0,ex,hl,q1⟩:=zz1_0
  subst ex
  rw[Rep]at r1
  subst r1
  obtain⟨vs,hvs,_⟩:=a1 _ _ hl
  refine⟨.inl ⟨rfl,vs,SqL.of hvs⟩,δ,M1,_,hsl.mono g1,a1,q1,fun ds M2 us H2 g2 r2 a2 zz2_0=>?_⟩
  obtain⟨ys,d,p,j,ed,hx,hj,pd,hsh,hall,q2⟩:=zz2_0
  subst ed
  obtain⟨u,rfl,ru⟩:=bL r2
  exact⟨l,ys,M2,u,d,p,j,rfl,rfl,a2,hx,ru,hj,pd,hsh,hall,fin _ _ _ _ (g1.trans g2) (by rw[Rep]) a2 q2⟩
end
theorem cS{m a b:Int}(hm:0<m)(h:m*a<m*b):a<b:=Int.lt_of_mul_lt_mul_left h (by omega)
theorem sa{w v:Wl}{k m:Int}(hw:l1 w<l2 w)(hv:l1 v<l2 v)(F:Fair w v)(k0:0<k)(k1:k<m)
 (z:(m-k)*sd1 v w+k*sd2 v w=0) (g1:m*l1 v<=l1 w*(m-k)+l2 w*k) (g2:l1 w*(m-k)+l2 w*k<=m*l2 v):False:=by
 have i1:=sM w v
 have i2:=rY w v
 have pr:=F.pr
 have f1:=F.e1.nz
 have f2:=F.e2.nz
 have ln:=pj (U:=v) (V:=w) hv hw F.swap
 generalize sd1 v w=a at *
 generalize sd2 v w=b at *
 generalize sd1 w v=c at *
 generalize sd2 w v=d at *
 generalize l1 w=p at *
 generalize l2 w=q at *
 generalize l1 v=r at *
 generalize l2 v=s at *
 have q1:m*p<p*(m-k)+q*k:=by
  have:=Fj k0 (show 0<q-p by omega)
  have e:p*(m-k)+q*k-m*p=k*(q-p):=by grind
  omega
 have q2:p*(m-k)+q*k<m*q:=by
  have:=Fj (show 0<m-k by omega) (show 0<q-p by omega)
  have e:m*q-(p*(m-k)+q*k)=(m-k)*(q-p):=by grind
  omega
 have j1:(m-k)*(c*(s-r))=b*(p*(m-k)+q*k-m*r):=by rw[i1];grind
 have j2:(m-k)*(d*(s-r))=b*(p*(m-k)+q*k-m*s):=by rw[i2];grind
 generalize p*(m-k)+q*k=L at *
 have hm:0<m:=by omega
 have mk:0<m-k:=by omega
 have sr:0<s-r:=by omega
 by_cases hb:b=0
 ·have ha:a=0:=by
   subst hb
   have:(m-k)*a=0:=by omega
   rcases He.mp this with h|h
   ·omega
   ·exact h
  refine ln ha hb (fR.mpr ⟨hv,cS hm (by omega),cS hm (by omega),hw⟩)
 have ab:(0<b/\a<0)\/(b<0/\0<a):=by
  rcases Int.lt_or_gt_of_ne hb with h|h
  ·right
   have:=Fx k0 h
   exact⟨h,dY mk (by rw[Int.mul_comm];omega)⟩
  ·left
   have:=Fj k0 h
   exact⟨h,fP mk (by rw[Int.mul_comm];omega)⟩
 rcases pr with pr|pr
 ·have pr:=sgp pr
  by_cases e1:L=m*r
  ·have:c=0:=by
    rw[e1,Int.sub_self,Int.mul_zero]at j1
    rcases He.mp j1 with h|h
    ·omega
    ·rcases He.mp h with h|h
     ·exact h
     ·omega
   exact f1 (cS hm (by omega)) (cS hm (by omega)) this
  by_cases e2:L=m*s
  ·have:d=0:=by
    rw[e2,Int.sub_self,Int.mul_zero]at j2
    rcases He.mp j2 with h|h
    ·omega
    ·rcases He.mp h with h|h
     ·exact h
     ·omega
   exact f2 (cS hm (by omega)) (cS hm (by omega)) this
  have x1:0<L-m*r:=by omega
  have x2:L-m*s<0:=by omega
  have sg:∀{z:Int},0<(m-k)*(z*(s-r))->0<z:=fun{z} h=>dY sr (dY mk (by rw[Int.mul_comm];exact h))
  have sn:∀{z:Int},(m-k)*(z*(s-r))<0->z<0:=fun{z} h=>fP sr (fP mk (by rw[Int.mul_comm];exact h))
  rcases ab with⟨h,_⟩|⟨h,_⟩
  ·exact pr.1 ⟨sg (by rw[j1];exact Fj h x1),sn (by rw[j2];exact Fx h x2)⟩
  ·exact pr.2 ⟨sn (by rw[j1];exact Fw h x1),sg (by rw[j2];exact FP h x2)⟩
 ·have pr:=sgp pr
  rcases ab with h|h
  ·exact pr.2 ⟨h.2,h.1⟩
  ·exact pr.1 ⟨h.2,h.1⟩
theorem kQ{dx dy e f:Int}(h:0<100*dx+dy)(hy:-20<=dy/\dy<=20)(z:dx*f=dy*e)(n:¬(e<0\/(e=0/\f<0))):0<=100*e+f:=by
 by_cases d0:dx=0
 ·subst d0;have:dy*e=0:=by omega
  rcases He.mp this with h|h<;>omega
 ·have dp:0<dx:=by omega
  have e0:0<=e:=by omega
  have k:=Int.mul_nonneg (show 0<=100*dx+dy by omega) e0;have id:(100*e+f)*dx=(100*dx+dy)*e:=by grind
  by_cases g:100*e+f<0
  ·have:=Fw g dp;omega
  ·omega
def ix(w:Wl)(m k:Int):Int:=w.1*(m-k)+w.2.2.1*k
def iy(w:Wl)(m k:Int):Int:=w.2.1*(m-k)+w.2.2.2*k
def OnU(v:Wl)(m x y:Int):Prop:=(v.2.2.1-v.1)*(y-m*v.2.1)=(v.2.2.2-v.2.1)*(x-m*v.1)/\¬(x<m*v.1\/(x=m*v.1/\y<m*v.2.1))/\¬(m*v.2.2.1<x\/(m*v.2.2.1=x/\m*v.2.2.2<y))
theorem OnU.la{v:Wl}{m x y:Int}(hv:Un5 v)(h:OnU v m x y):m*l1 v<=100*x+y/\100*x+y<=m*l2 v:=by obtain⟨z,n1,n2⟩:=h;have hl:=hv.lt;have hb:=hv.b;have hd:=hv.d;unfold l1 l2 SD.la at *;have s1:=kQ (dx:=v.2.2.1-v.1) (dy:=v.2.2.2-v.2.1) (e:=x-m*v.1) (f:=y-m*v.2.1) (by omega) (by omega) z (by omega);have s2:=kQ (dx:=v.2.2.1-v.1) (dy:=v.2.2.2-v.2.1) (e:=m*v.2.2.1-x) (f:=m*v.2.2.2-y) (by omega) (by omega) (by grind) (by omega);constructor<;>grind
theorem yQ{w:Wl}{m k:Int}(hw:Un5 w)(k0:0<k)(k1:k<m):OnU w m (ix w m k) (iy w m k):=by
 have hl:=hw.lt;have hb:=hw.b;have hd:=hw.d;unfold l1 l2 SD.la at hl;have e1:ix w m k-m*w.1=k*(w.2.2.1-w.1):=by unfold ix;grind
 have e2:iy w m k-m*w.2.1=k*(w.2.2.2-w.2.1):=by unfold iy;grind
 have e3:m*w.2.2.1-ix w m k=(m-k)*(w.2.2.1-w.1):=by unfold ix;grind
 have e4:m*w.2.2.2-iy w m k=(m-k)*(w.2.2.2-w.2.1):=by unfold iy;grind
 have st:∀{j e f:Int},0<j->e=j*(w.2.2.1-w.1)->f=j*(w.2.2.2-w.2.1)->¬(e<0\/(e=0/\f<0)):=fun{j e f} hj h1 h2=>by
  by_cases d0:w.2.2.1-w.1=0
  ·have:=Fj hj (show 0<w.2.2.2-w.2.1 by omega);rw[d0,Int.mul_zero]at h1;omega
  ·have:=Fj hj (show 0<w.2.2.1-w.1 by omega);omega
 have s1:=st k0 e1 e2;have s2:=st (show 0<m-k by omega) e3 e4;refine⟨by rw[e1,e2];grind,by omega,by omega⟩
theorem kW{w v:Wl}{m k:Int}(hw:Un5 w)(hv:Un5 v)(F:Fair w v)(k0:0<k)(k1:k<m):¬OnU v m (ix w m k) (iy w m k):=fun h=>by
 obtain⟨g1,g2⟩:=h.la hv;have z:=h.1;have e:100*ix w m k+iy w m k=l1 w*(m-k)+l2 w*k:=by unfold ix iy l1 l2 la;grind
 rw[e]at g1 g2;refine sa hw.lt hv.lt F k0 k1 ?_ g1 g2;unfold sd1 sd2 sd crs;unfold ix iy at z;grind
theorem xX{v:Wl}(hv:Un5 v){m x y:Int}(h:(x=m*v.1/\y=m*v.2.1)\/(x=m*v.2.2.1/\y=m*v.2.2.2))(hm:0<m):OnU v m x y:=by
 have hl:=hv.lt;have hb:=hv.b;have hd:=hv.d;unfold l1 l2 SD.la at hl;have e1:m*v.2.2.1-m*v.1=m*(v.2.2.1-v.1):=by grind
 have e2:m*v.2.2.2-m*v.2.1=m*(v.2.2.2-v.2.1):=by grind
 have st:¬(m*v.2.2.1-m*v.1<0\/(m*v.2.2.1-m*v.1=0/\m*v.2.2.2-m*v.2.1<0)):=by
  by_cases d0:v.2.2.1-v.1=0
  ·have:=Fj hm (show 0<v.2.2.2-v.2.1 by omega);rw[d0]at e1;omega
  ·have:=Fj hm (show 0<v.2.2.1-v.1 by omega);omega
 rcases h with⟨rfl,rfl⟩|⟨rfl,rfl⟩
 ·refine⟨by rw[Int.sub_self,Int.sub_self,Int.mul_zero,Int.mul_zero],by omega,by omega⟩
 ·refine⟨by rw[e1,e2];grind,by omega,by omega⟩
theorem og{w:Wl}{m k:Int}(hw:Un5 w)(k0:0<k)(k1:k<m):¬(ix w m k=m*w.1/\iy w m k=m*w.2.1)/\¬(ix w m k=m*w.2.2.1/\iy w m k=m*w.2.2.2):=by
 have hl:=hw.lt;have e:100*ix w m k+iy w m k=l1 w*(m-k)+l2 w*k:=by unfold ix iy l1 l2 la;grind
 have a1:=Fj k0 (show 0<l2 w-l1 w by omega);have a2:=Fj (show 0<m-k by omega) (show 0<l2 w-l1 w by omega);constructor
 ·rintro⟨h1,h2⟩;rw[h1,h2]at e;unfold l1 l2 la at *;grind
 ·rintro⟨h1,h2⟩;rw[h1,h2]at e;unfold l1 l2 la at *;grind
theorem oR{ws:List Wl}{i:Nat}{w:Wl}{m k:Int}(hU:∀w∈ws,Un5 w)(hF:PF ws)(ew:ws[i]?=some w)(k0:0<k)(k1:k<m){n:Nat}{u:Vc}(hu:u∈cnr ws n):¬(ix w m k=m*u.1/\iy w m k=m*u.2):=by
 obtain⟨j,v,_,ev,hv⟩:=(iP n).mp hu;have hw5:=hU w (EZ ew);have hv5:=hU v (EZ ev);intro h
 have h':(ix w m k=m*v.1/\iy w m k=m*v.2.1)\/(ix w m k=m*v.2.2.1/\iy w m k=m*v.2.2.2):=by
  rcases hv with rfl|rfl
  ·exact .inl h
  ·exact .inr h
 by_cases e:i=j
 ·subst e;rw[ew]at ev;cases ev;exact h'.elim (og hw5 k0 k1).1 (og hw5 k0 k1).2
 ·exact kW hw5 hv5 (hF i j w v e ew ev) k0 k1 (xX hv5 h' (by omega))
theorem Cd{t b X Y p q r s m x y:Int}(ht:0<t)(hb:0<b)(hm:0<m):Ma.cr (Ma.ut t b X 1 p) (Ma.ut t b Y 1 q) (Ma.ut t b X 1 r) (Ma.ut t b Y 1 s) (Ma.ut t b X m x) (Ma.ut t b Y m y)=0↔(r-p)*(y-m*q)=(s-q)*(x-m*p):=by
 have e:∀(X z:Int),Ma.ut t b X 1 z=Ma.ut t b X m (m*z):=fun X z=>(Ma.d8 ht hb (by decide) hm).mpr (by omega);have l:∀(X z:Int),Ma.ut t b X m z=((t:Rat)/b*(1/m))*(z:Rat)+(X:Rat)/b:=fun X z=>by rw[ue hb hm,Rat.div_def (z:Rat),Rat.div_def (1:Rat)];grind
 have kp:(0:Rat)<(t:Rat)/b*(1/m):=by rw[Rat.div_def,Rat.div_def,Rat.one_mul];exact Ig (Ig (Ma.pos_int ht) (Rat.inv_pos.mpr (Ma.pos_int hb))) (Rat.inv_pos.mpr (Ma.pos_int hm))
 rw[e,e,e,e,l,l,l,l,l,l,vk];have c:((((m*r:Int):Rat)-((m*p:Int):Rat))*(((y:Int):Rat)-((m*q:Int):Rat))-(((m*s:Int):Rat)-((m*q:Int):Rat))*(((x:Int):Rat)-((m*p:Int):Rat)))=(((m*r-m*p)*(y-m*q)-(m*s-m*q)*(x-m*p):Int):Rat):=by simp only[Hw,Gq]
 rw[c,mT (Ig kp kp)];have f:(m*r-m*p)*(y-m*q)-(m*s-m*q)*(x-m*p)=m*((r-p)*(y-m*q)-(s-q)*(x-m*p)):=by grind
 rw[f,He];omega
theorem ot{t b X Y m x y:Int}(v:Wl)(ht:0<t)(hb:0<b)(hm:0<m):(Ma.cr (Ma.ut t b X 1 v.1) (Ma.ut t b Y 1 v.2.1) (Ma.ut t b X 1 v.2.2.1) (Ma.ut t b Y 1 v.2.2.2) (Ma.ut t b X m x) (Ma.ut t b Y m y)=0/\¬Ma.ah (Ma.ut t b X m x) (Ma.ut t b Y m y) (Ma.ut t b X 1 v.1) (Ma.ut t b Y 1 v.2.1)/\¬Ma.ah (Ma.ut t b X 1 v.2.2.1) (Ma.ut t b Y 1 v.2.2.2) (Ma.ut t b X m x) (Ma.ut t b Y m y))↔OnU v m x y:=by rw[Cd ht hb hm,Ma.qU ht hb hm (by decide),Ma.qU ht hb (by decide) hm,Ma.dA,Ma.dA];unfold OnU;simp only[Int.one_mul]
theorem D3{us:List Vc}{i j:Nat}{u:Vc}(h:us.Pairwise plt)(ej:us[j]?=some u)(ei:us[i]?=some u):i=j:=by
 obtain⟨hj,ej⟩:=F0.mp ej;obtain⟨hi,ei⟩:=F0.mp ei;have P:=FY.mp h;rcases Hr i j with y|y|y
 ·have:=P i j hi hj y;rw[ei,ej]at this;exact absurd this (lR u)
 ·exact y
 ·have:=P j i hj hi y;rw[ei,ej]at this;exact absurd this (lR u)
theorem xi{us:List Vc}{i j:Nat}{u v:Vc}(h:us.Pairwise plt)(ej:us[j]?=some u)(ei:us[i]?=some v):decide (v=u)=decide (i=j):=by
 rw[decide_eq_decide];constructor
 ·intro e;subst e;exact D3 h ej ei
 ·intro e;subst e;rw[ej]at ei;cases ei;rfl
theorem Bl{us:List Vc}{i j:Nat}{u v:Vc}(h:us.Pairwise plt)(ej:us[j]?=some u)(ei:us[i]?=some v):FG (prP v) (prP u)=decide (i=j):=by rw[<-xi h ej ei];show FG (.tuple [.int v.1,.int v.2]) (.tuple [.int u.1,.int u.2])=_;rw[iQ,decide_eq_decide];exact⟨fun e=>Prod.ext e.1 e.2,fun e=>by rw[e];exact⟨rfl,rfl⟩⟩
theorem CK{t b X Y:Int}(ht:0<t)(hb:0<b){us:List Vc}{i j:Nat}{u v:Vc}(h:us.Pairwise plt)(ej:us[j]?=some u)(ei:us[i]?=some v):FG (gP t b X Y v) (gP t b X Y u)=decide (i=j):=by rw[vd ht hb,xi h ej ei]
theorem yU{a c:List Vc}(h:∀k,k∈a↔k∈c)(ha:a.Pairwise plt)(hc:c.Pairwise plt):a=c:=by
 have nd:∀{l:List Vc},l.Pairwise plt->l.Nodup:=fun h=>h.imp fun z e=>by subst e;exact lR _ z
 exact vO ((List.perm_ext_iff_of_nodup (nd ha) (nd hc)).mpr h) ha hc
theorem uP{ws:List Wl}(k:Vc):k∈cnr ws ws.length↔k∈ws.map ea++ws.map eb:=by
 rw[iP,Fl,Fm,Fm];constructor
 ·rintro⟨j,w,_,e,h⟩;have hm:=EZ e;rcases h with rfl|rfl
  ·exact .inl ⟨w,hm,rfl⟩
  ·exact .inr ⟨w,hm,rfl⟩
 ·rintro(⟨w,hm,rfl⟩|⟨w,hm,rfl⟩)
  ·obtain⟨j,hj,e⟩:=List.mem_iff_getElem.mp hm;exact⟨j,w,hj,by rw[E7 hj,e],.inl rfl⟩
  ·obtain⟨j,hj,e⟩:=List.mem_iff_getElem.mp hm;exact⟨j,w,hj,by rw[E7 hj,e],.inr rfl⟩
inductive Told(t b X Y:Int)(ws:List Wl):D->D->Prop
 |corner (us:List Vc) (j:Nat) (u:Vc) (h1:∀k,k∈us↔k∈ws.map ea++ws.map eb) (h2:us.Pairwise plt) (h3:us[j]?=some u):Told t b X Y ws (gsp t b X Y u) (.tup [.str "corner",.int (j:Int)])
 |wall (i:Nat) (w:Wl) (m k:Int) (h1:ws[i]?=some w) (h2:0<k) (h3:k<m) (h4:m<=6):Told t b X Y ws (Ma.spt (Ma.ut t b X m (ix w m k)) (Ma.ut t b Y m (iy w m k))) (.tup [.str "wall",.int (i:Int)])
theorem gb{a c m k:Int}(ha:0<=a/\a<=20)(hc:0<=c/\c<=20)(k0:0<=k)(k1:k<=m)(k2:m<=6):-(10^6)<=a*(m-k)+c*k/\a*(m-k)+c*k<=10^6:=by have p1:=qY ha.1 ha.2 (show 0<=m-k by omega) (show m-k<=6 by omega);have p2:=qY hc.1 hc.2 (show 0<=k by omega) (show k<=6 by omega);omega
theorem wq{t b X a c m k:Int}(ht:0<t)(hb:0<b)(hm:0<m)(h:k=0\/k=m):Ma.ut t b X m (a*(m-k)+c*k)=Ma.ut t b X 1 (if k=m then c else a):=by
 rw[Ma.d8 ht hb hm (by decide)];rcases h with rfl|rfl
 ·rw[if_neg (by omega)];grind
 ·rw[if_pos rfl];grind
theorem nS{t b X Y:Int}(ht:0<t)(hb:0<b){ws:List Wl}{m k:Int}(hm:0<m)(h:k=0\/k=m){w:Wl}{us:List Vc}{j:Nat}(h1:∀k,k∈us↔k∈ws.map ea++ws.map eb)(h2:us.Pairwise plt)(h3:us[j]?=some (if k=m then eb w else ea w)) :
 Told t b X Y ws (Ma.spt (Ma.ut t b X m (ix w m k)) (Ma.ut t b Y m (iy w m k))) (.tup [.str "corner",.int (j:Int)]):=by
 have e:Ma.spt (Ma.ut t b X m (ix w m k)) (Ma.ut t b Y m (iy w m k))=gsp t b X Y (if k=m then eb w else ea w):=by
  unfold ix iy gsp
  rw[wq ht hb hm h,wq ht hb hm h]
  by_cases q:k=m
  ·simp only[if_pos q];rfl
  ·simp only[if_neg q];rfl
 rw[e]
 exact .corner us j _ h1 h2 h3
theorem sU:PyData.strOk (Gz "corner")=true:=by decide +kernel
theorem ym:PyData.strOk (Gz "wall")=true:=by decide +kernel
theorem rK{q:Str}{n:Int}{M:MH}{Q:DK}(h:PyData.strOk q=true)(k:Q (.bl false) M):B3 (.tup [.str q,.int n]) (.tup [.str q,.int n]) M Q:=by
 have sh:GD (.tuple [.str q,.int n])=true:=by simp[GD,Iq,H0,h,PyData.depth,I0]
 refine⟨.tuple [.str q,.int n],.tuple [.str q,.int n],Pd.of rfl,Pd.of rfl,sh,sh,?_⟩;rw[FG,G8,G8,G8,za];simpa[FG]using k
section
open AutoSeq1 (wpAny_loadPart')
variable{prog:F8}{w:Fy}{A:FK}{E:E1->E3->Prop}{s:E3}
theorem oS{it t:Addr}{i:Nat}{items}{x:E1}{Q:E1->E3->Prop}(hit:s.heap.IsTupleIter it t i)(ht:s.heap.IsTuple t items)(hx:items[i]?=some x)
 (hQ:∀h',h'.IsTupleIter it t (i+1)->GO it s.heap h'->Q x { s with heap:=h' }):EX (F6 prog w) A (Builtin.SmallTypes.nextOf (.ref it)) Q E s:=by
 obtain⟨o,ho,hc,hd⟩:=id hit
 obtain⟨ol,hol,_,nl,hdl⟩:=ht
 unfold Builtin.SmallTypes.nextOf
 refine cc (GY (name:=Gz "__next__") hit.typeIs HS (Gy HS hit.typeIs F.entry_tuple_iterator_next ?_ (F.args_tuple_iterator_next_1 _)))
 show EX _ _ (field (.ref it) 0 >>= _) _ _ s
 refine cc (wpAny_field ho hd (x:=.ref t) rfl ?_)
 show EX _ _ (if(FZ t==Gu)=true then _ else _) _ _ s
 rw[if_neg (show ¬((FZ t==Gu)=true)from F4)]
 show EX _ _ (field (.ref it) 1 >>= _) _ _ s
 refine cc (wpAny_field ho hd (x:=.int i 0) rfl ?_)
 show EX _ _ (seqItems? (.ref t) >>= _) _ _ s
 refine cc (GA hol hdl ?_)
 simp only[Hb,hx]
 refine cc (Ir ho hd (by simp) (E4 ⟨x,rfl,E4 (hQ _ ?_ (FW ..))⟩))
 exact⟨_,G7 _ ho (Obj.isFreed_of_fields (GW hd _)),(Obj.cls_mapFields ..).trans hc,by
  rw[GW hd];simp[Hf]⟩
theorem sG{it t:Addr}{i:Nat}{items}{Q:E1->E3->Prop}(hh:A.handled=none)(hit:s.heap.IsTupleIter it t i)(ht:s.heap.IsTuple t items)(hx:items[i]?=none)
 (hE:∀h' e,Heap.ExtBut it s.heap h'->(∃o,h'.get? e=some o/\o.cls=.type "StopIteration")->E (.ref e) { s with heap:=h' }):EX (F6 prog w) A (Builtin.SmallTypes.nextOf (.ref it)) Q E s:=by
 obtain⟨o,ho,hc,hd⟩:=id hit
 obtain⟨ol,hol,_,nl,hdl⟩:=ht
 unfold Builtin.SmallTypes.nextOf
 refine cc (GY (name:=Gz "__next__") hit.typeIs HS (Gy HS hit.typeIs F.entry_tuple_iterator_next ?_ (F.args_tuple_iterator_next_1 _)))
 show EX _ _ (field (.ref it) 0 >>= _) _ _ s
 refine cc (wpAny_field ho hd (x:=.ref t) rfl ?_)
 show EX _ _ (if(FZ t==Gu)=true then _ else _) _ _ s
 rw[if_neg (show ¬((FZ t==Gu)=true)from F4)]
 show EX _ _ (field (.ref it) 1 >>= _) _ _ s
 refine cc (wpAny_field ho hd (x:=.int i 0) rfl ?_)
 show EX _ _ (seqItems? (.ref t) >>= _) _ _ s
 refine cc (GA hol hdl ?_)
 simp only[Hb,hx]
 refine cc (wpAny_rule (cc (Ir ho hd (by simp) ?_)))
 show EX _ _ (newExc (.type "StopIteration") [] >>= _) _ _ _
 refine cc ?_
 simp only[newExc,newTuple]
 refine cc (FR ?_ (by size_fits))
 refine cc (m:=firstArgMember _ _) (wpAny_of_eq (a:=Gu) (by first|rfl|(simp only[firstArgMember];rfl)) ?_)
 refine FR ?_ (by size_fits)
 simp only[raiseNew]
 refine cc (wpAny_handled ?_)
 first|rw[show A.in1.handled=none from hh]|rw[hh]
 refine cc (E4 (wpAny_throw ?_))
 exact hE _ _ (((FW ..).extBut.push _).push _) ⟨_,EY _ rfl,rfl⟩
theorem uL(hh:A.handled=none)(it t:Addr)(hne:t≠it)(items:Array E1):Draws prog w A it [it,t] items.size (fun i v=>items[i]?=some v) (fun i h=>h.IsTupleIter it t i/\h.IsTuple t items) where
 live:=fun _ _ st=>let⟨o,ho,_⟩:=st.1;⟨o,ho⟩
 frame:=fun _ _ _ st hk=>by
  obtain⟨⟨o,ho,r⟩,⟨o',ho',r'⟩⟩:=st
  exact⟨⟨o,hk it (by simp) o ho,r⟩,⟨o',hk t (by simp) o' ho',r'⟩⟩
 item:=fun i s Q E hi st hQ=>by
  refine oS st.1 st.2 (x:=items[i]) (by simp[hi]) fun h' hit' hs'=>?_
  exact hQ _ h' s.toks (by simp[hi]) ⟨hit',st.2.extBut hs'.extBut hne⟩ hs'
 done:=fun s Q E st hE=>sG hh st.1 st.2 (by simp) hE
theorem tK(l:Addr)(items:Array E1)(n:Nat)(dct:Option Addr)(sl:Array (Option E1)) :
 Meets (GQ.«enumerate.__new__» ⟨[.type "enumerate",.ref l],[]⟩) (fun _ R s=>s.heap.get? l=some { cls:=.type "tuple",dict:=dct,data:=.seq items n,slots:=sl }/\
  R (.ok (.ret (.ref (s.heap.push { cls:=.type "tuple_iterator",data:=.fields #[.ref l,.int 0 0] }).objs.size)))
    { s with heap:=(s.heap.push { cls:=.type "tuple_iterator",data:=.fields #[.ref l,.int 0 0] }).push { cls:=.type "enumerate",data:=.fields #[.none,.bool false,.ref s.heap.objs.size,Hf 0,.none,.none] } }):=
 .of_wp fun prog w A R s h=>by
  obtain⟨hp,g,d,tk,os⟩:=s;obtain⟨hl,h⟩:=h
  have hsub:=sub_enumerate
  have hL:Heap.IsTuple (Shared.heap ⟨hp,g,d,tk,os⟩) l items:=⟨_,hl,rfl,n,rfl⟩
  wp_walk using FF hl
  refine wpAny_stack_any fun st=>E4 ?_
  split
  ·rename_i c _ _ _ _ _
   cases (c==Ht "enumerate")
   ·wp_walk using FF hl,HQ hL
    exact⟨_,rfl,h⟩
   ·wp_walk using FF hl,HQ hL
    exact⟨_,rfl,h⟩
  ·wp_walk using FF hl,HQ hL
   exact⟨_,rfl,h⟩
theorem pG{l:Addr}{items:Array E1}{Q:E1->E3->Prop}(hL:s.heap.IsTuple l items)
 (h:∀h',IsEnum h' (s.heap.objs.size+1) s.heap.objs.size 0 .none->h'.IsTupleIter s.heap.objs.size l 0->(∀b o,s.heap.get? b=some o->h'.get? b=some o)->Q (.ref (s.heap.objs.size+1)) { s with heap:=h' }) :
 EX (F6 prog w) A (call (.type "enumerate") [.ref l]) Q E s:=by
 obtain⟨⟨c,dct,dt,sl⟩,hl,hc,n,hd⟩:=hL
 replace hc:c=.type "tuple":=hc
 replace hd:dt=.seq items n:=hd
 subst hc hd
 refine callType_new F.called_enumerate (by decide) (F.typeCall_enumerate_1 _) (F.newCall_enumerate_1 _) (fun obj=>F.args_object_init_2 obj _) F.entry_enumerate_new (tK l items n dct sl) ⟨hl,?_⟩
 have hz:(s.heap.push { cls:=.type "tuple_iterator",data:=.fields #[.ref l,.int 0 0] }).objs.size=s.heap.objs.size+1:=Gj ..
 show _/\_
 rw[hz]
 have he:IsEnum ((s.heap.push { cls:=.type "tuple_iterator",data:=.fields #[.ref l,.int 0 0] }).push { cls:=.type "enumerate",data:=.fields #[.none,.bool false,.ref s.heap.objs.size,Hf 0,.none,.none] }) (s.heap.objs.size+1) s.heap.objs.size 0 .none:=by
  have:=EY (s.heap.push { cls:=.type "tuple_iterator",data:=.fields #[.ref l,.int 0 0] }) (o:={ cls:=.type "enumerate",data:=.fields #[.none,.bool false,.ref s.heap.objs.size,Hf 0,.none,.none] }) rfl
  rw[hz]at this;exact this
 exact⟨⟨_,he,rfl⟩,h _ he ⟨_,E5 _ (EY _ rfl),rfl,rfl⟩ fun b o x=>E5 _ (E5 _ x)⟩
end
def CI(K:E2)(a:Addr):It:=
 ⟨fun i H=>∃xs x,SqT K H a xs/\xs[i]?=some x,fun i H x H'=>∃T y,x=.ref T/\H T=none/\H'=upd H T (.tup [.int (i:Int),y])/\∀xs,SqT K H a xs->xs[i]?=some y,fun i H=>∃xs,SqT K H a xs/\xs.length=i⟩
theorem pC{P:F8}{w:Fy}{K:E2}{elts:List Expr}{kt}{pt:Pos}(a e it:Addr)(hei:e≠it):Turn P w K (.Tuple elts kt pt) (CI K a) [e,it] e (fun i h=>(∃old,IsEnum h e it (i:Int) old)/\h.IsTupleIter it a i) where
 mem:=by simp
 obj:=fun i h st b hb=>by
  rcases(show b=e\/b=it by simpa using hb)with rfl|rfl
  ·obtain⟨⟨old,q⟩,_⟩:=st
   exact⟨_,q,fun v z=>by
    have z':Data.fields _=Data.cell v:=z
    cases z'⟩
  ·obtain⟨o,q,c,d⟩:=st.2
   exact⟨o,q,fun v z=>by rw[d]at z;cases z⟩
 keep:=fun i h h' st k=>by
  obtain⟨⟨old,q⟩,⟨o,ho,r⟩⟩:=st
  exact⟨⟨old,k e (by simp) _ q⟩,⟨o,k it (by simp) o ho,r⟩⟩
 item:=by
  intro X hP hw hK hc i pins s σ H E I hf st hg
  subst hP hw hK
  obtain⟨xs,x,hq,hx⟩:=hg
  obtain⟨its,rv,p,hz⟩:=I.tuple hq
  obtain⟨u,hu,ru⟩:=rv.get hx
  obtain⟨⟨old,he⟩,hit⟩:=st
  have p:s.heap.IsTuple a its.toArray:=p
  have le:e<s.heap.objs.size:=F9 he
  have li:it<s.heap.objs.size:=by obtain⟨o,q,_⟩:=hit;exact F9 q
  have hal:a≠it:=fun z=>by
   subst z
   obtain⟨o1,z1,z2,_⟩:=hit
   obtain⟨o2,y1,y2,_⟩:=p
   rw[z1]at y1;cases y1
   rw[z2]at y2;exact absurd (Ht.inj y2) (by decide)
  have hea:e≠a:=fun z=>by
   subst z
   obtain⟨o2,y1,y2,_⟩:=p
   rw[show s.heap.get? e=_ from he]at y1;cases y1
   exact absurd (Ht.inj y2) (by decide)
  have hhd:X.A.in1.handled=none:=I.ok.hd hc
  have hil:i<its.length:=(F0.mp hu).1
  refine wpAny_pyNext_enum_itemD (uL hhd it a hal its.toArray) he ⟨hit,p⟩ (by simp;omega) hei (by simp[hei,hea]) fun x0 h1 tk hx0 ho hit0 hT hsz hk=>?_
  obtain rfl:u=x0:=by
   have hx0:its[i]?=some x0:=by simpa using hx0
   rw[hu]at hx0;cases hx0;rfl
  refine⟨_,rfl,wpAny_letOwnedTupleGo_enum (s:={ s with heap:=h1,toks:=tk+1 }) ho fun h2 he2 hs2=>?_⟩
  have hs2:GO e h1 h2:=hs2
  have fr:=I.fresh
  have I1:Inv X pins σ (upd H s.heap.objs.size (.tup [.int (i:Int),x])) { s with heap:=s.heap.push { cls:=.type "tuple",data:=.seq #[.int (i:Int) tk,u] },toks:=s.toks }:=
   I.laid (fun b v q=>E5 _ q) (E8 _) ⟨nbL rfl,[.int (i:Int) tk,u],.cons ⟨_,rfl⟩ (.cons ru .nil),⟨_,EY _ rfl,rfl,_,rfl⟩,⟨_,EY _ rfl,rfl⟩⟩
  have fk:∀{b:Addr},b<s.heap.objs.size->cf X pins H b->cf X pins (upd H s.heap.objs.size (.tup [.int (i:Int),x])) b:=fun{b} lt f=>⟨by rw[aK (Fs lt)];exact f.1,f.2⟩
  have fe:=fk le (hf e (by simp))
  have fi:=fk li (hf it (by simp))
  have I2:Inv X pins σ (upd H s.heap.objs.size (.tup [.int (i:Int),x])) { s with heap:=h2,toks:=tk+1 }:=by
   refine jL (s:={ s with heap:=s.heap.push { cls:=.type "tuple",data:=.seq #[.int (i:Int) tk,u] },toks:=s.toks }) I1 (fun b o ne ni q=>?_) fe fi
   have q:(s.heap.push { cls:=.type "tuple",data:=.seq #[.int (i:Int) tk,u] }).get? b=some o:=q
   refine(hs2.2 b ne).trans ?_
   rcases Heap.get?_push_cases q with⟨rfl,rfl⟩|q
   ·exact hT
   ·exact hk b o ne ni q
  obtain⟨⟨oi,z1,z2⟩,_⟩:=hit0
  refine⟨.ref s.heap.objs.size,_,I2,rfl,⟨_,x,rfl,fr,rfl,fun ys hy=>by rw[I.lM hy hq];exact hx⟩,⟨⟨u,?_⟩,⟨oi,(hs2.2 it hei.symm).trans z1,z2⟩⟩,fun b hb=>?_⟩
  ·have:(((i+1:Nat):Int))=(i:Int)+1:=by omega
   rw[this];exact he2
  ·rcases(show b=e\/b=it by simpa using hb)with rfl|rfl
   ·exact fe.1
   ·exact fi.1
 done:=by
  intro X hP hw hK hc i pins s σ H E I hf st hg
  subst hP hw hK
  obtain⟨xs,hq,hx⟩:=hg
  obtain⟨its,rv,p,hz⟩:=I.tuple hq
  have p:s.heap.IsTuple a its.toArray:=p
  obtain⟨⟨old,he⟩,hit⟩:=st
  obtain⟨f0,f1,f2,f3,f4,f5⟩:=hf it (by simp)
  have hl:=rv.length
  have hal:a≠it:=fun z=>by
   subst z
   obtain⟨o1,z1,z2,_⟩:=hit
   obtain⟨o2,y1,y2,_⟩:=p
   rw[z1]at y1;cases y1
   rw[z2]at y2;exact absurd (Ht.inj y2) (by decide)
  have hhd:X.A.in1.handled=none:=I.ok.hd hc
  have ei:its.toArray.size=i:=by simp;omega
  exact wpAny_pyNext_enum_endD (uL hhd it a hal its.toArray) he ⟨by rw[ei];exact hit,p⟩ fun h' eb=>⟨rfl,I.turned (t':=s.toks) (fun b o hb q=>eb b o hb q) f0 f1 f3 f4 f5⟩
 self:=fun _ _ _ _ _ st h=>let⟨⟨_,he⟩,_⟩:=st;wpAny_pyIter_enum he h
section
variable{X:Cx}{elts:List Expr}{kt:Nat}{pt:Pos}
def BW(K:E2)(ta:TA):TI:=fun σ H R=>ta σ H fun vs H1=>∃a xs,vs=[.ref a]/\SqT K H1 a xs/\R (CI K a) H1
theorem u9{a:Expr}{ta:TA}{p pos:Pos}(hg:Gl X "enumerate")(hm:X.mg "enumerate"=none)(ha:PA X [a] ta)(hs:Fc [a] X.env=[(false,eval a X.env)]:=by rfl):PI X (.Tuple elts kt pt) (.Call (.Name "enumerate" p) [a] [] pos) (BW X.K ta):=by
 intro pins s σ H R I h;refine Call_ (gT I hg hm gu (PyProof.Rows.callWith_type1 (thn (ha pos pins s σ H _ I h) fun us s1 zz1_0=>?_) hs rfl));obtain⟨vs,H1,I1,r1,q1⟩:=zz1_0;obtain⟨l,xs,ev,hH,q⟩:=q1;subst ev;obtain⟨u,rfl,ru⟩:=r1.one;cases ru;obtain⟨its,rv,pt,hz⟩:=I1.tuple hH;refine pG (show s1.heap.IsTuple l its.toArray from pt) fun h' he hit hk=>wpAny_pyIter_enum he ?_
 have fp:∀b∈[s1.heap.objs.size+1,s1.heap.objs.size],cf X pins H1 b:=fun b hb=>by
  have hb':s1.heap.objs.size<=b:=by
   rcases(show b=s1.heap.objs.size+1\/b=s1.heap.objs.size by simpa using hb)with rfl|rfl
   ·exact Nat.le_succ _
   ·exact E8 _
  exact I1.qg hb' (I1.hok.fresh hb')
 exact⟨_,[s1.heap.objs.size+1,s1.heap.objs.size],_,_,H1,rfl,I1.kept (t':=s1.toks) hk,pC l _ _ (Nat.succ_ne_self _),⟨⟨_,he⟩,hit⟩,fp,q⟩
def Ak(ta:TAD):TID:=fun δ M R=>ta δ M fun ds M1=>∃es,ds=[.tup es]/\R ⟨es.length,fun i=>(es[i]?).map fun d=>.tup [.int (i:Int),d],fun _=>True⟩ M1
theorem wj{a:Expr}{ta:TAD}{p pos:Pos}(hg:Gl X "enumerate")(hm:X.mg "enumerate"=none)(ha:DA X [a] ta)(hs:Fc [a] X.env=[(false,eval a X.env)]:=by rfl):DI X (.Tuple elts kt pt) (.Call (.Name "enumerate" p) [a] [] pos) (Ak ta):=
 pN (u9 hg hm ha hs) fun σ H R ⟨δ,M,RD,hs,hM,q,fin⟩=>⟨δ,M,_,hs,hM,q,fun ds M1 vs H1 g1 r1 a1 z9=>by
  obtain⟨es,e,q1⟩:=z9
  subst e
  obtain⟨v,rfl,r⟩:=bL r1
  rw[Rep]at r
  obtain⟨l,xs,rfl,hx,rs⟩:=r
  refine⟨l,xs,rfl,hx,fin _ M1 H1 _ g1 a1 q1 ⟨fun H2 M2 g2 a2 c2=>⟨xs,g2.t _ _ hx,rs.length.symm⟩,fun i H2 M2 hi g2 a2 c2=>?_,?_⟩⟩
  ·have hi':i<xs.length:=by rw[<-rs.length];exact hi
   exact⟨xs,xs[i],g2.t _ _ hx,by simp[hi']⟩
  ·rintro i H2 M2 v H3 hi g2 a2 c2 ⟨T,y,rfl,hT,rfl,hy⟩
   have hi:i<es.length:=hi
   obtain⟨x,e1,e2⟩:=(rs.mono g2).get (show es[i]?=some es[i] by simp[hi])
   have:=hy xs (g2.t _ _ hx)
   rw[e1]at this;cases this
   exact⟨.new hT,a2.new hT,.tup [.int (i:Int),es[i]],by simp[hi],by rw[Rep];exact⟨T,_,rfl,SqT.of aM,.cons (by rw[Rep]) (.cons (e2.mono (.new hT)) .nil)⟩⟩⟩
end
section
variable{P:F8}{w:Fy}{K:E2}{mg:Str->Option E1}{base:Heap}{x:Str}{st:Stmt}{N:List Str}{k:Nat}
def sD1(C:D->MH->DK->Prop):SpD:=fun ds M Q=>match ds with
 |[a]=>C a M Q
 |_=>False
theorem eD{p:Str}{C:D->MH->DK->Prop}(T:Txt K mg x st)(S:FnScope N [p] (ao st))
 (body:∀(f:Addr) (cdv:E1) (A:FK) (outer:List Env) (s:E3) (H:Hp) (E:XK),Room k (A.deeper (envOfC x (ao st) s.heap.objs.size f cdv))->
  ∃t,DSs (ia CX0 P w K mg base N x (ao st) f cdv A outer s H E).nox (aQ st) t/\∀a M Q,C a M Q->t { nx:=fun _ M'=>Ret Q .non M',rt:=Ret Q } (ez N [a]) M)
 (hb:∀(kV doc pm:E1) (an:Option Addr) (cdv ct a:E1),bindArgs (GP x x (bO st) (aQ st) (ao st) .none kV doc pm an cdv ct) ⟨[a],[]⟩=pure ([p].zip [a]):=by intros;rfl):Cal P w K mg base (k+1) x (sD1 C):=by
 refine wM T S (fun kV doc pm an cdv ct us hl=>?_) (fun ds M Q h=>?_) fun f cdv A outer s H E hr=>?_
 ·match us,hl with
  |[_],_=>exact hb ..
 ·unfold sD1 at h
  split at h
  ·rfl
  ·exact h.elim
 ·obtain⟨t,h,hq⟩:=body f cdv A outer s H E hr
  refine⟨t,h,fun ds M Q h=>?_⟩
  unfold sD1 at h
  split at h
  ·exact hq _ _ _ h
  ·exact h.elim
def sD2(C:D->D->MH->DK->Prop):SpD:=fun ds M Q=>match ds with
 |[a,b]=>C a b M Q
 |_=>False
theorem bg{p q:Str}{C:D->D->MH->DK->Prop}(T:Txt K mg x st)(S:FnScope N [p,q] (ao st))
 (body:∀(f:Addr) (cdv:E1) (A:FK) (outer:List Env) (s:E3) (H:Hp) (E:XK),Room k (A.deeper (envOfC x (ao st) s.heap.objs.size f cdv))->
  ∃t,DSs (ia CX0 P w K mg base N x (ao st) f cdv A outer s H E).nox (aQ st) t/\∀a b M Q,C a b M Q->t { nx:=fun _ M'=>Ret Q .non M',rt:=Ret Q } (ez N [a,b]) M)
 (hb:∀(kV doc pm:E1) (an:Option Addr) (cdv ct a b:E1),bindArgs (GP x x (bO st) (aQ st) (ao st) .none kV doc pm an cdv ct) ⟨[a,b],[]⟩=pure ([p,q].zip [a,b]):=by intros;rfl):Cal P w K mg base (k+1) x (sD2 C):=by
 refine wM T S (fun kV doc pm an cdv ct us hl=>?_) (fun ds M Q h=>?_) fun f cdv A outer s H E hr=>?_
 ·match us,hl with
  |[_,_],_=>exact hb ..
 ·unfold sD2 at h
  split at h
  ·rfl
  ·exact h.elim
 ·obtain⟨t,h,hq⟩:=body f cdv A outer s H E hr
  refine⟨t,h,fun ds M Q h=>?_⟩
  unfold sD2 at h
  split at h
  ·exact hq _ _ _ _ h
  ·exact h.elim
def sD3(C:D->D->D->MH->DK->Prop):SpD:=fun ds M Q=>match ds with
 |[a,b,c]=>C a b c M Q
 |_=>False
theorem lF{p q r:Str}{C:D->D->D->MH->DK->Prop}(T:Txt K mg x st)(S:FnScope N [p,q,r] (ao st))
 (body:∀(f:Addr) (cdv:E1) (A:FK) (outer:List Env) (s:E3) (H:Hp) (E:XK),Room k (A.deeper (envOfC x (ao st) s.heap.objs.size f cdv))->
  ∃t,DSs (ia CX0 P w K mg base N x (ao st) f cdv A outer s H E).nox (aQ st) t/\∀a b c M Q,C a b c M Q->t { nx:=fun _ M'=>Ret Q .non M',rt:=Ret Q } (ez N [a,b,c]) M)
 (hb:∀(kV doc pm:E1) (an:Option Addr) (cdv ct a b c:E1),bindArgs (GP x x (bO st) (aQ st) (ao st) .none kV doc pm an cdv ct) ⟨[a,b,c],[]⟩=pure ([p,q,r].zip [a,b,c]):=by intros;rfl):Cal P w K mg base (k+1) x (sD3 C):=by
 refine wM T S (fun kV doc pm an cdv ct us hl=>?_) (fun ds M Q h=>?_) fun f cdv A outer s H E hr=>?_
 ·match us,hl with
  |[_,_,_],_=>exact hb ..
 ·unfold sD3 at h
  split at h
  ·rfl
  ·exact h.elim
 ·obtain⟨t,h,hq⟩:=body f cdv A outer s H E hr
  refine⟨t,h,fun ds M Q h=>?_⟩
  unfold sD3 at h
  split at h
  ·exact hq _ _ _ _ _ h
  ·exact h.elim
def sD4(C:D->D->D->D->MH->DK->Prop):SpD:=fun ds M Q=>match ds with
 |[a,b,c,d]=>C a b c d M Q
 |_=>False
theorem CC{p q r t:Str}{C:D->D->D->D->MH->DK->Prop}(T:Txt K mg x st)(S:FnScope N [p,q,r,t] (ao st))
 (body:∀(f:Addr) (cdv:E1) (A:FK) (outer:List Env) (s:E3) (H:Hp) (E:XK),Room k (A.deeper (envOfC x (ao st) s.heap.objs.size f cdv))->
  ∃t,DSs (ia CX0 P w K mg base N x (ao st) f cdv A outer s H E).nox (aQ st) t/\∀a b c d M Q,C a b c d M Q->t { nx:=fun _ M'=>Ret Q .non M',rt:=Ret Q } (ez N [a,b,c,d]) M)
 (hb:∀(kV doc pm:E1) (an:Option Addr) (cdv ct a b c d:E1),bindArgs (GP x x (bO st) (aQ st) (ao st) .none kV doc pm an cdv ct) ⟨[a,b,c,d],[]⟩=pure ([p,q,r,t].zip [a,b,c,d]):=by intros;rfl):Cal P w K mg base (k+1) x (sD4 C):=by
 refine wM T S (fun kV doc pm an cdv ct us hl=>?_) (fun ds M Q h=>?_) fun f cdv A outer s H E hr=>?_
 ·match us,hl with
  |[_,_,_,_],_=>exact hb ..
 ·unfold sD4 at h
  split at h
  ·rfl
  ·exact h.elim
 ·obtain⟨t,h,hq⟩:=body f cdv A outer s H E hr
  refine⟨t,h,fun ds M Q h=>?_⟩
  unfold sD4 at h
  split at h
  ·exact hq _ _ _ _ _ _ h
  ·exact h.elim
end
end SD
namespace QQ
open PySem PySem.Spec PyProof.Rows L2 SD
def top(i:Nat):Stmt:=Fq.main.body.getD i (.Pass ⟨0,0,0,0⟩)
abbrev fG:Stmt:=top 46
abbrev jl:Stmt:=top 47
abbrev iA:Stmt:=top 49
abbrev ja:Stmt:=top 52
abbrev nP:Stmt:=top 53
abbrev jf:Stmt:=top 54
abbrev dF:Stmt:=top 55
abbrev k8:Stmt:=top 48
abbrev j0:Stmt:=top 50
abbrev i8:Stmt:=top 51
abbrev jz:Stmt:=top 56
abbrev c9:Stmt:=top 4
abbrev jq:Stmt:=top 5
abbrev jX:Stmt:=top 15
abbrev kT:Stmt:=top 6
abbrev jI:Stmt:=top 10
abbrev fF:Stmt:=top 13
abbrev ft:Stmt:=top 14
abbrev gE:Stmt:=top 40
abbrev zx:Stmt:=top 17
abbrev vR:Stmt:=top 18
abbrev lB:Stmt:=top 19
abbrev lA:Stmt:=top 20
abbrev qC:Stmt:=top 22
abbrev gh:Stmt:=top 12
abbrev jw:Stmt:=top 11
abbrev j5:Stmt:=top 23
abbrev iZ:Stmt:=top 16
abbrev j6:Stmt:=top 24
abbrev fj:Stmt:=top 25
abbrev gK:Stmt:=top 42
abbrev dg:Stmt:=top 44
abbrev iC:Stmt:=top 27
abbrev dD:Stmt:=top 28
abbrev dZ:Stmt:=top 29
abbrev fy:Stmt:=top 30
abbrev iq:Stmt:=top 31
abbrev ju:Stmt:=top 32
abbrev d4:Stmt:=top 7
abbrev jD:Stmt:=top 8
abbrev gf:Stmt:=top 33
abbrev dr:Stmt:=top 35
abbrev eC:Stmt:=top 36
abbrev fY:Stmt:=top 37
abbrev dG:Stmt:=top 38
abbrev eA:Stmt:=top 43
abbrev iY:Stmt:=top 57
abbrev zI:Stmt:=top 58
local macro_rules | `(tactic| walk_at "sc") => `(tactic| exact ⟨rfl, rfl, rfl, by decide, rfl, by decide, by decide⟩)
theorem _root_.SD.Cal.m{P:F8}{w:Fy}{K:E2}{mg:Str->Option E1}{base:Heap}{j k:Nat}{x:Str}{sp:SpD}(h:Cal P w K mg base j x sp)(l:j<=k:=by decide):Cal P w K mg base k x sp:=h.mono l
structure Tx(K:E2)(mg:Str->Option E1):Prop where
 f_law_cell_at:Txt K mg "_law_cell_at" fG
 f_law_take:Txt K mg "_law_take" jl
 f_law_scale:Txt K mg "_law_scale" iA
 f_law_turn:Txt K mg "_law_turn" ja
 f_law_on:Txt K mg "_law_on" nP
 f_law_fair:Txt K mg "_law_fair" jf
 f_law_shuts_here:Txt K mg "_law_shuts_here" dF
 f_law_low:Txt K mg "_law_low" k8
 f_law_spot:Txt K mg "_law_spot" j0
 f_law_made:Txt K mg "_law_made" i8
 f_law_told:Txt K mg "_law_told" jz
 f_greatest_divisor:Txt K mg "greatest_divisor" c9
 f_fraction:Txt K mg "fraction" jq
 f_own_spot:Txt K mg "own_spot" jX
 f_is_less:Txt K mg "is_less" kT
 f_is_ahead:Txt K mg "is_ahead" jI
 f_place_among:Txt K mg "place_among" fF
 f_ahead_first:Txt K mg "ahead_first" ft
 f_corners_of:Txt K mg "corners_of" gE
 f_gap:Txt K mg "gap" zx
 f_lean:Txt K mg "lean" vR
 f_side_of:Txt K mg "side_of" lB
 f_lies_on:Txt K mg "lies_on" lA
 f_spans:Txt K mg "spans" qC
 f_earlier_of:Txt K mg "earlier_of" gh
 f_later_of:Txt K mg "later_of" jw
 f_is_above:Txt K mg "is_above" j5
 f_own_wall:Txt K mg "own_wall" iZ
 f_upper_of:Txt K mg "upper_of" j6
 f_upper_below:Txt K mg "upper_below" fj
 f_wall_below:Txt K mg "wall_below" gK
 f_look_with_lands:Txt K mg "look_with_lands" dg
 f_face_ends:Txt K mg "face_ends" iC
 f_faces_by_start:Txt K mg "faces_by_start" dD
 f_is_met_sooner:Txt K mg "is_met_sooner" dZ
 f_face_behind:Txt K mg "face_behind" fy
 f_ring_from:Txt K mg "ring_from" iq
 f_rings_of:Txt K mg "rings_of" ju
 f_common_bottom:Txt K mg "common_bottom" d4
 f_top_over:Txt K mg "top_over" jD
 f_twice_area:Txt K mg "twice_area" gf
 f_outer_and_inner:Txt K mg "outer_and_inner" dr
 f_first_corner:Txt K mg "first_corner" eC
 f_land_about:Txt K mg "land_about" fY
 f_lands_of_faces:Txt K mg "lands_of_faces" dG
 f_look_plainly:Txt K mg "look_plainly" eA
 f_law_real:Txt K mg "_law_real" iY
 f_law:Txt K mg "law" zI
 b_abs:mg "abs"=none
 b_all:mg "all"=none
 b_bool:mg "bool"=none
 b_enumerate:mg "enumerate"=none
 b_int:mg "int"=none
 b_isinstance:mg "isinstance"=none
 b_len:mg "len"=none
 b_list:mg "list"=none
 b_max:mg "max"=none
 b_min:mg "min"=none
 b_range:mg "range"=none
 b_set:mg "set"=none
 b_sorted:mg "sorted"=none
 b_tuple:mg "tuple"=none
theorem jc:FnScope ["_law_script","_law_k"] ["_law_script","_law_k"] (ao fG):=by walk_at "sc"
inductive Cn_law_cell_at(x y:D)(M:MH)(Q:DK):Prop
 |mk (ns:_) (k:_) (_:x=.rol (Hl D.int ns)) (_:y=.int k) (_:0<=k) (_:∀z,Q (.int z) M)
variable{P:F8}{w:Fy}{K:E2}{mg:Str->Option E1}{base:Heap}
theorem kh(T:Tx K mg):Cal P w K mg base 1 "_law_cell_at" (sD2 Cn_law_cell_at):=by
 refine bg (k:=0) T.f_law_cell_at jc fun f cdv A outer s H E hr=>⟨_,(ai (bo (aH (eN hr.units) (dv 1) (aI dR rfl T.b_len dW (aa (dv 0) af))) (aq (az (au (dv 0) (dv 1)))) aL) (aq (az ag))),fun _ _ M Q h=>?_⟩;obtain⟨ns,k,rfl,rfl,hk,q⟩:=h;(repeat (first|refine⟨_,rfl,?_⟩|refine⟨trivial,?_⟩|refine⟨_,_,rfl,?_⟩|refine⟨rfl,?_⟩|refine⟨nbL rfl,?_⟩))
 refine bS (fun hl=>?_) (fun _=>?_)
 ·have hl':k<(ns.length:Int):=by simpa using hl
  obtain⟨j,rfl⟩:∃j:Nat,k=(j:Int):=⟨k.toNat,by omega⟩;have hj:j<ns.length:=by omega
  refine⟨_,rfl,_,rfl,.int ns[j],cQ (by simp[hj]),rtn (q _)⟩
 ·exact rtn (q 0)
theorem dj:FnScope ["_law_row","_law_base","_law_rest","_law_number"] ["_law_row","_law_base"] (ao jl):=by walk_at "sc"
inductive Cn_law_take(y z:D)(M:MH)(Q:DK):Prop
 |mk (r:_) (b:_) (x:_) (c:_) (_:y=.ref r) (_:z=.int b) (_:M r=some (.lst [.int x,.int c])) (_:0<=c) (_:c<1000000) (_:0<b) (_:Bd 8000 b) (_:∀x' v,0<=v->v<b->Q (.int v) (aw M r (.lst [.int x',.int (c+1)])))
theorem aF(T:Tx K mg):Cal P w K mg base 1 "_law_take" (sD2 Cn_law_take):=by
 refine bg (k:=0) T.f_law_take dj fun f cdv A outer s H E hr=>⟨_,(ai (bR (av aU (au (dv 0) ag) ag) (mK (dv 0) ag)) (ai (bo (aH (p5 hr.units) (au (dv 0) ag) (av gY ag ag)) (ai (aA 2 dj.nd (av cG (au (dv 0) ag) (av gY ag ag))) (ai (bR (av aU (av gY ag ag) (av fm (dv 2) (dv 1))) (mK (dv 0) ag)) (aq (az (av fK (dv 2) (dv 1)))))) aL) (ai (aA 3 dj.nd (av fK (av aU (av aU (av aU (av aD (au (dv 0) ag) ag) (av aD (av aD ag (au (dv 0) ag)) (au (dv 0) ag))) (av aD ag (au (dv 0) ag))) ag) ag)) (ai (aA 3 dj.nd (av fK (av aU (av aU (av aD (dv 3) (dv 3)) (av aD ag (dv 3))) (au (dv 0) ag)) ag)) (aq (az (av fK (av fm (dv 3) ag) (dv 1)))))))),fun _ _ M Q h=>?_⟩;obtain⟨r,b,x,c,rfl,rfl,hM,hc0,hc1,hb,hbd,q⟩:=h;have hc64:Bd 64 (c+1):=by show(c+1).natAbs<2^64;omega
 have hb0:b≠0:=by omega
 have hm:∀n:Int,0<=n.fmod b/\n.fmod b<b:=fun n=>⟨Int.fmod_nonneg_of_pos _ hb,Int.fmod_lt_of_pos _ hb⟩;refine⟨_,rfl,_,_,hM,rfl,?_⟩;refine⟨_,rfl,_,_,hM,rfl,?_⟩;refine⟨_,rfl,_,_,aj,rfl,⟨by decide,by decide,by decide⟩,trivial,_,rfl,?_⟩;refine bS (fun h=>?_) (fun h=>?_)
 ·refine⟨_,rfl,_,_,aj,rfl,⟨by decide,by decide,by decide⟩,trivial,?_⟩;refine⟨⟨by decide,by decide,by decide⟩,_,rfl,_,rfl,⟨hb0,hbd⟩,_,rfl,_,_,aj,rfl,?_⟩;refine⟨_,rfl,_,rfl,hb0,?_⟩;rw[aX];exact rtn (q _ _ (hm _).1 (hm _).2)
 ·refine⟨_,rfl,_,_,aj,rfl,cx (by decide),?_⟩;refine⟨_,rfl,_,_,aj,rfl,aS (by decide),?_⟩;refine⟨_,rfl,_,_,aj,rfl,cx hc64,?_⟩;refine⟨_,rfl,_,_,aj,rfl,aS (by decide),(show(2147483399:Int)≠0 by decide),?_⟩
  have hn:∀n:Int,Bd 64 (n.fmod 2147483399):=fun n=>by
   have h1:=Int.fmod_nonneg_of_pos n (show(0:Int)<2147483399 by decide)
   have h2:=Int.fmod_lt_of_pos n (show(0:Int)<2147483399 by decide)
   show(n.fmod 2147483399).natAbs<2^64
   omega
  refine⟨_,rfl,_,rfl,aS (hn _),_,rfl,aS (by decide),_,rfl,_,_,aj,rfl,(show(2147483647:Int)≠0 by decide),?_⟩;refine⟨_,rfl,⟨by decide,cm (by decide)⟩,_,rfl,hb0,?_⟩;exact rtn (q _ _ (hm _).1 (hm _).2)
theorem cR:FnScope ["_law_row","_law_top","_law_bottom","_law_far"] ["_law_row"] (ao iA):=by walk_at "sc"
inductive Cn_law_scale(u:D)(M:MH)(Q:DK):Prop
 |mk (r:Addr) (x c:Int) (_:u=.ref r) (_:M r=some (.lst [.int x,.int c])) (_:0<=c) (_:c<900000) (_:∀x' c' t b p q,Scl t b p q->0<=c'->c'<=c+10->Q (scl t b p q) (aw M r (.lst [.int x',.int c'])))
theorem m4(T:Tx K mg):Cal P w K mg base 2 "_law_scale" (sD1 Cn_law_scale):=by
 refine eD (k:=1) T.f_law_scale cR fun f cdv A outer s H E hr=>⟨_,(ai (dM 1 2 rfl cR.nd (aa (av aU ag (ak (aF T).m hr (aa (dv 0) (aa ag af)))) (aa (av aU ag (ak (aF T).m hr (aa (dv 0) (aa ag af)))) af))) (ai (bo (aH (cg hr.units) (ak (aF T).m hr (aa (dv 0) (aa ag af))) ag) (aq (dM 1 2 rfl cR.nd (aa (av aU ag (ak (aF T).m hr (aa (dv 0) (aa (av gY ag ag) af)))) (aa (av aU ag (ak (aF T).m hr (aa (dv 0) (aa (av gY ag ag) af)))) af)))) aL) (ai (aA 3 cR.nd (au (cF (aa ag (aa (av gY ag ag) af))) (cj mB rfl T.b_int lQ (aa (cv (cg hr.units) (ak (aF T).m hr (aa (dv 0) (aa ag af))) ag) af)))) (aq (az (aG (aa (dv 1) (aa (dv 2) (aa (av aD (dv 3) (av cG (ak (aF T).m hr (aa (dv 0) (aa ag af))) ag)) (aa (av aD (dv 3) (av cG (ak (aF T).m hr (aa (dv 0) (aa ag af))) ag)) af)))))))))),fun _ M Q h=>?_⟩;obtain⟨r,x,c,rfl,hM,hc0,hc1,k⟩:=h;refine⟨_,rfl,r,6,x,c,rfl,rfl,hM,hc0,by omega,by decide,cm (by decide),fun x1 v1 h10 h11=>?_⟩;refine⟨_,rfl,r,6,x1,c+1,rfl,rfl,aj,by omega,by omega,by decide,cm (by decide),fun x2 v2 h20 h21=>?_⟩;refine⟨_,_,rfl,?_⟩;(try dsimp only[SD.bc])
 refine gc (fun δ M'=>∃x c' t b o3,0<=c'/\c'<=c+5/\(0<t/\t<=10^9/\0<b/\b<=10^9)/\M'=aw M r (.lst [.int x,.int c'])/\δ=[some (.ref r),some (.int t),some (.int b),o3]) ?_ (fun hu=>?_);rotate_left
 ·refine⟨_,rfl,r,4,x2,c+1+1,rfl,rfl,aj,by omega,by omega,by decide,cm (by decide),fun x3 v3 h30 h31=>⟨_,rfl,?_⟩⟩;refine bS (fun _=>?_) (fun _=>?_)
  ·refine⟨_,rfl,⟨by decide,by decide,by decide⟩,r,10^9,x3,c+1+1+1,rfl,rfl,aj,by omega,by omega,by decide,cm (by decide),fun x4 v4 h40 h41=>?_⟩;refine⟨_,rfl,⟨by decide,by decide,by decide⟩,r,10^9,x4,c+1+1+1+1,rfl,rfl,aj,by omega,by omega,by decide,cm (by decide),fun x5 v5 h50 h51=>?_⟩;refine⟨_,_,rfl,hu _ _ ⟨x5,c+1+1+1+1+1,1+v4,1+v5,none,by omega,by omega,by omega,?_,rfl⟩⟩;simp only[aX]
  ·refine hu _ _ ⟨x3,c+1+1+1,1+v1,1+v2,none,by omega,by omega,by omega,?_,rfl⟩;simp only[aX]
 rintro δ M' ⟨x,c',t,b,o3,hc0',hc1',hb,rfl,rfl⟩;refine⟨⟨by decide,by decide,by decide⟩,nbL rfl,fun p hp=>?_⟩;have npr:r≠p:=aC aj hp;refine⟨_,rfl,r,6,x,c',rfl,rfl,(by rw[ar npr,aj]),by omega,by omega,by decide,cm (by decide),fun x6 v6 h60 h61=>?_⟩
 have hf:∃f:Int,atI [D.int 1,D.int (10^15)] (if decide (v6=0)=true then 1 else 0)=some (.int f)/\1<=f/\f<=10^15:=by
  by_cases z:v6=0
  ·exact⟨10^15,by rw[if_pos (by simpa using z)];rfl,by decide,by decide⟩
  ·exact⟨1,by rw[if_neg (by simpa using z)];rfl,by decide,by decide⟩
 obtain⟨f,ef,hf0,hf1⟩:=hf;refine⟨_,_,(by rw[ar npr.symm,aj];rfl),ef,?_⟩;have bf:Bd 64 f:=by show f.natAbs<2^64;omega
 refine⟨_,rfl,_,rfl,_,rfl,_,rfl,r,41,x6,c'+1,rfl,rfl,aj,by omega,by omega,by decide,cm (by decide),fun x7 v7 h70 h71=>⟨trivial,aS bf,?_⟩⟩;refine⟨_,rfl,_,rfl,r,41,x7,c'+1+1,rfl,rfl,aj,by omega,by omega,by decide,cm (by decide),fun x8 v8 h80 h81=>⟨trivial,aS bf,nbL rfl,?_⟩⟩
 have bnd:∀v:Int,0<=v->v<41->-(10^17)<=f*(v-20)/\f*(v-20)<=10^17:=fun v a b=>by
  have h1:f*(v-20)<=f*20:=Int.mul_le_mul_of_nonneg_left (by omega) (by omega)
  have h2:f*(-20)<=f*(v-20):=Int.mul_le_mul_of_nonneg_left (by omega) (by omega)
  omega
 have q7:=bnd v7 h70 h71;have q8:=bnd v8 h80 h81;refine⟨aw M r (.lst [.int x8,.int (c'+1+1+1)]),?_,k _ _ _ _ _ _ ⟨hb.1,by omega,hb.2.2.1,by omega,by omega,by omega,by omega,by omega⟩ (by omega) (by omega)⟩;simp only[aX];refine .Ej ?_;intro a o ne e;have:a≠p:=fun z=>by subst z;rw[ar ne]at hp;rw[hp]at e;cases e
 rw[ar this,ar ne];exact e
theorem dq:FnScope ["_law_one","_law_two","_law_three","_law_far","_law_beside","_law_found"] ["_law_one","_law_two","_law_three"] (ao ja):=by walk_at "sc"
inductive Cn_law_turn(u v w:D)(M:MH)(Q:DK):Prop
 |mk (a b c d e f:Int) (_:u=.tup [.int a,.int b]) (_:v=.tup [.int c,.int d]) (_:w=.tup [.int e,.int f]) (_:Bd 6 a) (_:Bd 6 b) (_:Bd 6 c) (_:Bd 6 d) (_:Q (.int (Fo (crs (c-a) (d-b) (e-a) (f-b)))) M)
theorem fT(T:Tx K mg):Cal P w K mg base 1 "_law_turn" (sD3 Cn_law_turn):=by
 refine lF (k:=0) T.f_law_turn dq fun f cdv A outer s H E hr=>⟨_,(ai (aA 3 dq.nd (aG (aa (av cG (au (dv 1) ag) (au (dv 0) ag)) (aa (av cG (au (dv 1) ag) (au (dv 0) ag)) af)))) (ai (aA 4 dq.nd (aG (aa (av cG (au (dv 2) ag) (au (dv 0) ag)) (aa (av cG (au (dv 2) ag) (au (dv 0) ag)) af)))) (ai (aA 5 dq.nd (av cG (av aD (au (dv 3) ag) (au (dv 4) ag)) (av aD (au (dv 3) ag) (au (dv 4) ag)))) (aq (az (av cG (cj mB rfl T.b_int lQ (aa (cv (l6 hr.units) (dv 5) ag) af)) (cj mB rfl T.b_int lQ (aa (cv (eN hr.units) (dv 5) ag) af)))))))),fun _ _ _ M Q h=>?_⟩;obtain⟨a,b,c,d,e,f,rfl,rfl,rfl,ha,hb,hc,hd,k⟩:=h;refine⟨_,rfl,_,rfl,_,rfl,_,rfl,trivial,_,rfl,_,rfl,_,rfl,_,rfl,trivial,nbL rfl,?_⟩;refine⟨_,rfl,_,rfl,_,rfl,_,rfl,trivial,_,rfl,_,rfl,_,rfl,_,rfl,trivial,nbL rfl,?_⟩;refine⟨_,rfl,_,rfl,_,rfl,_,rfl,aS ((hc.sub ha).mono (by decide)),_,rfl,_,rfl,_,rfl,_,rfl,aS ((hd.sub hb).mono (by decide)),trivial,?_⟩;refine⟨_,rfl,trivial,_,rfl,trivial,trivial,?_⟩
 have e1:(if decide (0<(c-a)*(f-b)-(d-b)*(e-a))=true then(1:Int)else 0)-(if decide ((c-a)*(f-b)-(d-b)*(e-a)<0)=true then(1:Int)else 0)=Fo (crs (c-a) (d-b) (e-a) (f-b)):=by
  unfold crs;generalize (c-a)*(f-b)-(d-b)*(e-a)=z;rcases FJ z 0 with h|h|h
  ·rw[FU h,if_neg (by simp;omega),if_pos (by simpa using h)];rfl
  ·subst h;rfl
  ·rw[Gm h,if_pos (by simpa using h),if_neg (by simp;omega)];rfl
 dsimp only;rw[e1];exact rtn k
theorem si:FnScope ["_law_shut","_law_spot_here"] ["_law_shut","_law_spot_here"] (ao nP):=by walk_at "sc"
inductive Cn_law_on(u v:D)(M:MH)(Q:DK):Prop
 |mk (w:Wl) (x y:Int) (_:u=uw w) (_:v=.tup [.int x,.int y]) (_:Un5 w) (_:(0<=x/\x<=20)) (_:(0<=y/\y<=20)) (_:Q (.bl (decide (l1 w<=la x y)&&decide (la x y<=l2 w)&&decide (sd w x y=0))) M)
theorem t9(T:Tx K mg):Cal P w K mg base 2 "_law_on" (sD2 Cn_law_on):=by
 refine bg (k:=1) T.f_law_on si fun f cdv A outer s H E hr=>⟨_,(aq (az (mR (tS (vM hr.units) (vM hr.units) (au (dv 0) ag) (dv 1) (au (dv 0) ag)) (mw (cv (cg hr.units) (ak (fT T).m hr (aa (au (dv 0) ag) (aa (au (dv 0) ag) (aa (dv 1) af)))) ag))))),fun _ _ M Q h=>?_⟩;obtain⟨w,x,y,rfl,rfl,W,hx,hy,k⟩:=h;(try dsimp only[SD.d6,SD.cK,SD.bc,SD.eJ,SD.eQ,SD.cn,SD.cT,SD.tBD,SD.eL])
 refine xU (decide (l1 w<=la x y)&&decide (la x y<=l2 w)) (decide (sd w x y=0)) (fun K hK=>?_) (fun _ K hK=>?_) (rtn k)
 ·refine⟨_,rfl,_,rfl,_,rfl,[w.1,w.2.1],[x,y],rfl,rfl,_,rfl,?_⟩;rw[zL W.b hy];refine bS (fun h=>?_) (fun h=>?_)
  ·refine⟨_,rfl,_,rfl,[x,y],[w.2.2.1,w.2.2.2],rfl,rfl,?_⟩;rw[zL hy W.d];have h':decide (l1 w<=la x y)=true:=h;rw[h',Bool.true_and]at hK;exact hK
  ·have h':decide (l1 w<=la x y)=false:=eq_false_of_ne_true h;rw[h',Bool.false_and]at hK;exact hK
 ·refine⟨_,rfl,_,rfl,_,rfl,_,rfl,_,rfl,w.1,w.2.1,w.2.2.1,w.2.2.2,x,y,rfl,rfl,rfl,dH W.a,dH W.b,dH W.c,dH W.d,?_⟩;have e:decide (Fo (crs (w.2.2.1-w.1) (w.2.2.2-w.2.1) (x-w.1) (y-w.2.1))=0)=decide (sd w x y=0):=by rw[decide_eq_decide];exact Int.sign_eq_zero_iff_zero
  try dsimp only
  show K (.bl (decide _)) _;rw[e];exact hK
theorem b5:FnScope ["_law_one","_law_other","_law_shut","_law_beside","_law_spot_here","_law_sides","_law_others"] ["_law_one","_law_other"] (ao jf):=by walk_at "sc"
inductive Cn_law_fair(u v:D)(M:MH)(Q:DK):Prop
 |mk (U V:Wl) (_:u=uw U) (_:v=uw V) (_:Un5 U) (_:Un5 V) (_:∀b:Bool,(b=true->Fair U V)->Q (.bl b) M)
theorem pX(T:Tx K mg):Cal P w K mg base 3 "_law_fair" (sD2 Cn_law_fair):=by
 refine bg (k:=2) T.f_law_fair b5 fun f cdv A outer s H E hr=>⟨_,(ai (bo (aH (cg hr.units) (dv 0) (dv 1)) (aq (az iB)) aL) (ai (bH Ft rfl (aO (aG (aa (aG (aa (dv 0) (aa (dv 1) af))) (aa (aG (aa (dv 1) (aa (dv 0) af))) af)))) (bj rfl (ay (ax 2 b5.nd) (ay (ax 3 b5.nd) aR))) (aq (bH Ft rfl (aO (dv 3)) (ax 4 b5.nd) (aq (bo (lU (iU (aH (vX (f7 hr)) (dv 4) (dv 2) (by with_unfolding_all rfl)) (gI (cH (ak (t9 T).m hr (aa (dv 2) (aa (dv 4) af))))))) (aq (az iB)) aL))))) (ai (f6 5 b5.nd (CScope.of (xs:=["_law_spot_here"]) (js:=[0]) rfl) rfl (aO (dv 1)) (fun _ _ _ _=>dh) (fun _ _ _ _=>(ak (fT T).m hr (aa (au (dv 1) ag) (aa (au (dv 1) ag) (aa (dv 0) af)))))) (ai (f6 6 b5.nd (CScope.of (xs:=["_law_spot_here"]) (js:=[1]) rfl) rfl (aO (dv 0)) (fun _ _ _ _=>dh) (fun _ _ _ _=>(ak (fT T).m hr (aa (au (dv 1) ag) (aa (au (dv 1) ag) (aa (dv 0) af)))))) (aq (az (DO (cv (p5 hr.units) (av aD (au (dv 5) ag) (au (dv 5) ag)) ag) (mw (cv (p5 hr.units) (av aD (au (dv 6) ag) (au (dv 6) ag)) ag))))))))),fun _ _ M Q h=>?_⟩;obtain⟨U,V,rfl,rfl,HU,HV,k⟩:=h;refine⟨_,rfl,_,rfl,_,_,Pd.of rfl,Pd.of rfl,rfl,rfl,_,rfl,?_⟩;refine bS (fun h=>rtn (k false (fun z=>absurd z F4))) (fun h=>?_);have hne:¬(l1 U=l1 V/\l2 U=l2 V):=fun⟨z1,z2⟩=>by apply h;obtain⟨a1,a2⟩:=mS HU.b HV.b z1;obtain⟨a3,a4⟩:=mS HU.d HV.d z2;simp only[FG,G8,iL,a1,a2,a3,a4];simp
 dsimp only[SD.cn];refine gc (fun δ M'=>M'=M/\(∃o2 o3 o4,δ=[some (uw U),some (uw V),o2,o3,o4,none,none])/\(aY U (l1 V) (sd1 U V)/\aY U (l2 V) (sd2 U V))/\(aY V (l1 U) (sd1 V U)/\aY V (l2 U) (sd2 V U))) ?_ (fun hu=>?_);rotate_left
 ·refine⟨_,rfl,_,rfl,nbL rfl,_,rfl,_,rfl,nbL rfl,nbL rfl,[.tup [uw U,uw V],.tup [uw V,uw U]],rfl,?_⟩;refine⟨fun i δ M'=>M'=M/\(∃o2 o3 o4,δ=[some (uw U),some (uw V),o2,o3,o4,none,none])/\(0<i->aY U (l1 V) (sd1 U V)/\aY U (l2 V) (sd2 U V))/\(1<i->aY V (l1 U) (sd1 V U)/\aY V (l2 U) (sd2 V U)),⟨rfl,⟨_,_,_,rfl⟩,fun z=>absurd z (by decide),fun z=>absurd z (by decide)⟩,fun _ _ _ _ _=>rfl,?_,?_⟩
  ·rintro i d δ M' hi hd ⟨rfl,⟨o2,o3,o4,rfl⟩,p1,p2⟩;have hi:i<2:=hi;have hd:[D.tup [uw U,uw V],.tup [uw V,uw U]][i]?=some d:=hd
   have pick:∃A B,d=.tup [uw A,uw B]/\Un5 A/\Un5 B/\((aY A (l1 B) (sd1 A B)/\aY A (l2 B) (sd2 A B))->(0<i+1->aY U (l1 V) (sd1 U V)/\aY U (l2 V) (sd2 U V))/\(1<i+1->aY V (l1 U) (sd1 V U)/\aY V (l2 U) (sd2 V U))):=by
    rcases(show i=0\/i=1 by omega)with rfl|rfl
    ·cases hd;exact⟨U,V,rfl,HU,HV,fun z=>⟨fun _=>z,fun y=>absurd y (by decide)⟩⟩
    ·cases hd;exact⟨V,U,rfl,HV,HU,fun z=>⟨fun _=>p1 (by decide),fun _=>z⟩⟩
   obtain⟨A,B,rfl,HA,HB,nxt⟩:=pick;refine⟨_,rfl,rfl,_,_,rfl,_,_,rfl,rfl,?_⟩;refine⟨_,rfl,[.tup [.int B.1,.int B.2.1],.tup [.int B.2.2.1,.int B.2.2.2]],rfl,?_⟩;refine⟨fun j δ M''=>M''=M'/\(∃o4,δ=[some (uw U),some (uw V),some (uw A),some (uw B),o4,none,none])/\(0<j->aY A (l1 B) (sd1 A B))/\(1<j->aY A (l2 B) (sd2 A B)),⟨rfl,⟨_,rfl⟩,fun z=>absurd z (by decide),fun z=>absurd z (by decide)⟩,fun _ _ _ _ _=>rfl,?_,?_⟩
   ·rintro j d δ M'' hj hd ⟨rfl,⟨o4,rfl⟩,q1,q2⟩;have hj:j<2:=hj;have hd:[D.tup [.int B.1,.int B.2.1],.tup [.int B.2.2.1,.int B.2.2.2]][j]?=some d:=hd
    have pk:∃x y,d=.tup [.int x,.int y]/\(0<=x/\x<=20)/\(0<=y/\y<=20)/\(aY A (la x y) (sd A x y)->(0<j+1->aY A (l1 B) (sd1 A B))/\(1<j+1->aY A (l2 B) (sd2 A B))):=by
     rcases(show j=0\/j=1 by omega)with rfl|rfl
     ·cases hd;exact⟨_,_,rfl,HB.a,HB.b,fun z=>⟨fun _=>z,fun y=>absurd y (by decide)⟩⟩
     ·cases hd;exact⟨_,_,rfl,HB.c,HB.d,fun z=>⟨fun _=>q1 (by decide),fun _=>z⟩⟩
    obtain⟨x,y,rfl,hx,hy,nx2⟩:=pk;(try dsimp only[SD.d6,SD.cK,SD.bc,SD.eJ,SD.eQ,SD.cn,SD.cT,SD.tBD,SD.eL])
    refine wg (!(decide (A.1=x/\A.2.1=y)||decide (A.2.2.1=x/\A.2.2.2=y))) (decide (l1 A<=la x y)&&decide (la x y<=l2 A)&&decide (sd A x y=0)) (fun K hK=>⟨_,rfl,_,rfl,AV _ A x y _ _ ⟨_,rfl,hK⟩⟩) (fun _ K hK=>⟨_,rfl,_,rfl,A,x,y,rfl,rfl,HA,hx,hy,_,rfl,hK⟩) ?_;refine bS (fun _=>rtn (k false (fun z=>absurd z F4))) (fun h=>?_);exact⟨rfl,⟨_,rfl⟩,nx2 (vJ HA hy (eq_false_of_ne_true h))⟩
   ·rintro δ M'' ⟨rfl,⟨o4,rfl⟩,q1,q2⟩;exact⟨rfl,⟨_,_,_,rfl⟩,nxt ⟨q1 (show 0<2 by decide),q2 (show 1<2 by decide)⟩⟩
  ·rintro δ M' ⟨rfl,⟨o2,o3,o4,rfl⟩,p1,p2⟩;exact hu _ _ ⟨rfl,⟨_,_,_,rfl⟩,p1 (show 0<2 by decide),p2 (show 1<2 by decide)⟩
 rintro δ M' ⟨rfl,⟨o2,o3,o4,rfl⟩,⟨e1,e2⟩,⟨e3,e4⟩⟩;refine⟨_,rfl,[.tup [.int V.1,.int V.2.1],.tup [.int V.2.2.1,.int V.2.2.2]],rfl,comp_map (fun j=>if j=0 then .int (Fo (sd1 U V))else .int (Fo (sd2 U V))) (nbL rfl) (fun _ _ _=>rfl) ?_ (fun p hp=>?_)⟩
 ·intro j e' M2 hj he' _;have hj:j<2:=hj;have he':[D.tup [.int V.1,.int V.2.1],.tup [.int V.2.2.1,.int V.2.2.2]][j]?=some e':=he';rcases(show j=0\/j=1 by omega)with rfl|rfl
  ·cases he';exact⟨_,rfl,fun K2 hK2=>⟨_,rfl,_,rfl,_,rfl,_,rfl,_,rfl,U.1,U.2.1,U.2.2.1,U.2.2.2,_,_,rfl,rfl,rfl,dH HU.a,dH HU.b,dH HU.c,dH HU.d,hK2 _ .refl⟩⟩
  ·cases he';exact⟨_,rfl,fun K2 hK2=>⟨_,rfl,_,rfl,_,rfl,_,rfl,_,rfl,U.1,U.2.1,U.2.2.1,U.2.2.2,_,_,rfl,rfl,rfl,dH HU.a,dH HU.b,dH HU.c,dH HU.d,hK2 _ .refl⟩⟩
 refine⟨_,rfl,[.tup [.int U.1,.int U.2.1],.tup [.int U.2.2.1,.int U.2.2.2]],rfl,comp_map (fun j=>if j=0 then .int (Fo (sd1 V U))else .int (Fo (sd2 V U))) (nbL rfl) (fun _ _ _=>rfl) ?_ (fun p2 hp2=>?_)⟩
 ·intro j e' M2 hj he' _;have hj:j<2:=hj;have he':[D.tup [.int U.1,.int U.2.1],.tup [.int U.2.2.1,.int U.2.2.2]][j]?=some e':=he';rcases(show j=0\/j=1 by omega)with rfl|rfl
  ·cases he';exact⟨_,rfl,fun K2 hK2=>⟨_,rfl,_,rfl,_,rfl,_,rfl,_,rfl,V.1,V.2.1,V.2.2.1,V.2.2.2,_,_,rfl,rfl,rfl,dH HV.a,dH HV.b,dH HV.c,dH HV.d,hK2 _ .refl⟩⟩
  ·cases he';exact⟨_,rfl,fun K2 hK2=>⟨_,rfl,_,rfl,_,rfl,_,rfl,_,rfl,V.1,V.2.1,V.2.2.1,V.2.2.2,_,_,rfl,rfl,rfl,dH HV.a,dH HV.b,dH HV.c,dH HV.d,hK2 _ .refl⟩⟩
 have n12:p≠p2:=aC aj hp2;have c1:(aw (aw M' p (.lst [.int (Fo (sd1 U V)),.int (Fo (sd2 U V))])) p2 (.lst [.int (Fo (sd1 V U)),.int (Fo (sd2 V U))])) p=some (.lst [.int (Fo (sd1 U V)),.int (Fo (sd2 U V))]):=by rw[ar n12,aj]
 (try dsimp only[SD.d6,SD.cK,SD.bc,SD.eJ,SD.eQ,SD.cn,SD.cT,SD.tBD,SD.eL])
 refine orV (decide (0<=Fo (sd1 U V)*Fo (sd2 U V))) (decide (0<=Fo (sd1 V U)*Fo (sd2 V U))) (fun K hK=>⟨_,rfl,_,_,c1,rfl,_,rfl,_,_,c1,rfl,aS (zt _),trivial,hK⟩) (fun _ K hK=>⟨_,rfl,_,_,aj,rfl,_,rfl,_,_,aj,rfl,aS (zt _),trivial,hK⟩) ?_;refine⟨M',.new hp2 (.new hp .refl),k _ fun z=>⟨hne,e1,e2,e3,e4,?_⟩⟩;rw[Bool.or_eq_true,decide_eq_true_eq,decide_eq_true_eq]at z;exact z
theorem aN:FnScope ["_law_row","_law_most","_law_size","_law_shuts","_law_turn_here","_law_one","_law_other","_law_shut"] ["_law_row","_law_most","_law_size"] (ao dF):=by walk_at "sc"
inductive Cn_law_shuts_here(u m n:D)(M:MH)(Q:DK):Prop
 |mk (r:Addr) (x c m':Int) (_:u=.ref r) (_:m=.int m') (_:(0<=m'/\m'<=12)) (_:n=.int 5) (_:M r=some (.lst [.int x,.int c])) (_:0<=c) (_:c<1000) (_:∀(M'':MH) (x' c':Int) (l:Addr) (ws:List Wl),r≠l->M'' r=some (.lst [.int x',.int c'])->M'' l=some (.lst (ws.map uw))->0<=c'->c'<=c+140->(ws.length:Int)<=m'->(∀w∈ws,Un5 w)->PF ws->Q (.ref l) M'')
theorem gS(T:Tx K mg):Cal P w K mg base 4 "_law_shuts_here" (sD3 Cn_law_shuts_here):=by
 refine lF (k:=3) T.f_law_shuts_here aN fun f cdv A outer s H E hr=>⟨_,(ai (aA 3 aN.nd (cF af)) (ai (gw Ft rfl rfl T.b_range (aa (ak (aF T).m hr (aa (dv 0) (aa (av aU (dv 1) ag) af))) af) (ax 4 aN.nd) (ai (aA 5 aN.nd (aG (aa (ak (aF T).m hr (aa (dv 0) (aa (dv 2) af))) (aa (ak (aF T).m hr (aa (dv 0) (aa (dv 2) af))) af)))) (ai (aA 6 aN.nd (aG (aa (ak (aF T).m hr (aa (dv 0) (aa (dv 2) af))) (aa (ak (aF T).m hr (aa (dv 0) (aa (dv 2) af))) af)))) (ai (bo (lU (iU (aH (fH hr.units) (dv 3) (cF af)) (gI (aH (l6 hr.units) (ak (aF T).m hr (aa (dv 0) (aa ag af))) ag)))) (aq (aA 5 aN.nd (au (au (dv 3) (ak (aF T).m hr (aa (dv 0) (aa (aI dR rfl T.b_len dW (aa (dv 3) af)) af)))) (ak (aF T).m hr (aa (dv 0) (aa ag af)))))) aL) (ai (aA 7 aN.nd (aG (aa (aI (mH rfl hr.units) rfl T.b_min pL (aa (dv 5) (aa (dv 6) af))) (aa (aI (rS rfl hr.units) rfl T.b_max tX (aa (dv 5) (aa (dv 6) af))) af)))) (aq (bo (lU (iU (aH (fH hr.units) (dv 5) (dv 6)) (gI (cH (aI (BD rfl) rfl T.b_all AW (aa (jK (CScope.of (xs:=["_law_beside"]) (js:=[7]) rfl) rfl (aO (dv 3)) (fun _ _ _ _=>dh) (fun _ _ _ _=>(ak (pX T).m hr (aa (dv 1) (aa (dv 0) af))))) af)))))) (aq (dS (b4 (dv 3) (aa (dv 7) af)))) aL))))))) (aq (az (dv 3))))),fun _ _ _ M Q h=>?_⟩;obtain⟨r,x0,c0,m,rfl,rfl,hm,rfl,hM,hc0,hc1,k⟩:=h;refine⟨nbL rfl,fun l hl=>?_⟩;have nrl:r≠l:=aC hM hl;refine⟨_,rfl,_,rfl,r,m+1,x0,c0,rfl,rfl,(by rw[ar nrl];exact hM),hc0,by omega,by omega,cm (by omega),fun x1 v h0 h1=>?_⟩;refine⟨v.toNat,?_,by omega,fun i δ M'=>∃(x c:Int) (ws:List Wl) (o4 o5 o6 o7:Option D),δ=[some (.ref r),some (.int m),some (.int 5),some (.ref l),o4,o5,o6,o7]/\M' r=some (.lst [.int x,.int c])/\M' l=some (.lst (ws.map uw))/\0<=c/\c<=c0+1+10*i/\ws.length<=i/\(∀w∈ws,Un5 w)/\PF ws,?_,?_,?_⟩
 ·rw[Int.toNat_of_nonneg h0]
 ·refine⟨x1,c0+1,[],_,_,_,_,rfl,aj,(by rw[ar nrl.symm,aj];rfl),by omega,by omega,by decide,fun w hw=>absurd hw (by simp),Af⟩
 rotate_left
 ·rintro δ M' ⟨x,c,ws,o4,o5,o6,o7,rfl,hr',hl',g0,g1,g2,g3,g4⟩;exact⟨_,rfl,rtn (k M' x c l ws nrl hr' hl' g0 (by omega) (by omega) g3 g4)⟩
 rintro i δ M' hi ⟨x,c,ws,o4,o5,o6,o7,rfl,hr',hl',g0,g1,g2,g3,g4⟩;have hi8:i<=12:=by omega
 refine⟨_,rfl,_,rfl,r,5,x,c,rfl,rfl,hr',g0,by omega,by decide,cm (by decide),fun x1 p hp0 hp1=>?_⟩;refine⟨_,rfl,_,rfl,r,5,x1,c+1,rfl,rfl,aj,by omega,by omega,by decide,cm (by decide),fun x2 q hq0 hq1=>⟨nbL rfl,?_⟩⟩;refine⟨_,rfl,_,rfl,r,5,x2,c+1+1,rfl,rfl,aj,by omega,by omega,by decide,cm (by decide),fun x3 e he0 he1=>?_⟩;refine⟨_,rfl,_,rfl,r,5,x3,c+1+1+1,rfl,rfl,aj,by omega,by omega,by decide,cm (by decide),fun x4 f hf0 hf1=>⟨nbL rfl,?_⟩⟩;have hl4:(aw (aw (aw (aw M' r (.lst [.int x1,.int (c+1)])) r (.lst [.int x2,.int (c+1+1)])) r (.lst [.int x3,.int (c+1+1+1)])) r (.lst [.int x4,.int (c+1+1+1+1)])) l=some (.lst (ws.map uw)):=by rw[ar nrl.symm,ar nrl.symm,ar nrl.symm,ar nrl.symm];exact hl'
 have hr4:(aw (aw (aw (aw M' r (.lst [.int x1,.int (c+1)])) r (.lst [.int x2,.int (c+1+1)])) r (.lst [.int x3,.int (c+1+1+1)])) r (.lst [.int x4,.int (c+1+1+1+1)])) r=some (.lst [.int x4,.int (c+1+1+1+1)]):=aj;generalize aw (aw (aw (aw M' r (.lst [.int x1,.int (c+1)])) r (.lst [.int x2,.int (c+1+1)])) r (.lst [.int x3,.int (c+1+1+1)])) r (.lst [.int x4,.int (c+1+1+1+1)])=M4 at hl4 hr4 ⊢;(try dsimp only[SD.bc])
 refine gc (fun δ M'=>∃(x c' p q:Int) (o7:Option D),δ=[some (.ref r),some (.int m),some (.int 5),some (.ref l),some (.int (i:Int)),some (.tup [.int p,.int q]),some (.tup [.int e,.int f]),o7]/\M' r=some (.lst [.int x,.int c'])/\M' l=some (.lst (ws.map uw))/\0<=c'/\c'<=c+10/\(0<=p/\p<=20)/\(0<=q/\q<=20)) ?_ (fun hu=>?_);rotate_left
 ·refine⟨_,rfl,nbL rfl,fun z hz=>?_⟩;have nrz:r≠z:=aC hr4 hz;have nlz:l≠z:=aC hl4 hz;have hl5:(aw M4 z (.lst [])) l=some (.lst (ws.map uw)):=by rw[ar nlz];exact hl4
  have hr5:(aw M4 z (.lst [])) r=some (.lst [.int x4,.int (c+1+1+1+1)]):=by rw[ar nrz];exact hr4
  refine⟨_,_,.lst hl5 (tW ws),.lst aj .nil,sV ws,rfl,_,rfl,?_⟩;rw[pQ];refine bS (fun hne=>?_) (fun hnil=>?_)
  ·have hpos:0<ws.length:=by
    cases ws with
    |nil=>simp at hne
    |cons w ws=>simp
   refine⟨_,rfl,r,3,x4,c+1+1+1+1,rfl,rfl,hr5,by omega,by omega,by decide,cm (by decide),fun x5 v5 h50 h51=>⟨trivial,_,rfl,?_⟩⟩;have hl6:(aw (aw M4 z (.lst [])) r (.lst [.int x5,.int (c+1+1+1+1+1)])) l=some (.lst (ws.map uw)):=by rw[ar nrl.symm];exact hl5
   refine bS (fun _=>?_) (fun _=>?_)
   ·refine⟨_,rfl,_,rfl,_,rfl,_,hl6,r,((ws.map uw).length:Int),x5,c+1+1+1+1+1,rfl,rfl,aj,by omega,by omega,by simpa using hpos,cm (by simp;omega),fun x6 v6 h60 h61=>?_⟩;obtain⟨w,hw,ew⟩:=yC (ws:=ws) h60 (by simpa using h61);have hw5:=g3 w hw;refine⟨_,_,(by rw[ar nrl.symm];exact hl6),ew,?_⟩;refine⟨_,rfl,r,2,x6,c+1+1+1+1+1+1,rfl,rfl,aj,by omega,by omega,by decide,cm (by decide),fun x7 v7 h70 h71=>?_⟩;obtain⟨a,b,ea,ha,hb⟩:=vW hw5 h70 h71;refine⟨_,ea,hu _ _ ⟨x7,_,a,b,_,rfl,aj,(by rw[ar nrl.symm,ar nrl.symm];exact hl6),by omega,by omega,ha,hb⟩⟩
   ·exact hu _ _ ⟨x5,_,p,q,_,rfl,aj,hl6,by omega,by omega,by omega,by omega⟩
  ·refine iF rfl ?_;exact hu _ _ ⟨x4,_,p,q,_,rfl,hr5,hl5,by omega,by omega,by omega,by omega⟩
 rintro δ M5 ⟨x5,c5,p,q,o7,rfl,hr5,hl5,k0,k1,hp,hq⟩;have he:0<=e/\e<=20:=by omega
 have hf:0<=f/\f<=20:=by omega
 refine⟨_,rfl,_,rfl,[p,q],[e,f],rfl,rfl,?_⟩;refine⟨_,rfl,_,rfl,[p,q],[e,f],rfl,rfl,nbL rfl,?_⟩;refine⟨_,rfl,_,rfl,_,_,Pd.of rfl,Pd.of rfl,rfl,rfl,_,rfl,?_⟩;rw[iQ];refine bS (fun hne=>?_) (fun _=>?_);rotate_left
 ·refine iF rfl ?_;exact⟨x5,c5,ws,_,_,_,_,rfl,hr5,hl5,k0,by omega,by omega,g3,g4⟩
 obtain⟨w,e1,e2,hw⟩:=tN hp hq he hf (fun⟨a,b⟩=>by simp[a,b]at hne);rw[e1,e2];refine⟨_,rfl,ws.map uw,hl5,?_⟩;refine⟨by simp;omega,fun z hz=>?_⟩;have nrz:r≠z:=aC hr5 hz;have nlz:l≠z:=aC hl5 hz;refine⟨fun j ys M'=>∃bs:List Bool,ys=bs.map D.bl/\bs.length=j/\(∀(t:Nat) (v:Wl),bs[t]?=some true->ws[t]?=some v->Fair w v)/\M'=aw M5 z (.lst ys),⟨[],rfl,rfl,fun t v h=>by simp at h,rfl⟩,?_,?_,?_⟩
 ·rintro j ys M' _ ⟨bs,_,_,_,rfl⟩;show(aw M5 z _) l=_;rw[ar nlz];exact hl5
 ·rintro j ys d M' hj hd ⟨bs,rfl,hlen,hf,rfl⟩;have hd:(ws.map uw)[j]?=some d:=hd;rw[E9]at hd;cases ev:ws[j]? with
  |none=>rw[ev]at hd;cases hd
  |some v=>
   rw[ev]at hd
   cases hd
   refine⟨_,rfl,?_⟩
   dsimp only[SD.iV]
   refine A8 ?_
   refine⟨_,rfl,_,rfl,w,v,rfl,rfl,hw,g3 v (EZ ev),fun b hb=>?_⟩
   refine⟨_,.refl,aj,bs++[b],by simp,by simp[hlen],fun t v' ht hv'=>?_,by rw[aX]⟩
   rcases Hr t bs.length with y|y|y
   ·rw[FO y]at ht;exact hf t v' ht hv'
   ·subst y;rw[FL (E8 _)]at ht;have hb':b=true:=by simpa using ht
    rw[hlen,ev]at hv';cases hv';exact hb hb'
   ·rw[List.getElem?_eq_none (by simp;omega)]at ht;cases ht
 rintro ys M' ⟨bs,rfl,hlen,hf,rfl⟩;have hlen':bs.length=ws.length:=by rw[hlen];simp
 have hl6:(aw M5 z (.lst (bs.map D.bl))) l=some (.lst (ws.map uw)):=by rw[ar nlz];exact hl5
 have hr6:(aw M5 z (.lst (bs.map D.bl))) r=some (.lst [.int x5,.int c5]):=by rw[ar nrz];exact hr5
 refine⟨bs,aj,_,rfl,?_⟩;refine bS (fun hall=>?_) (fun _=>?_)
 ·refine⟨_,rfl,l,_,rfl,hl6,_,rfl,ws.map uw,_,rfl,hl6,by simp;omega,?_⟩;refine⟨x5,c5,ws++[w],_,_,_,_,rfl,by rw[ar nrl];exact hr6,by rw[aj,FI];rfl,k0,by omega,by simp;omega,fun v hv=>?_,tO g4 fun t v hv=>hf t v ?_ hv⟩
  ·rcases Fl.mp hv with y|y
   ·exact g3 v y
   ·rw[List.mem_singleton.mp y];exact hw
  ·have ht:t<bs.length:=by rw[hlen'];exact(F0.mp hv).1
   rw[E7 ht];have:=Hj.mp hall _ (G6 ht);exact congrArg some this
 ·exact⟨x5,c5,ws,_,_,_,_,rfl,hr6,hl6,k0,by omega,by omega,g3,g4⟩
theorem cZ:FnScope ["_law_top","_law_bottom","_law_one","_law_other"] ["_law_top","_law_bottom"] (ao k8):=by walk_at "sc"
inductive Cn_law_low(x y:D)(M:MH)(Q:DK):Prop
 |mk (t:_) (b:_) (_:x=.int t) (_:y=.int b) (_:b≠0) (_:Bd 8000 t) (_:Bd 8000 b) (_:Q (Ma.fr (Rat.divInt t b)) M)
theorem eY(T:Tx K mg):Cal P w K mg base 1 "_law_low" (sD2 Cn_law_low):=by
 refine bg (k:=0) T.f_law_low cZ fun f cdv A outer s H E hr=>⟨_,(ai (aA 2 cZ.nd (aI mJ rfl T.b_abs mh (aa (dv 0) af))) (ai (aA 3 cZ.nd (aI mJ rfl T.b_abs mh (aa (dv 1) af))) (ai (gv Ft (aH (fH hr.units) (dv 3) ag) (aq (dM 2 3 rfl cZ.nd (aa (dv 3) (aa (av fK (dv 2) (dv 3)) af))))) (ai (bo (aH (eN hr.units) (dv 1) ag) (aq (aA 2 cZ.nd (m9 gz (dv 2)))) aL) (aq (az (aG (aa (av fm (dv 0) (dv 2)) (aa (av fm (dv 1) (dv 2)) af))))))))),fun _ _ M Q h=>?_⟩;obtain⟨t,b,rfl,rfl,hb,ht,hbb,q⟩:=h;refine⟨_,rfl,_,rfl,?_⟩;have hg:=Ma.dJ (t:=t) hb;have hgd:Bd 8000 ((HW t.natAbs b.natAbs:Nat):Int):=hbb.of_le (by simpa using Nat.gcd_le_right t.natAbs (show 0<b.natAbs by omega));refine⟨fun m δ M'=>M'=M/\∃x y:Nat,δ=[some (.int t),some (.int b),some (.int x),some (.int y)]/\HW x y=HW t.natAbs b.natAbs/\m=y,⟨_,rfl,_,_,rfl,rfl,rfl⟩,?_⟩;rintro m δ M' ⟨rfl,x,y,rfl,hxy,hm⟩;refine⟨_,rfl,_,rfl,?_⟩;refine bS (fun h=>?_) (fun h=>?_)
 ·have hy:(y:Int)≠0:=by simpa using h
  refine⟨_,rfl,_,rfl,_,rfl,hy,_,_,rfl,?_⟩;have hy':0<y:=by omega
  refine⟨x%y,by rw[hm];exact Nat.mod_lt _ hy',rfl,y,x%y,?_,?_,rfl⟩
  ·rw[<-Ma.rN];rfl
  ·rw[<-hxy,Nat.gcd_comm x y,Nat.gcd_rec y x,Nat.gcd_comm]
 ·have hy:y=0:=by simpa using h
  subst hy;rw[Nat.gcd_zero_right]at hxy;subst hxy;(repeat (first|refine⟨_,rfl,?_⟩|refine⟨trivial,?_⟩|refine⟨_,_,rfl,?_⟩|refine⟨rfl,?_⟩|refine⟨nbL rfl,?_⟩))
  refine bS (fun h=>?_) (fun h=>?_)
  ·have hneg:b<0:=by simpa using h
   obtain⟨e1,e2⟩:=Ma.rM (t:=t) hneg;refine⟨_,rfl,_,rfl,_,rfl,⟨by omega,hgd.neg⟩,_,rfl,_,rfl,⟨by omega,hgd.neg⟩,nbL rfl,?_⟩;dsimp only;rw[e1,e2];exact rtn q
  ·have hpos:0<b:=by
    have:¬b<0:=by simpa using h
    omega
   obtain⟨e1,e2⟩:=Ma.qZ (t:=t) hpos;refine⟨_,rfl,_,rfl,⟨by omega,hgd⟩,_,rfl,_,rfl,⟨by omega,hgd⟩,nbL rfl,?_⟩;dsimp only;rw[e1,e2];exact rtn q
theorem cC:FnScope ["_law_scale_here","_law_unit","_law_top","_law_bottom","_law_x","_law_y"] ["_law_scale_here","_law_unit"] (ao j0):=by walk_at "sc"
inductive Cn_law_spot(s v:D)(M:MH)(Q:DK):Prop
 |mk (t b x y p q:Int) (_:s=scl t b x y) (_:v=.tup [.int p,.int q]) (_:Scl t b x y) (_:(-(10^6)<=p/\p<=10^6)) (_:(-(10^6)<=q/\q<=10^6)) (_:Q (Ma.spt (Ma.ut t b x 1 p) (Ma.ut t b y 1 q)) M)
theorem jx(T:Tx K mg):Cal P w K mg base 2 "_law_spot" (sD2 Cn_law_spot):=by
 refine bg (k:=1) T.f_law_spot cC fun f cdv A outer s H E hr=>⟨_,(ai (bR (dv 0) (bj rfl (ay (ax 2 cC.nd) (ay (ax 3 cC.nd) (ay (ax 4 cC.nd) (ay (ax 5 cC.nd) aR)))))) (aq (az (aG (aa (ak (eY T).m hr (aa (av aU (av aD (au (dv 1) ag) (dv 2)) (dv 4)) (aa (dv 3) af))) (aa (ak (eY T).m hr (aa (av aU (av aD (au (dv 1) ag) (dv 2)) (dv 5)) (aa (dv 3) af))) af)))))),fun _ _ M Q h=>?_⟩;obtain⟨t,b,x,y,p,q,rfl,rfl,S,hp,hq,k⟩:=h;have bt:Bd 100 t:=by have:=S.t0;have:=S.t1;show t.natAbs<2^100;omega
 have bp:∀{z:Int},(-(10^6)<=z/\z<=10^6)->Bd 64 z:=fun{z} h=>by show z.natAbs<2^64;omega
 have bb:Bd 8000 b:=by have:=S.b0;have:=S.b1;exact Bd.mono (m:=100) (by show b.natAbs<2^100;omega) (by decide)
 have big:∀{z w:Int},(-(10^6)<=z/\z<=10^6)->(-(10^30)<=w/\w<=10^30)->Bd 8000 (z*t+w):=fun{z w} h1 h2=>by
  have e1:Bd 164 (z*t):=(bp h1).mul bt
  have e2:Bd 164 w:=by show w.natAbs<2^164;omega
  exact(e1.add e2).mono (by decide)
 have hb0:b≠0:=by have:=S.b0;omega
 refine⟨_,rfl,_,rfl,rfl,_,_,rfl,_,_,rfl,_,_,rfl,_,_,rfl,rfl,?_⟩;refine⟨_,rfl,_,rfl,_,rfl,aS (bp hp),_,rfl,_,rfl,p*t+x,b,rfl,rfl,hb0,big hp ⟨S.x0,S.x1⟩,bb,?_⟩;refine⟨_,rfl,_,rfl,_,rfl,aS (bp hq),_,rfl,_,rfl,q*t+y,b,rfl,rfl,hb0,big hq ⟨S.y0,S.y1⟩,bb,nbL rfl,?_⟩;rw[Ma.vh,Ma.vh];exact rtn k
theorem nE:FnScope ["_law_scale_here","_law_shuts"] ["_law_scale_here","_law_shuts"] (ao i8):=by walk_at "sc"
inductive Cn_law_made(s v:D)(M:MH)(Q:DK):Prop
 |mk (t b x y:Int) (l:Addr) (ws:List (Int×Int×Int×Int)) (_:s=scl t b x y) (_:v=.ref l) (_:M l=some (.lst (ws.map uw))) (_:Scl t b x y) (_:ws.length<=1000) (_:(∀w∈ws,Uok (10^6) w)) (_:Q (.tup (ws.map (rwl t b x y))) M)
theorem jH(T:Tx K mg):Cal P w K mg base 3 "_law_made" (sD2 Cn_law_made):=by
 refine bg (k:=2) T.f_law_made nE fun f cdv A outer s H E hr=>⟨_,(aq (az (cj vb rfl T.b_tuple nW (aa (we (CScope.of (xs:=["_law_first","_law_second"]) (js:=[0]) rfl) rfl (aO (dv 1)) (fun _ _ _ _=>dh) (fun _ _ _ _=>(aG (aa (ak (jx T).m hr (aa (dv 2) (aa (dv 0) af))) (aa (ak (jx T).m hr (aa (dv 2) (aa (dv 1) af))) af))))) af)))),fun _ _ M Q h=>?_⟩;obtain⟨t,b,x,y,l,ws,rfl,rfl,hM,S,hl,hw,k⟩:=h;refine⟨_,rfl,ws.map uw,hM,comp_map (fun i=>((ws.map (rwl t b x y))[i]?).getD .non) (by simp;omega) (fun p ys hp=>?_) ?_ (fun p hp=>⟨_,aj,?_⟩)⟩
 ·show(aw M p _) l=_;rw[ar (aC hM hp)];exact hM
 ·intro i e M' hi he _;have he:(ws.map uw)[i]?=some e:=he;rw[E9]at he;cases ew:ws[i]? with
  |none=>rw[ew]at he;cases he
  |some w=>
   rw[ew]at he
   cases he
   obtain⟨u1,u2,u3,u4⟩:=hw w (EZ ew)
   refine⟨_,⟨_,rfl,rfl,rfl⟩,fun K hK=>?_⟩
   have hK':=hK M' .refl
   rw[getD_map ew]at hK'
   refine⟨_,rfl,_,rfl,t,b,x,y,w.1,w.2.1,rfl,rfl,S,u1,u2,?_⟩
   exact⟨_,rfl,_,rfl,t,b,x,y,w.2.2.1,w.2.2.2,rfl,rfl,S,u3,u4,nbL rfl,hK'⟩
 ·refine⟨_,.new hp .refl,?_⟩
  have e:(Fg (ws.map uw).length).map (fun i=>((ws.map (rwl t b x y))[i]?).getD .non)=ws.map (rwl t b x y):=by
   have:=SD.range_getD (ws.map (rwl t b x y))
   rw[E6]at this ⊢
   exact this
  dsimp only;rw[e];exact k
theorem aZ:FnScope ["_law_row","_law_shuts","_law_at","_law_first","_law_second","_law_below","_law_part","_law_x","_law_y","_law_corners"] ["_law_row","_law_shuts"] (ao jz):=by walk_at "sc"
inductive Cn_law_told(u v:D)(M:MH)(Q:DK):Prop
 |mk (r l:Addr) (x c:Int) (ws:List Wl) (_:u=.ref r) (_:v=.ref l) (_:r≠l) (_:M r=some (.lst [.int x,.int c])) (_:0<=c) (_:c<900000) (_:M l=some (.lst (ws.map uw))) (_:(∀w∈ws,Un5 w)) (_:0<ws.length) (_:ws.length<=9) (_:∀(x' c' m p:Int) (w:Wl) (q:Str) (n:Nat),0<=c'->c'<=c+3->w∈ws->1<=m->m<=6->0<=p->p<=m->PyData.strOk q=true->(∀t b X Y:Int,0<t->0<b->Told t b X Y ws (Ma.spt (Ma.ut t b X m (ix w m p)) (Ma.ut t b Y m (iy w m p))) (.tup [.str q,.int (n:Int)]))->Q (.tup [.tup [.int (ix w m p),.int (iy w m p),.int m],.tup [.str q,.int (n:Int)]]) (aw M r (.lst [.int x',.int c'])))
theorem pW(T:Tx K mg):Cal P w K mg base 2 "_law_told" (sD2 Cn_law_told):=by
 refine bg (k:=1) T.f_law_told aZ fun f cdv A outer s H E hr=>⟨_,(ai (aA 2 aZ.nd (ak (aF T).m hr (aa (dv 0) (aa (aI dR rfl T.b_len dW (aa (dv 1) af)) af)))) (ai (bR (au (dv 1) (dv 2)) (bj rfl (ay (ax 3 aZ.nd) (ay (ax 4 aZ.nd) aR)))) (ai (aA 5 aZ.nd (av aU ag (ak (aF T).m hr (aa (dv 0) (aa ag af))))) (ai (aA 6 aZ.nd (ak (aF T).m hr (aa (dv 0) (aa (av aU (dv 5) ag) af)))) (ai (aA 7 aZ.nd (av aU (av aD (au (dv 3) ag) (av cG (dv 5) (dv 6))) (av aD (au (dv 4) ag) (dv 6)))) (ai (aA 8 aZ.nd (av aU (av aD (au (dv 3) ag) (av cG (dv 5) (dv 6))) (av aD (au (dv 4) ag) (dv 6)))) (ai (bo (lU (nM (aH (cg hr.units) (dv 6) ag) (mF (aH (cg hr.units) (dv 6) (dv 5))))) (ai (aA 9 aZ.nd (pO rfl (f7 hr) rfl T.b_sorted rfl T.b_set (av aU (jK (CScope.of (xs:=["_law_shut"]) (js:=[]) rfl) rfl (aO (dv 1)) (fun _ _ _ _=>dh) (fun _ _ _ _=>(au (dv 0) ag))) (jK (CScope.of (xs:=["_law_shut"]) (js:=[]) rfl) rfl (aO (dv 1)) (fun _ _ _ _=>dh) (fun _ _ _ _=>(au (dv 0) ag)))))) (aq (az (aG (aa (aG (aa (dv 7) (aa (dv 8) (aa (dv 5) af)))) (aa (aG (aa jv (aa (jo (f7 hr) (dv 9) (aa (au (cF (aa (dv 3) (aa (dv 4) af))) (cj mB rfl T.b_int lQ (aa (cv (cg hr.units) (dv 6) (dv 5)) af))) af)) af))) af)))))) aL) (aq (az (aG (aa (aG (aa (dv 7) (aa (dv 8) (aa (dv 5) af)))) (aa (aG (aa jv (aa (dv 2) af))) af)))))))))))),fun _ _ M Q h=>?_⟩;obtain⟨r,l,x,c,ws,rfl,rfl,hrl,hM,hc0,hc1,hMl,hws,hpos,hlen,k1⟩:=h;refine⟨_,rfl,_,rfl,_,hMl,r,((ws.map uw).length:Int),x,c,rfl,rfl,hM,hc0,by omega,by simpa using hpos,cm (by simp;omega),fun x1 v1 h10 h11=>?_⟩;rw[E6]at h11;obtain⟨at',rfl⟩:∃n:Nat,v1=(n:Int):=⟨v1.toNat,by omega⟩;have hat:at'<ws.length:=by omega
 have ew:ws[at']?=some ws[at']:=E7 hat;have W:=hws _ (G6 hat);generalize ws[at']=w at ew W;have ml1:∀z,(aw M r z) l=some (.lst (ws.map uw)):=fun z=>by rw[ar hrl.symm];exact hMl
 (try dsimp only[SD.bc])
 refine⟨_,rfl,_,rfl,_,_,ml1 _,cQ (by rw[E9,ew];rfl),?_⟩;refine⟨_,rfl,rfl,_,_,rfl,_,_,rfl,rfl,?_⟩;refine⟨_,rfl,r,6,x1,c+1,rfl,rfl,aj,by omega,by omega,by decide,cm (by decide),fun x2 v2 h20 h21=>?_⟩;refine⟨_,rfl,_,rfl,r,1+v2+1,x2,c+1+1,rfl,rfl,aj,by omega,by omega,by omega,cm (by omega),fun x3 p h30 h31=>?_⟩;have b64:∀{z:Int},-1000<=z->z<=1000->Bd 64 z:=fun{z} a b=>by show z.natAbs<2^64;omega
 refine⟨_,rfl,_,rfl,_,rfl,_,rfl,trivial,cx (b64 (by omega) (by omega)),_,rfl,_,rfl,_,rfl,cx (b64 (by omega) (by omega)),?_⟩;refine⟨_,rfl,_,rfl,_,rfl,_,rfl,trivial,cx (b64 (by omega) (by omega)),_,rfl,_,rfl,_,rfl,cx (b64 (by omega) (by omega)),?_⟩;simp only[aX];have ml3:=ml1 (.lst [.int x3,.int (c+1+1+1)]);have mr3:(aw M r (.lst [.int x3,.int (c+1+1+1)])) r=some (.lst [.int x3,.int (c+1+1+1)]):=aj;generalize hM3:aw M r (.lst [.int x3,.int (c+1+1+1)])=M3 at ml3 mr3;(try dsimp only[SD.bc])
 show Aa (tBD (nq yG (tVarD 6) (tCD (D.int 0)))) (tBD (nq yG (tVarD 6) (tVarD 5))) _ M3 _;refine orT (decide (p=0)) (decide (p=1+v2)) (fun K hK=>⟨_,rfl,_,rfl,hK⟩) (fun _ K hK=>⟨_,rfl,_,rfl,_,rfl,hK⟩) ?_;refine bS (fun hc=>?_) (fun hc=>?_);rotate_left
 ·have hp0:p≠0/\p≠1+v2:=by rw[Bool.or_eq_true,decide_eq_true_eq,decide_eq_true_eq]at hc;exact⟨fun e=>hc (.inl e),fun e=>hc (.inr e)⟩
  refine⟨_,rfl,_,rfl,_,rfl,nbL rfl,_,rfl,nbL rfl,nbL rfl,rtn ?_⟩;rw[<-hM3];exact k1 x3 (c+1+1+1) (1+v2) p w _ at' (by omega) (by omega) (EZ ew) (by omega) (by omega) (by omega) (by omega) ym fun t b X Y ht hb=>.wall at' w _ _ ew (by omega) (by omega) (by omega)
 ·have L1:∀f:Wl->D,(Fg (ws.map uw).length).map (fun i=>((ws.map f)[i]?).getD .non)=ws.map f:=fun f=>by
   have:=SD.range_getD (ws.map f)
   rw[E6]at this ⊢
   exact this
  have sz:1000000<=Fb:=nbL rfl;refine⟨_,rfl,ws.map uw,ml3,comp_map (fun i=>((ws.map fun w=>prD (ea w))[i]?).getD .non) (by show(ws.map uw).length<=1000000;rw[E6];omega) (fun q ys hq=>by show(aw M3 q _) l=_;rw[ar (aC ml3 hq)];exact ml3) ?_ (fun p1 hp1=>?_)⟩
  ·intro i d M6 hi hd sb;have hd:(ws.map uw)[i]?=some d:=hd;rw[E9]at hd;cases ev:ws[i]? with
   |none=>rw[ev]at hd;cases hd
   |some v=>
    rw[ev]at hd
    cases hd
    refine⟨_,rfl,fun K hK=>?_⟩
    have hK':=hK M6 .refl
    rw[getD_map ev]at hK'
    exact⟨_,rfl,_,rfl,hK'⟩
  dsimp only;rw[L1];have ml4:(aw M3 p1 (.lst (ws.map fun w=>prD (ea w)))) l=some (.lst (ws.map uw)):=by rw[ar (aC ml3 hp1)];exact ml3
  have m14:(aw M3 p1 (.lst (ws.map fun w=>prD (ea w)))) p1=some (.lst (ws.map fun w=>prD (ea w))):=aj;have sb4:SD.Sub M3 (aw M3 p1 (.lst (ws.map fun w=>prD (ea w)))):=.new hp1 .refl;generalize aw M3 p1 (.lst (ws.map fun w=>prD (ea w)))=M4 at ml4 m14 sb4 ⊢;refine⟨_,rfl,ws.map uw,ml4,comp_map (fun i=>((ws.map fun w=>prD (eb w))[i]?).getD .non) (by show(ws.map uw).length<=1000000;rw[E6];omega) (fun q ys hq=>by show(aw M4 q _) l=_;rw[ar (aC ml4 hq)];exact ml4) ?_ (fun p2 hp2=>?_)⟩
  ·intro i d M6 hi hd sb;have hd:(ws.map uw)[i]?=some d:=hd;rw[E9]at hd;cases ev:ws[i]? with
   |none=>rw[ev]at hd;cases hd
   |some v=>
    rw[ev]at hd
    cases hd
    refine⟨_,rfl,fun K hK=>?_⟩
    have hK':=hK M6 .refl
    rw[getD_map ev]at hK'
    exact⟨_,rfl,_,rfl,hK'⟩
  dsimp only;rw[L1];have m15:(aw M4 p2 (.lst (ws.map fun w=>prD (eb w)))) p1=some (.lst (ws.map fun w=>prD (ea w))):=by rw[ar (aC m14 hp2)];exact m14
  have sb5:SD.Sub M3 (aw M4 p2 (.lst (ws.map fun w=>prD (eb w)))):=.new hp2 sb4;have m25:(aw M4 p2 (.lst (ws.map fun w=>prD (eb w)))) p2=some (.lst (ws.map fun w=>prD (eb w))):=aj;generalize aw M4 p2 (.lst (ws.map fun w=>prD (eb w)))=M5 at m15 m25 sb5 ⊢;have mu:(ws.map fun w=>prD (ea w))++(ws.map fun w=>prD (eb w))=(ws.map ea++ws.map eb).map prD:=by rw[FI,Hy,Hy];rfl
  refine⟨_,_,m15,m25,(by rw[E6,E6];omega),fun p3 hp3=>⟨p3,ws.map ea++ws.map eb,rfl,(by rw[aj,mu]),(fun ls nd hs=>?_),(fun u hu=>?_),fun z us hz hm up=>?_⟩⟩
  ·have:=sub_len' nd hs;rw[Ga,E6,E6]at this;omega
  ·rcases Fl.mp hu with h|h
   ·obtain⟨v,hv,rfl⟩:=Fm.mp h;have:=(hws v hv).b;show 0<=v.2.1/\v.2.1<100;omega
   ·obtain⟨v,hv,rfl⟩:=Fm.mp h;have:=(hws v hv).d;show 0<=v.2.2.2/\v.2.2.2<100;omega
  have sb6:SD.Sub M3 (aw (aw M5 p3 (.lst ((ws.map fun w=>prD (ea w))++(ws.map fun w=>prD (eb w))))) z (.lst (us.map prD))):=.new hz (.new hp3 sb5);have mz6:(aw (aw M5 p3 (.lst ((ws.map fun w=>prD (ea w))++(ws.map fun w=>prD (eb w))))) z (.lst (us.map prD))) z=some (.lst (us.map prD)):=aj;generalize aw (aw M5 p3 (.lst ((ws.map fun w=>prD (ea w))++(ws.map fun w=>prD (eb w))))) z (.lst (us.map prD))=M6 at sb6 mz6 ⊢;refine⟨_,rfl,_,rfl,_,rfl,nbL rfl,_,rfl,z,us.map prD,rfl,mz6,_,rfl,_,rfl,nbL rfl,fun p4 hp4=>⟨_,rfl,_,rfl,?_⟩⟩
  obtain⟨u,eu,ef,um⟩:∃u:Vc,u=(if p=1+v2 then eb w else ea w)/\atI [D.tup [.int w.1,.int w.2.1],.tup [.int w.2.2.1,.int w.2.2.2]] (if decide (p=1+v2)=true then 1 else 0)=some (prD u)/\u∈us:=by
   have hw:=EZ ew;refine⟨_,rfl,?_,?_⟩
   ·by_cases e:p=1+v2
    ·rw[if_pos e,if_pos (decide_eq_true e)];rfl
    ·rw[if_neg e,if_neg (by simpa using e)];rfl
   ·rw[hm,Fl];by_cases e:p=1+v2
    ·rw[if_pos e];exact .inr (Fm.mpr ⟨w,hw,rfl⟩)
    ·rw[if_neg e];exact .inl (Fm.mpr ⟨w,hw,rfl⟩)
  obtain⟨j,hj,ej⟩:=List.mem_iff_getElem.mp um;have ej:us[j]?=some u:=by rw[E7 hj,ej]
  refine⟨_,_,aj,ef,us.map prD,prD u,prP u,j,rfl,(by rw[ar (aC mz6 hp4)];exact mz6),(by rw[E6];exact hj),Pd.of rfl,rfl,(fun i y hi hy=>?_),nbL rfl,nbL rfl,M3,.new hp4 sb6,?_⟩
  ·rw[E9]at hy;cases ei:us[i]? with
   |none=>rw[ei]at hy;cases hy
   |some v=>
    rw[ei]at hy
    cases hy
    exact⟨prP v,Pd.of rfl,rfl,Bl up ej ei⟩
  ·rw[<-hM3];have hp0:p=0\/p=1+v2:=by rw[Bool.or_eq_true,decide_eq_true_eq,decide_eq_true_eq]at hc;exact hc
   exact k1 x3 (c+1+1+1) (1+v2) p w _ j (by omega) (by omega) (EZ ew) (by omega) (by omega) (by omega) (by omega) sU fun t b X Y ht hb=>nS ht hb (by omega) hp0 hm up (by rw[ej,eu])
theorem cL:FnScope ["one","other"] ["one","other"] (ao c9):=by walk_at "sc"
inductive Cn_greatest_divisor(x y:D)(M:MH)(Q:DK):Prop
 |mk (a b:Nat) (_:x=.int (a:Int)) (_:y=.int (b:Int)) (_:Q (.int ((HW a b:Nat):Int)) M)
theorem de(T:Tx K mg):Cal P w K mg base 1 "greatest_divisor" (sD2 Cn_greatest_divisor):=by
 refine bg (k:=0) T.f_greatest_divisor cL fun f cdv A outer s H E hr=>⟨_,(ai (gv Ft (aH (fH hr.units) (dv 1) ag) (aq (dM 0 1 rfl cL.nd (aa (dv 1) (aa (av fK (dv 0) (dv 1)) af))))) (aq (az (dv 0)))),fun _ _ M Q h=>?_⟩;obtain⟨a,b,rfl,rfl,q⟩:=h;refine⟨fun m δ M'=>M'=M/\∃x y:Nat,δ=[some (.int x),some (.int y)]/\HW x y=HW a b/\m=y,⟨_,rfl,_,_,rfl,rfl,rfl⟩,?_⟩;rintro m δ M' ⟨rfl,x,y,rfl,hxy,hm⟩;refine⟨_,rfl,_,rfl,?_⟩;refine bS (fun h=>?_) (fun h=>?_)
 ·have hy:(y:Int)≠0:=by simpa using h
  refine⟨_,rfl,_,rfl,_,rfl,hy,_,_,rfl,?_⟩;have hy':0<y:=by omega
  refine⟨x%y,by rw[hm];exact Nat.mod_lt _ hy',rfl,y,x%y,?_,?_,rfl⟩
  ·rw[<-Ma.rN];rfl
  ·rw[<-hxy,Nat.gcd_comm x y,Nat.gcd_rec y x,Nat.gcd_comm]
 ·have hy:y=0:=by simpa using h
  subst hy;rw[Nat.gcd_zero_right]at hxy;subst hxy;exact⟨_,rfl,rtn q⟩
theorem eR:FnScope ["top","bottom","divisor"] ["top","bottom"] (ao jq):=by walk_at "sc"
inductive Cn_fraction(x y:D)(M:MH)(Q:DK):Prop
 |mk (t:_) (b:_) (_:x=.int t) (_:y=.int b) (_:b≠0) (_:Bd 8000 t) (_:Bd 8000 b) (_:Q (Ma.fr (Rat.divInt t b)) M)
theorem jN(T:Tx K mg):Cal P w K mg base 2 "fraction" (sD2 Cn_fraction):=by
 refine bg (k:=1) T.f_fraction eR fun f cdv A outer s H E hr=>⟨_,(ai (bo (aH (cg hr.units) (dv 1) ag) (aq uE) aL) (ai (aA 2 eR.nd (ak (de T).m hr (aa (aI mJ rfl T.b_abs mh (aa (dv 0) af)) (aa (aI mJ rfl T.b_abs mh (aa (dv 1) af)) af)))) (ai (bo (aH (eN hr.units) (dv 1) ag) (aq (aA 2 eR.nd (m9 gz (dv 2)))) aL) (aq (az (aG (aa (av fm (dv 0) (dv 2)) (aa (av fm (dv 1) (dv 2)) af)))))))),fun _ _ M Q h=>?_⟩;obtain⟨t,b,rfl,rfl,hb,ht,hbb,q⟩:=h;have hg:=Ma.dJ (t:=t) hb;have hgd:Bd 8000 ((HW t.natAbs b.natAbs:Nat):Int):=hbb.of_le (by simpa using Nat.gcd_le_right t.natAbs (show 0<b.natAbs by omega));refine⟨_,rfl,_,rfl,iF (decide_eq_false hb) ?_⟩;refine⟨_,rfl,_,rfl,t.natAbs,b.natAbs,rfl,rfl,?_⟩;refine⟨_,rfl,trivial,_,rfl,?_⟩;refine bS (fun h=>?_) (fun h=>?_)
 ·have hneg:b<0:=by simpa using h
  obtain⟨e1,e2⟩:=Ma.rM (t:=t) hneg;refine⟨_,rfl,_,rfl,_,rfl,⟨by omega,hgd.neg⟩,_,rfl,_,rfl,⟨by omega,hgd.neg⟩,nbL rfl,?_⟩;dsimp only;rw[e1,e2];exact rtn q
 ·have hpos:0<b:=by
   have:¬b<0:=by simpa using h
   omega
  obtain⟨e1,e2⟩:=Ma.qZ (t:=t) hpos;refine⟨_,rfl,_,rfl,⟨by omega,hgd⟩,_,rfl,_,rfl,⟨by omega,hgd⟩,nbL rfl,?_⟩;dsimp only;rw[e1,e2];exact rtn q
theorem eO:FnScope ["spot","x","y"] ["spot"] (ao jX):=by walk_at "sc"
inductive Cn_own_spot(x:D)(M:MH)(Q:DK):Prop
 |mk (a b:Rat) (_:x=Ma.spt a b) (_:Ma.Bq 8000 a) (_:Ma.Bq 8000 b) (_:Q (Ma.spt a b) M)
theorem fQ(T:Tx K mg):Cal P w K mg base 3 "own_spot" (sD1 Cn_own_spot):=by refine eD (k:=2) T.f_own_spot eO fun f cdv A outer s H E hr=>⟨_,(ai (bR (dv 0) (bj rfl (ay (ax 1 eO.nd) (ay (ax 2 eO.nd) aR)))) (aq (az (aG (aa (ak (jN T).m hr (aa (au (dv 1) ag) (aa (au (dv 1) ag) af))) (aa (ak (jN T).m hr (aa (au (dv 2) ag) (aa (au (dv 2) ag) af))) af)))))),fun _ M Q h=>?_⟩;obtain⟨a,b,rfl,h1,h2,k⟩:=h;refine⟨_,rfl,_,rfl,rfl,_,_,rfl,_,_,rfl,rfl,?_⟩;refine⟨_,rfl,_,rfl,_,rfl,_,rfl,a.num,(a.den:Int),rfl,rfl,Ma.fJ a,h1.1,h1.2,?_⟩;refine⟨_,rfl,_,rfl,_,rfl,_,rfl,b.num,(b.den:Int),rfl,rfl,Ma.fJ b,h2.1,h2.2,nbL rfl,?_⟩;rw[Rat.num_divInt_den,Rat.num_divInt_den];exact rtn k
theorem qp:FnScope ["one","other"] ["one","other"] (ao kT):=by walk_at "sc"
inductive Cn_is_less(x y:D)(M:MH)(Q:DK):Prop
 |mk (q r:Rat) (_:x=Ma.fr q) (_:y=Ma.fr r) (_:Ma.Bq 100000 q) (_:Ma.Bq 100000 r) (_:Q (.bl (decide (q<r))) M)
theorem lH(T:Tx K mg):Cal P w K mg base 1 "is_less" (sD2 Cn_is_less):=by refine bg (k:=0) T.f_is_less qp fun f cdv A outer s H E hr=>⟨_,(aq (az (cv (eN hr.units) (av aD (au (dv 0) ag) (au (dv 1) ag)) (av aD (au (dv 1) ag) (au (dv 0) ag))))),fun _ _ M Q h=>?_⟩;obtain⟨q,r,rfl,rfl,h1,h2,k⟩:=h;refine⟨_,rfl,_,rfl,_,rfl,_,rfl,du (h1.1.mono (by decide)) (h2.2.mono (by decide)),?_⟩;refine⟨_,rfl,_,rfl,_,rfl,_,rfl,du (h2.1.mono (by decide)) (h1.2.mono (by decide)),trivial,?_⟩;dsimp only;rw[Ma.Dk];exact rtn k
theorem oH:FnScope ["one","other"] ["one","other"] (ao jI):=by walk_at "sc"
inductive Cn_is_ahead(x y:D)(M:MH)(Q:DK):Prop
 |mk (a b c d:Rat) (_:x=Ma.spt a b) (_:y=Ma.spt c d) (_:Ma.Bq 100000 a) (_:Ma.Bq 100000 b) (_:Ma.Bq 100000 c) (_:Ma.Bq 100000 d) (_:Q (.bl (decide (a<c\/a=c/\b<d))) M)
theorem bJ(T:Tx K mg):Cal P w K mg base 2 "is_ahead" (sD2 Cn_is_ahead):=by
 refine bg (k:=1) T.f_is_ahead oH fun f cdv A outer s H E hr=>⟨_,(ai (bo (aH (cg hr.units) (au (dv 0) ag) (au (dv 1) ag)) (aq (az (ak (lH T).m hr (aa (au (dv 0) ag) (aa (au (dv 1) ag) af))))) aL) (aq (az (ak (lH T).m hr (aa (au (dv 0) ag) (aa (au (dv 1) ag) af)))))),fun _ _ M Q h=>?_⟩;obtain⟨a,b,c,d,rfl,rfl,h1,h2,h3,h4,k⟩:=h;refine⟨_,rfl,_,rfl,_,rfl,_,rfl,_,_,Pd.of rfl,Pd.of rfl,rfl,rfl,?_⟩;rw[Ma.qf];refine⟨_,rfl,?_⟩;refine bS (fun h=>?_) (fun h=>?_)
 ·have e:a=c:=by simpa using h
  subst e;refine⟨_,rfl,_,rfl,_,rfl,_,rfl,b,d,rfl,rfl,h2,h4,?_⟩
  have z:(a<a\/a=a/\b<d)↔b<d:=by
   have:=Rat.lt_irrefl (a:=a)
   simp[this]
  rw[decide_eq_decide.mpr z]at k;exact rtn k
 ·have e:¬a=c:=by simpa using h
  refine⟨_,rfl,_,rfl,_,rfl,_,rfl,a,c,rfl,rfl,h1,h3,?_⟩;have z:(a<c\/a=c/\b<d)↔a<c:=by simp[e]
  rw[decide_eq_decide.mpr z]at k;exact rtn k
theorem bN:FnScope ["row","spot","low","high","middle"] ["row","spot"] (ao fF):=by walk_at "sc"
inductive Cn_place_among(x y:D)(M:MH)(Q:DK):Prop
 |mk (l:Addr) (t b X Y:Int) (ps:List Vc) (u:Vc) (_:x=.ref l) (_:y=gsp t b X Y u) (_:M l=some (.lst (ps.map (gsp t b X Y)))) (_:Scl t b X Y) (_:ps.length<=200) (_:(∀p∈ps,B20 p)) (_:B20 u) (_:ps.Pairwise plt) (_:∀j:Nat,j<=ps.length->(∀i,i<j->plt (p0 ps i) u)->(∀i,j<=i->i<ps.length->¬plt (p0 ps i) u)->Q (.int (j:Int)) M)
theorem kO(T:Tx K mg):Cal P w K mg base 3 "place_among" (sD2 Cn_place_among):=by
 refine bg (k:=2) T.f_place_among bN fun f cdv A outer s H E hr=>⟨_,(ai (dM 2 3 rfl bN.nd (aa ag (aa (aI dR rfl T.b_len dW (aa (dv 0) af)) af))) (ai (gv Ft (aH (eN hr.units) (dv 2) (dv 3)) (ai (aA 4 bN.nd (av fm (av aU (dv 2) (dv 3)) ag)) (aq (bo (cH (ak (bJ T).m hr (aa (au (dv 0) (dv 4)) (aa (dv 1) af)))) (aq (aA 2 bN.nd (av aU (dv 4) ag))) (aq (aA 3 bN.nd (dv 4))))))) (aq (az (dv 2))))),fun _ _ M Q h=>?_⟩;obtain⟨l,t,b,X,Y,ps,u,rfl,rfl,hl,S,hn,hb,hu,up,k⟩:=h;have hN:(ps.map (gsp t b X Y)).length=ps.length:=by simp
 refine⟨_,rfl,_,hl,_,_,rfl,?_⟩;refine⟨fun m δ M'=>M'=M/\∃(lo hi:Nat) (o4:Option D),δ=[some (.ref l),some (gsp t b X Y u),some (.int (lo:Int)),some (.int (hi:Int)),o4]/\lo<=hi/\hi<=ps.length/\(∀i,i<lo->plt (p0 ps i) u)/\(∀i,hi<=i->i<ps.length->¬plt (p0 ps i) u)/\m=hi-lo,⟨_,rfl,0,ps.length,_,by rw[hN];rfl,FQ _,E8 _,fun i hi=>by omega,fun i h1 h2=>by omega,rfl⟩,?_⟩;rintro m δ M' ⟨rfl,lo,hi,o4,rfl,h1,h2,a,c,hm⟩;refine⟨_,rfl,_,rfl,trivial,_,rfl,?_⟩;refine bS (fun h=>?_) (fun h=>?_)
 ·have hlt:lo<hi:=by
   have:(lo:Int)<(hi:Int):=by simpa using h
   omega
  have hmid:Int.fdiv ((lo:Int)+(hi:Int)) 2=(((lo+hi)/2:Nat):Int):=by rw[Gi _ (by decide)];omega
  have hk:(lo+hi)/2<ps.length:=by omega
  refine⟨_,rfl,_,rfl,⟨by decide,cm (by decide)⟩,?_⟩;dsimp only;rw[hmid];generalize hq:(lo+hi)/2=q at hk ⊢;have em:ps[q]?=some (p0 ps q):=by unfold p0;simp[hk]
  have bq:=hb _ (fX hk);refine⟨_,rfl,_,rfl,_,_,hl,cQ (by rw[E9,em];rfl),_,rfl,_,_,_,_,rfl,rfl,(bq.bx S).mono (by decide),(bq.by' S).mono (by decide),(hu.bx S).mono (by decide),(hu.by' S).mono (by decide),_,rfl,?_⟩;have ah:=vp (X:=X) (Y:=Y) S.t0 S.b0 bq hu;refine bS (fun h=>?_) (fun h=>?_)
  ·have z:plt (p0 ps q) u:=ah.mp (by simpa[Ma.ah]using h);refine⟨_,rfl,hi-(q+1),by omega,rfl,q+1,hi,_,rfl,by omega,h2,fun i hi'=>?_,c,rfl⟩;by_cases e:i=q
   ·subst e;exact z
   ·have:=FY.mp up i q (by omega) hk (by omega);have e1:p0 ps i=ps[i]:=by unfold p0;simp[show i<ps.length by omega]
    have e2:p0 ps q=ps[q]:=by unfold p0;simp[hk]
    rw[e2]at z;rw[e1];unfold plt at z this ⊢;omega
  ·have z:¬plt (p0 ps q) u:=fun w=>by
    have:=ah.mpr w
    simp[Ma.ah]at h this
    exact absurd this (by simpa using h)
   refine⟨_,rfl,q-lo,by omega,rfl,lo,q,_,rfl,by omega,by omega,a,fun i h3 h4=>?_,rfl⟩;by_cases e:i=q
   ·subst e;exact z
   ·have:=FY.mp up q i hk (by omega) (by omega);have e1:p0 ps i=ps[i]:=by unfold p0;simp[show i<ps.length by omega]
    have e2:p0 ps q=ps[q]:=by unfold p0;simp[hk]
    rw[e2]at z;rw[e1];unfold plt at z this ⊢;omega
 ·have:lo=hi:=by
   have:¬(lo:Int)<(hi:Int):=by simpa using h
   omega
  subst this;(repeat (first|refine⟨_,rfl,?_⟩|refine⟨trivial,?_⟩|refine⟨_,_,rfl,?_⟩|refine⟨rfl,?_⟩|refine⟨nbL rfl,?_⟩))
  exact rtn (k lo h2 a c)
theorem cU:FnScope ["spots","row","spot"] ["spots"] (ao ft):=by walk_at "sc"
inductive Cn_ahead_first(x:D)(M:MH)(Q:DK):Prop
 |mk (l:Addr) (t b X Y:Int) (us:List Vc) (_:x=.ref l) (_:M l=some (.lst (us.map (gsp t b X Y)))) (_:Scl t b X Y) (_:us.length<=200) (_:(∀p∈us,B20 p)) (_:us.Nodup) (_:∀(M':MH) (z:Addr) (ps:List Vc),SD.Sub M M'->M z=none->M' z=some (.lst (ps.map (gsp t b X Y)))->ps.Perm us->ps.Pairwise plt->Q (.ref z) M')
theorem fo(T:Tx K mg):Cal P w K mg base 4 "ahead_first" (sD1 Cn_ahead_first):=by
 refine eD (k:=3) T.f_ahead_first cU fun f cdv A outer s H E hr=>⟨_,(ai (aA 1 cU.nd (cF af)) (ai (bH Ft rfl (aO (dv 0)) (ax 2 cU.nd) (aq (dS (nG (dv 1) (aa (ak (kO T).m hr (aa (dv 1) (aa (dv 2) af))) (aa (dv 2) af)))))) (aq (az (dv 1))))),fun _ M Q h=>?_⟩;obtain⟨l,t,b,X,Y,us,rfl,hl,S,hn,hb,nd,k⟩:=h;refine⟨nbL rfl,fun z hz=>?_⟩;have nlz:l≠z:=aC hl hz;refine⟨_,rfl,us.map (gsp t b X Y),(by show(aw M z _) l=_;rw[ar nlz];exact hl),?_⟩;refine⟨fun i δ M'=>∃(ps:List Vc) (o2:Option D),δ=[some (.ref l),some (.ref z),o2]/\SD.Sub M M'/\M' z=some (.lst (ps.map (gsp t b X Y)))/\ps.Perm (us.take i)/\ps.Pairwise plt,⟨[],_,rfl,.new hz .refl,aj,by simp,List.Pairwise.nil⟩,fun i δ M' _ q=>let⟨_,_,_,sb,_⟩:=q;sb _ _ hl,?_,?_⟩
 ·rintro i d δ M' hi hd ⟨ps,o2,rfl,sb,hz',pm,up⟩;have hd:(us.map (gsp t b X Y))[i]?=some d:=hd;rw[E9]at hd;cases eu:us[i]? with
  |none=>rw[eu]at hd;cases hd
  |some u=>
   rw[eu]at hd
   cases hd
   have iu:i<us.length:=(F0.mp eu).1
   have eu':us[i]=u:=(F0.mp eu).2
   have bu:=hb u (EZ eu)
   have mps:∀p∈ps,p∈us:=fun p hp=>List.mem_of_mem_take (pm.mem_iff.mp hp)
   have bps:∀p∈ps,B20 p:=fun p hp=>hb p (mps p hp)
   have lps:ps.length=i:=by rw[pm.length_eq,HJ];omega
   have nu:u∉ps:=fun hp=>by
    have:=pm.mem_iff.mp hp
    obtain⟨j,hj,ej⟩:=Hc this
    have hj':j<i:=by rw[HJ]at hj;omega
    rw[List.getElem_take]at ej
    have:=FY.mp nd j i (by omega) iu hj'
    exact this (ej.trans eu'.symm)
   refine⟨_,rfl,z,_,rfl,hz',_,rfl,_,rfl,z,t,b,X,Y,ps,u,rfl,rfl,hz',S,by omega,bps,bu,up,fun j hj a c=>?_⟩
   obtain⟨i1,i2⟩:=Cb up hj a fun i h1 h2=>yY (bps _ (fX h2)) bu (fun e=>nu (e▸fX h2)) (c i h1 h2)
   refine⟨_,rfl,_,_,j,rfl,hz',by rw[E6];exact hj,by rw[E6];omega,cB ps j u,_,rfl,fun a o h=>?_,by rw[aj,vZ],?_,i1⟩
   ·rw[ar (aC h hz)];exact sb _ _ h
   ·rw[Hn,eu];exact i2.trans ((List.Perm.cons u pm).trans (List.perm_append_singleton u (us.take i)).symm)
 ·rintro δ M' ⟨ps,o2,rfl,sb,hz',pm,up⟩;have e:us.take (us.map (gsp t b X Y)).length=us:=by rw[E6,List.take_length]
  exact⟨_,rfl,M',.refl,k M' z ps sb hz hz' (by rw[<-e];exact pm) up⟩
theorem cw:FnScope ["plot","corners","wall","end"] ["plot"] (ao gE):=by walk_at "sc"
inductive Cn_corners_of(x:D)(M:MH)(Q:DK):Prop
 |mk (t b X Y:Int) (ws:List Wl) (_:x=.tup (ws.map (rwl t b X Y))) (_:Scl t b X Y) (_:ws.length<=40) (_:(∀w∈ws,Un5 w)) (_:∀(M':MH) (z:Addr) (ps:List Vc),SD.Sub M M'->M z=none->M' z=some (.lst (ps.map (gsp t b X Y)))->ps.Perm (cnr ws ws.length)->ps.Pairwise plt->Q (.ref z) M')
theorem mD(T:Tx K mg):Cal P w K mg base 5 "corners_of" (sD1 Cn_corners_of):=by
 refine eD (k:=4) T.f_corners_of cw fun f cdv A outer s H E hr=>⟨_,(ai (aA 1 cw.nd nB) (ai (bH Ft rfl (aO (dv 0)) (ax 2 cw.nd) (aq (bH Ft rfl (aO (dv 2)) (ax 3 cw.nd) (aq (vT (f7 hr) (dv 1) (ak (fQ T).m hr (aa (dv 3) af)) iB))))) (aq (az (ak (fo T).m hr (aa (cj (nJ rfl) rfl T.b_list rD (aa (dv 1) af)) af)))))),fun _ M Q h=>?_⟩;obtain⟨t,b,X,Y,ws,rfl,S,hn,hU,k⟩:=h;intro c hc;refine⟨_,rfl,ws.map (rwl t b X Y),rfl,?_⟩;refine⟨fun i δ M'=>∃(o2 o3:Option D),δ=[some (.tup (ws.map (rwl t b X Y))),some (.ref c),o2,o3]/\SD.Sub M M'/\M' c=some (dsM (cdT t b X Y (cnr ws i))),⟨_,_,rfl,.new hc .refl,aj⟩,fun i δ M' _ q=>rfl,?_,?_⟩
 ·rintro i d δ M' hi hd ⟨o2,o3,rfl,sb,hc'⟩;have hd:(ws.map (rwl t b X Y))[i]?=some d:=hd;rw[E9]at hd;cases ew:ws[i]? with
  |none=>rw[ew]at hd;cases hd
  |some w=>
   rw[ew]at hd
   cases hd
   have iw:i<ws.length:=(F0.mp ew).1
   have hw:=hU w (EZ ew)
   have lc:=l7 ws i
   refine⟨_,rfl,[gsp t b X Y (ea w),gsp t b X Y (eb w)],rfl,?_⟩
   refine⟨fun j δ M''=>∃(us:List Vc) (o3:Option D),δ=[some (.tup (ws.map (rwl t b X Y))),some (.ref c),some (rwl t b X Y w),o3]/\SD.Sub M M''/\M'' c=some (dsM (cdT t b X Y us))/\us.length<=2*i+j/\(j=0->us=cnr ws i)/\(j=1->us=eK (cnr ws i) (ea w))/\(j=2->us=eK (eK (cnr ws i) (ea w)) (eb w)),⟨cnr ws i,_,rfl,sb,hc',by omega,fun _=>rfl,fun h=>by omega,fun h=>by omega⟩,fun i δ M' _ q=>rfl,?_,?_⟩
   ·rintro j d δ M'' hj hd ⟨us,o3,rfl,sb2,hc2,lu,u0,u1,u2⟩;have hj:j<2:=hj
    obtain⟨u,rfl,bu,hu⟩:∃u,d=gsp t b X Y u/\B20 u/\(j=0->u=ea w)/\(j=1->u=eb w):=by
     have hd:([gsp t b X Y (ea w),gsp t b X Y (eb w)]:List D)[j]?=some d:=hd;rcases(show j=0\/j=1 by omega)with rfl|rfl
     ·cases hd;exact⟨_,rfl,hw.ea,fun _=>rfl,fun h=>by omega⟩
     ·cases hd;exact⟨_,rfl,hw.eb,fun h=>by omega,fun _=>rfl⟩
    refine⟨_,rfl,_,rfl,_,_,rfl,(bu.bx S).mono (by decide),(bu.by' S).mono (by decide),c,_,gk t b X Y u,rfl,qt t b X Y u,hc2,?_,eK us u,_,rfl,?_,by rw[aj,xy S.t0 S.b0],by have:=iW us u;omega,fun h=>by omega,fun h=>?_,fun h=>?_⟩
    ·show(cdT t b X Y us).length<_;unfold cdT;rw[E6];omega
    ·intro a o h;rw[ar (aC h hc)];exact sb2 _ _ h
    ·have:j=0:=by omega
     rw[u0 this,hu.1 this]
    ·have:j=1:=by omega
     rw[u1 this,hu.2 this]
   ·rintro δ M'' ⟨us,o3,rfl,sb2,hc2,lu,u0,u1,u2⟩;refine⟨_,_,rfl,sb2,?_⟩;rw[hc2,u2 rfl]
    congr 3
    show _=(match ws[i]? with|some w=>eK (eK (cnr ws i) (ea w)) (eb w)|none=>cnr ws i);rw[ew]
 ·rintro δ M' ⟨o2,o3,rfl,sb,hc'⟩
  have hc':M' c=some (dsM (cdT t b X Y (cnr ws ws.length))):=by
   have e:(ws.map (rwl t b X Y)).length=ws.length:=by simp
   rw[<-e];exact hc'
  refine⟨_,rfl,.inr ⟨c,_,rfl,hc',fun p hp=>?_⟩⟩;have ek:(cdT t b X Y (cnr ws ws.length)).map (fun x=>spD x.1)=(cnr ws ws.length).map (gsp t b X Y):=by unfold cdT;rw[Hy];rfl
  rw[ek];have lc:=l7 ws ws.length;refine⟨p,t,b,X,Y,cnr ws ws.length,rfl,aj,S,by omega,Dd hU,pH ws _,fun M2 z ps sb2 hz hz2 pm up=>?_⟩;have zp:z≠p:=fun e=>by subst e;rw[aj]at hz;cases hz
  have zM':M' z=none:=by rw[ar zp]at hz;exact hz
  have zM:M z=none:=by
   cases e:M z with
   |none=>rfl
   |some o=>rw[sb _ _ e]at zM';cases zM'
  exact⟨M2,.refl,k M2 z ps (fun a o h=>sb2 _ _ (by rw[ar (aC (sb _ _ h) hp)];exact sb _ _ h)) zM hz2 pm up⟩
theorem Ah:FnScope ["one","other"] ["one","other"] (ao zx):=by walk_at "sc"
inductive Cn_gap(x y:D)(M:MH)(Q:DK):Prop
 |mk (t1 b1 t2 b2:Int) (_:x=.tup [.int t1,.int b1]) (_:y=.tup [.int t2,.int b2]) (_:Bd 1000000 t1) (_:Bd 1000000 b1) (_:Bd 1000000 t2) (_:Bd 1000000 b2) (_:Q (.tup [.int (t1*b2-t2*b1),.int (b1*b2)]) M)
theorem mY(T:Tx K mg):Cal P w K mg base 1 "gap" (sD2 Cn_gap):=by refine bg (k:=0) T.f_gap Ah fun f cdv A outer s H E hr=>⟨_,(aq (az (aG (aa (av cG (av aD (au (dv 0) ag) (au (dv 1) ag)) (av aD (au (dv 1) ag) (au (dv 0) ag))) (aa (av aD (au (dv 0) ag) (au (dv 1) ag)) af))))),fun _ _ M Q h=>?_⟩;obtain⟨t1,b1,t2,b2,rfl,rfl,h1,h2,h3,h4,k⟩:=h;refine⟨_,rfl,_,rfl,_,rfl,_,rfl,du h1 h4,_,rfl,_,rfl,_,rfl,_,rfl,du h3 h2,trivial,?_⟩;exact⟨_,rfl,_,rfl,_,rfl,_,rfl,du h2 h4,nbL rfl,rtn k⟩
theorem cM:FnScope ["wall","spot","a","b","c","d","x","y","across","up","along","high"] ["wall","spot"] (ao vR):=by walk_at "sc"
inductive Cn_lean(u v:D)(M:MH)(Q:DK):Prop
 |mk (n:Nat) (a b c d x y:Rat) (_:u=Ma.wll a b c d) (_:v=Ma.spt x y) (_:Ma.Bq n a) (_:Ma.Bq n b) (_:Ma.Bq n c) (_:Ma.Bq n d) (_:Ma.Bq n x) (_:Ma.Bq n y) (_:n<=20000) (_:∀t e:Int,0<e->Rat.divInt t e=Ma.cr a b c d x y->Bd (8*n+3) t->Bd (8*n+3) e->Q (.tup [.int t,.int e]) M)
theorem As(T:Tx K mg):Cal P w K mg base 2 "lean" (sD2 Cn_lean):=by
 refine bg (k:=1) T.f_lean cM fun f cdv A outer s H E hr=>⟨_,(ai (bR (dv 0) (bj rfl (ay (bj rfl (ay (ax 2 cM.nd) (ay (ax 3 cM.nd) aR))) (ay (bj rfl (ay (ax 4 cM.nd) (ay (ax 5 cM.nd) aR))) aR)))) (ai (bR (dv 1) (bj rfl (ay (ax 6 cM.nd) (ay (ax 7 cM.nd) aR)))) (ai (dM 8 9 rfl cM.nd (aa (ak (mY T).m hr (aa (dv 4) (aa (dv 2) af))) (aa (ak (mY T).m hr (aa (dv 5) (aa (dv 3) af))) af))) (ai (dM 10 11 rfl cM.nd (aa (ak (mY T).m hr (aa (dv 6) (aa (dv 2) af))) (aa (ak (mY T).m hr (aa (dv 7) (aa (dv 3) af))) af))) (aq (az (ak (mY T).m hr (aa (aG (aa (av aD (au (dv 8) ag) (au (dv 11) ag)) (aa (av aD (au (dv 8) ag) (au (dv 11) ag)) af))) (aa (aG (aa (av aD (au (dv 9) ag) (au (dv 10) ag)) (aa (av aD (au (dv 9) ag) (au (dv 10) ag)) af))) af))))))))),fun _ _ M Q h=>?_⟩;obtain⟨n,a,b,c,d,x,y,rfl,rfl,ha,hb,hc,hd,hx,hy,hn,k⟩:=h;have mo:∀{m:Nat} {i:Int},Bd m i->m<=1000000->Bd 1000000 i:=fun z l=>z.mono l;have q1:=hc.qK ha;have q2:=hd.qK hb;have q3:=hx.qK ha;have q4:=hy.qK hb;have e1:=hc.2.mul ha.2;have e2:=hd.2.mul hb.2;have e3:=hx.2.mul ha.2;have e4:=hy.2.mul hb.2;refine⟨_,rfl,_,rfl,rfl,_,_,rfl,⟨_,rfl,rfl,_,_,rfl,_,_,rfl,rfl,?_⟩⟩;refine⟨_,_,rfl,⟨_,rfl,rfl,_,_,rfl,_,_,rfl,rfl,?_⟩⟩;refine⟨rfl,_,rfl,_,rfl,rfl,_,_,rfl,_,_,rfl,rfl,?_⟩;refine⟨_,rfl,_,rfl,_,_,_,_,rfl,rfl,mo hc.1 (by omega),mo hc.2 (by omega),mo ha.1 (by omega),mo ha.2 (by omega),?_⟩;refine⟨_,rfl,_,rfl,_,_,_,_,rfl,rfl,mo hd.1 (by omega),mo hd.2 (by omega),mo hb.1 (by omega),mo hb.2 (by omega),?_⟩;refine⟨_,_,rfl,?_⟩;refine⟨_,rfl,_,rfl,_,_,_,_,rfl,rfl,mo hx.1 (by omega),mo hx.2 (by omega),mo ha.1 (by omega),mo ha.2 (by omega),?_⟩;refine⟨_,rfl,_,rfl,_,_,_,_,rfl,rfl,mo hy.1 (by omega),mo hy.2 (by omega),mo hb.1 (by omega),mo hb.2 (by omega),?_⟩;refine⟨_,_,rfl,?_⟩;refine⟨_,rfl,_,rfl,_,rfl,_,rfl,du (mo q1 (by omega)) (mo q4 (by omega)),?_⟩;refine⟨_,rfl,_,rfl,_,rfl,_,rfl,du (mo e1 (by omega)) (mo e4 (by omega)),nbL rfl,?_⟩;refine⟨_,rfl,_,rfl,_,rfl,_,rfl,du (mo q2 (by omega)) (mo q3 (by omega)),?_⟩;refine⟨_,rfl,_,rfl,_,rfl,_,rfl,du (mo e2 (by omega)) (mo e3 (by omega)),nbL rfl,?_⟩;refine⟨_,_,_,_,rfl,rfl,mo (q1.mul q4) (by omega),mo (e1.mul e4) (by omega),mo (q2.mul q3) (by omega),mo (e2.mul e3) (by omega),?_⟩;have pe:∀q r:Rat,0<(q.den:Int)*(r.den:Int):=fun q r=>Fj (Ma.den_pos q) (Ma.den_pos r);refine rtn (k _ _ (Fj (Fj (pe c a) (pe y b)) (Fj (pe d b) (pe x a))) (Ma.xv a b c d x y) ?_ ?_)
 ·exact((((q1.mul q4).mul (e2.mul e3)).mono (show _<=8*n+2 by omega)).sub (((q2.mul q3).mul (e1.mul e4)).mono (show _<=8*n+2 by omega)))
 ·exact((e1.mul e4).mul (e2.mul e3)).mono (by omega)
theorem jW:FnScope ["wall","spot","top"] ["wall","spot"] (ao lB):=by walk_at "sc"
inductive Cn_side_of(u v:D)(M:MH)(Q:DK):Prop
 |mk (n:Nat) (a b c d x y:Rat) (_:u=Ma.wll a b c d) (_:v=Ma.spt x y) (_:Ma.Bq n a) (_:Ma.Bq n b) (_:Ma.Bq n c) (_:Ma.Bq n d) (_:Ma.Bq n x) (_:Ma.Bq n y) (_:n<=1900) (_:Q (.int (Ma.sgn (Ma.cr a b c d x y))) M)
theorem ck(T:Tx K mg):Cal P w K mg base 3 "side_of" (sD2 Cn_side_of):=by
 refine bg (k:=2) T.f_side_of jW fun f cdv A outer s H E hr=>⟨_,(ai (aA 2 jW.nd (au (ak (As T).m hr (aa (dv 0) (aa (dv 1) af))) ag)) (ai (bo (aH (l6 hr.units) (dv 2) ag) (aq (az ag)) aL) (ai (bo (aH (eN hr.units) (dv 2) ag) (aq (az (m9 gz ag))) aL) (aq (az ag))))),fun _ _ M Q h=>?_⟩;obtain⟨n,a,b,c,d,x,y,rfl,rfl,ha,hb,hc,hd,hx,hy,hn,k⟩:=h;refine⟨_,rfl,_,rfl,n,a,b,c,d,x,y,rfl,rfl,ha,hb,hc,hd,hx,hy,by omega,fun t e he hte _ _=>⟨_,rfl,?_⟩⟩;rw[<-hte,Ma.xY he]at k;refine⟨_,rfl,trivial,_,rfl,?_⟩;refine bS (fun h=>?_) (fun h=>?_)
 ·rw[if_pos (by simpa using h)]at k;exact rtn k
 rw[if_neg (by simpa using h)]at k;refine⟨_,rfl,trivial,_,rfl,?_⟩;refine bS (fun h=>?_) (fun h=>?_)
 ·rw[if_pos (by simpa using h)]at k;exact rtn k
 ·rw[if_neg (by simpa using h)]at k;exact rtn k
theorem fI:FnScope ["wall","spot","first","second"] ["wall","spot"] (ao lA):=by walk_at "sc"
inductive Cn_lies_on(u v:D)(M:MH)(Q:DK):Prop
 |mk (n:Nat) (a b c d x y:Rat) (_:u=Ma.wll a b c d) (_:v=Ma.spt x y) (_:Ma.Bq n a) (_:Ma.Bq n b) (_:Ma.Bq n c) (_:Ma.Bq n d) (_:Ma.Bq n x) (_:Ma.Bq n y) (_:n<=1900) (_:Q (.bl (decide (Ma.cr a b c d x y=0/\¬Ma.ah x y a b/\¬Ma.ah c d x y))) M)
theorem sI(T:Tx K mg):Cal P w K mg base 4 "lies_on" (sD2 Cn_lies_on):=by
 refine bg (k:=3) T.f_lies_on fI fun f cdv A outer s H E hr=>⟨_,(ai (bR (dv 0) (bj rfl (ay (ax 2 fI.nd) (ay (ax 3 fI.nd) aR)))) (aq (az (mR (cv (cg hr.units) (ak (ck T).m hr (aa (dv 0) (aa (dv 1) af))) ag) (mR (oV (ak (bJ T).m hr (aa (dv 1) (aa (dv 2) af)))) (mw (oV (ak (bJ T).m hr (aa (dv 3) (aa (dv 1) af)))))))))),fun _ _ M Q h=>?_⟩;obtain⟨n,a,b,c,d,x,y,rfl,rfl,ha,hb,hc,hd,hx,hy,hn,k⟩:=h;have mo:∀{q:Rat},Ma.Bq n q->Ma.Bq 100000 q:=fun z=>z.mono (by omega);refine⟨_,rfl,_,rfl,rfl,_,_,rfl,_,_,rfl,rfl,?_⟩;(try dsimp only[SD.d6,SD.cK,SD.bc,SD.eJ,SD.eQ,SD.cn,SD.cT,SD.tBD,SD.eL])
 refine xU (decide (Ma.sgn (Ma.cr a b c d x y)=0)) (!decide (Ma.ah x y a b)&&!decide (Ma.ah c d x y)) (fun K hK=>⟨_,rfl,_,rfl,n,a,b,c,d,x,y,rfl,rfl,ha,hb,hc,hd,hx,hy,hn,hK⟩) (fun _ K hK=>?_) ?_
 ·refine xU (!decide (Ma.ah x y a b)) (!decide (Ma.ah c d x y)) (fun K hK=>⟨_,rfl,_,rfl,x,y,a,b,rfl,rfl,mo hx,mo hy,mo ha,mo hb,_,rfl,hK⟩) (fun _ K hK=>⟨_,rfl,_,rfl,c,d,x,y,rfl,rfl,mo hc,mo hd,mo hx,mo hy,_,rfl,hK⟩) hK
 have e:(decide (Ma.sgn (Ma.cr a b c d x y)=0)&&(!decide (Ma.ah x y a b)&&!decide (Ma.ah c d x y)))=decide (Ma.cr a b c d x y=0/\¬Ma.ah x y a b/\¬Ma.ah c d x y):=by rw[HY,HY,decide_not,decide_not,decide_eq_decide.mpr (Ma.mZ _)]
 rw[e];exact rtn k
theorem wJ:FnScope ["wall","spot"] ["wall","spot"] (ao qC):=by walk_at "sc"
inductive Cn_spans(u v:D)(M:MH)(Q:DK):Prop
 |mk (n:Nat) (a b c d x y:Rat) (_:u=Ma.wll a b c d) (_:v=Ma.spt x y) (_:Ma.Bq n a) (_:Ma.Bq n b) (_:Ma.Bq n c) (_:Ma.Bq n d) (_:Ma.Bq n x) (_:Ma.Bq n y) (_:n<=100000) (_:Q (.bl (!decide (Ma.ah x y a b)&&decide (Ma.ah x y c d))) M)
theorem yc(T:Tx K mg):Cal P w K mg base 3 "spans" (sD2 Cn_spans):=by
 refine bg (k:=2) T.f_spans wJ fun f cdv A outer s H E hr=>⟨_,(aq (az (mR (oV (ak (bJ T).m hr (aa (dv 1) (aa (au (dv 0) ag) af)))) (mw (ak (bJ T).m hr (aa (dv 1) (aa (au (dv 0) ag) af))))))),fun _ _ M Q h=>?_⟩;obtain⟨n,a,b,c,d,x,y,rfl,rfl,ha,hb,hc,hd,hx,hy,hn,k⟩:=h;have mo:∀{q:Rat},Ma.Bq n q->Ma.Bq 100000 q:=fun z=>z.mono hn;(try dsimp only[SD.d6,SD.cK,SD.bc,SD.eJ,SD.eQ,SD.cn,SD.cT,SD.tBD,SD.eL])
 exact xU (!decide (Ma.ah x y a b)) (decide (Ma.ah x y c d)) (fun K hK=>⟨_,rfl,_,rfl,_,rfl,x,y,a,b,rfl,rfl,mo hx,mo hy,mo ha,mo hb,_,rfl,hK⟩) (fun _ K hK=>⟨_,rfl,_,rfl,_,rfl,x,y,c,d,rfl,rfl,mo hx,mo hy,mo hc,mo hd,hK⟩) (rtn k)
theorem kD:FnScope ["one","other"] ["one","other"] (ao gh):=by walk_at "sc"
inductive Cn_earlier_of(x y:D)(M:MH)(Q:DK):Prop
 |mk (c d g h:Rat) (_:x=Ma.spt c d) (_:y=Ma.spt g h) (_:Ma.Bq 100000 c) (_:Ma.Bq 100000 d) (_:Ma.Bq 100000 g) (_:Ma.Bq 100000 h) (_:∀s:Rat×Rat,s=(if Ma.ah c d g h then(c,d)else(g,h))->Q (Ma.spt s.1 s.2) M)
theorem gJ(T:Tx K mg):Cal P w K mg base 3 "earlier_of" (sD2 Cn_earlier_of):=by
 refine bg (k:=2) T.f_earlier_of kD fun f cdv A outer s H E hr=>⟨_,(aq (az (eF (cH (ak (bJ T).m hr (aa (dv 0) (aa (dv 1) af)))) (dv 0) (dv 1)))),fun _ _ M Q h=>?_⟩;obtain⟨c,d,g,h',rfl,rfl,h1,h2,h3,h4,k⟩:=h;refine⟨_,rfl,_,rfl,c,d,g,h',rfl,rfl,h1,h2,h3,h4,_,rfl,?_⟩;refine bS (fun h=>?_) (fun h=>?_)
 ·have z:Ma.ah c d g h':=by simpa[Ma.ah]using h
  have:=k (c,d) (by rw[if_pos z]);exact⟨_,rfl,rtn this⟩
 ·have z:¬Ma.ah c d g h':=by simpa[Ma.ah]using h
  have:=k (g,h') (by rw[if_neg z]);exact⟨_,rfl,rtn this⟩
theorem oe:FnScope ["one","other"] ["one","other"] (ao jw):=by walk_at "sc"
inductive Cn_later_of(x y:D)(M:MH)(Q:DK):Prop
 |mk (a b e f:Rat) (_:x=Ma.spt a b) (_:y=Ma.spt e f) (_:Ma.Bq 100000 a) (_:Ma.Bq 100000 b) (_:Ma.Bq 100000 e) (_:Ma.Bq 100000 f) (_:∀s:Rat×Rat,s=(if Ma.ah e f a b then(a,b)else(e,f))->Q (Ma.spt s.1 s.2) M)
theorem pJ(T:Tx K mg):Cal P w K mg base 3 "later_of" (sD2 Cn_later_of):=by
 refine bg (k:=2) T.f_later_of oe fun f cdv A outer s H E hr=>⟨_,(aq (az (eF (cH (ak (bJ T).m hr (aa (dv 1) (aa (dv 0) af)))) (dv 0) (dv 1)))),fun _ _ M Q h=>?_⟩;obtain⟨a,b,e,f,rfl,rfl,h1,h2,h3,h4,k⟩:=h;refine⟨_,rfl,_,rfl,e,f,a,b,rfl,rfl,h3,h4,h1,h2,_,rfl,?_⟩;refine bS (fun h=>?_) (fun h=>?_)
 ·have z:Ma.ah e f a b:=by simpa[Ma.ah]using h
  have:=k (a,b) (by rw[if_pos z]);exact⟨_,rfl,rtn this⟩
 ·have z:¬Ma.ah e f a b:=by simpa[Ma.ah]using h
  have:=k (e,f) (by rw[if_neg z]);exact⟨_,rfl,rtn this⟩
theorem dw:FnScope ["one","other","start","end","place","deciding"] ["one","other"] (ao j5):=by walk_at "sc"
inductive Cn_is_above(u v:D)(M:MH)(Q:DK):Prop
 |mk (t b X Y:Int) (U V:Wl) (_:u=rwl t b X Y U) (_:v=rwl t b X Y V) (_:Scl t b X Y) (_:Un5 U) (_:Un5 V) (_:Q (.bl (abv U V)) M)
theorem pD(T:Tx K mg):Cal P w K mg base 4 "is_above" (sD2 Cn_is_above):=by
 refine bg (k:=3) T.f_is_above dw fun f cdv A outer s H E hr=>⟨_,(ai (dM 2 3 rfl dw.nd (aa (ak (pJ T).m hr (aa (au (dv 0) ag) (aa (au (dv 1) ag) af))) (aa (ak (gJ T).m hr (aa (au (dv 0) ag) (aa (au (dv 1) ag) af))) af))) (ai (bo (t6 (cH (ak (bJ T).m hr (aa (dv 2) (aa (dv 3) af))))) (aq (az iB)) aL) (ai (bR (eF (aH (cg hr.units) (au (dv 0) ag) (au (dv 1) ag)) (aG (aa ag (aa (dv 3) af))) (aG (aa ag (aa (dv 2) af)))) (bj rfl (ay (ax 4 dw.nd) (ay (ax 5 dw.nd) aR)))) (ai (bo (aH (cg hr.units) (dv 5) (au (dv 0) (dv 4))) (aq (az (cv (cg hr.units) (ak (ck T).m hr (aa (dv 1) (aa (dv 5) af))) ag))) aL) (aq (az (cv (cg hr.units) (ak (ck T).m hr (aa (dv 0) (aa (dv 5) af))) (m9 gz ag)))))))),fun _ _ M Q h=>?_⟩;obtain⟨t,b,X,Y,U,V,rfl,rfl,S,HU,HV,k⟩:=h;have T0:=S.t0;have B0:=S.b0;have one:(0:Int)<1/\(1:Int)<=10^6:=by decide
 have W6:∀{z:Int},(0<=z/\z<=20)->(-(10^6)<=z/\z<=10^6):=fun{z} h=>by omega
 have bx:∀{z:Int},(0<=z/\z<=20)->Ma.Bq 200 (Ma.ut t b X 1 z):=fun{z} h=>S.bx one (W6 h);have by':∀{z:Int},(0<=z/\z<=20)->Ma.Bq 200 (Ma.ut t b Y 1 z):=fun{z} h=>S.by' one (W6 h)
 have mo:∀{q:Rat},Ma.Bq 200 q->Ma.Bq 100000 q:=fun z=>z.mono (by decide)
 have late:∃sx sy:Int,(if Ma.ah (Ma.ut t b X 1 V.1) (Ma.ut t b Y 1 V.2.1) (Ma.ut t b X 1 U.1) (Ma.ut t b Y 1 U.2.1)then(Ma.ut t b X 1 U.1,Ma.ut t b Y 1 U.2.1)else(Ma.ut t b X 1 V.1,Ma.ut t b Y 1 V.2.1))=(Ma.ut t b X 1 sx,Ma.ut t b Y 1 sy)/\(0<=sx/\sx<=20)/\(0<=sy/\sy<=20)/\la sx sy=max (l1 U) (l1 V)/\((l1 V<l1 U/\sx=U.1/\sy=U.2.1)\/(¬l1 V<l1 U/\sx=V.1/\sy=V.2.1)):=by
  have z:=mz (X:=X) (Y:=Y) (p:=V.1) (q:=V.2.1) (e:=U.1) (f:=U.2.1) T0 B0 HV.b HU.b
  by_cases y:la V.1 V.2.1<la U.1 U.2.1
  ·exact⟨U.1,U.2.1,by rw[if_pos (z.mpr y)],HU.a,HU.b,by unfold l1;omega,.inl ⟨y,rfl,rfl⟩⟩
  ·exact⟨V.1,V.2.1,by rw[if_neg (fun q=>y (z.mp q))],HV.a,HV.b,by unfold l1;omega,.inr ⟨y,rfl,rfl⟩⟩
 have early:∃ex ey:Int,(if Ma.ah (Ma.ut t b X 1 U.2.2.1) (Ma.ut t b Y 1 U.2.2.2) (Ma.ut t b X 1 V.2.2.1) (Ma.ut t b Y 1 V.2.2.2)then(Ma.ut t b X 1 U.2.2.1,Ma.ut t b Y 1 U.2.2.2)else(Ma.ut t b X 1 V.2.2.1,Ma.ut t b Y 1 V.2.2.2))=(Ma.ut t b X 1 ex,Ma.ut t b Y 1 ey)/\(0<=ex/\ex<=20)/\(0<=ey/\ey<=20)/\la ex ey=min (l2 U) (l2 V)/\((l2 U<l2 V/\ex=U.2.2.1/\ey=U.2.2.2)\/(¬l2 U<l2 V/\ex=V.2.2.1/\ey=V.2.2.2)):=by
  have z:=mz (X:=X) (Y:=Y) (p:=U.2.2.1) (q:=U.2.2.2) (e:=V.2.2.1) (f:=V.2.2.2) T0 B0 HU.d HV.d
  by_cases y:la U.2.2.1 U.2.2.2<la V.2.2.1 V.2.2.2
  ·exact⟨U.2.2.1,U.2.2.2,by rw[if_pos (z.mpr y)],HU.c,HU.d,by unfold l2;omega,.inl ⟨y,rfl,rfl⟩⟩
  ·exact⟨V.2.2.1,V.2.2.2,by rw[if_neg (fun q=>y (z.mp q))],HV.c,HV.d,by unfold l2;omega,.inr ⟨y,rfl,rfl⟩⟩
 obtain⟨sx,sy,es,hsx,hsy,ls,cs⟩:=late;obtain⟨ex,ey,ee,hex,hey,le,ce⟩:=early;refine⟨_,rfl,_,rfl,_,rfl,_,rfl,_,_,_,_,rfl,rfl,mo (bx HU.a),mo (by' HU.b),mo (bx HV.a),mo (by' HV.b),fun s1 hs1=>?_⟩;rw[es]at hs1;subst hs1;refine⟨_,rfl,_,rfl,_,rfl,_,rfl,_,_,_,_,rfl,rfl,mo (bx HU.c),mo (by' HU.d),mo (bx HV.c),mo (by' HV.d),fun s2 hs2=>?_⟩;rw[ee]at hs2;subst hs2;refine⟨_,_,rfl,?_⟩;refine⟨_,rfl,_,rfl,Ma.ut t b X 1 sx,Ma.ut t b Y 1 sy,Ma.ut t b X 1 ex,Ma.ut t b Y 1 ey,rfl,rfl,mo (bx hsx),mo (by' hsy),mo (bx hex),mo (by' hey),_,rfl,?_⟩;have dal:=mz (X:=X) (Y:=Y) (p:=sx) (q:=sy) (e:=ex) (f:=ey) T0 B0 hsy hey;rw[ls,le]at dal;refine bS (fun h=>?_) (fun h=>?_)
 ·have ap:¬(max (l1 U) (l1 V)<min (l2 U) (l2 V)):=fun z=>by
   have z':=dal.mpr z
   unfold Ma.ah at z'
   simp[z']at h
  have e:abv U V=false:=by unfold abv;rw[if_neg ap]
  rw[e]at k;exact rtn k
 have ap:max (l1 U) (l1 V)<min (l2 U) (l2 V):=dal.mp (Decidable.byContradiction fun z=>h ((Bool.not_eq_true' _).mpr (decide_eq_false z)));dsimp only[SD.cn];refine gc (fun δ M'=>M'=M/\∃(pl dx dy px py:Int) (o2 o3:Option D),δ=[some (rwl t b X Y U),some (rwl t b X Y V),o2,o3,some (.int pl),some (Ma.spt (Ma.ut t b X 1 dx) (Ma.ut t b Y 1 dy))]/\atI [Ma.spt (Ma.ut t b X 1 U.1) (Ma.ut t b Y 1 U.2.1),Ma.spt (Ma.ut t b X 1 U.2.2.1) (Ma.ut t b Y 1 U.2.2.2)] pl=some (Ma.spt (Ma.ut t b X 1 px) (Ma.ut t b Y 1 py))/\(0<=dx/\dx<=20)/\(0<=dy/\dy<=20)/\(0<=py/\py<=20)/\(la dx dy=la px py->decide (0<sd V dx dy)=abv U V)/\(la dx dy≠la px py->decide (sd U dx dy<0)=abv U V)) ?_ (fun hu=>?_);rotate_left
 ·refine⟨_,rfl,_,rfl,_,rfl,_,rfl,_,_,Pd.of rfl,Pd.of rfl,rfl,rfl,?_⟩;rw[Ma.gB];refine⟨_,rfl,?_⟩;have q1:=gH (X:=X) (Y:=Y) (p:=U.1) (q:=U.2.1) (e:=V.1) (f:=V.2.1) T0 B0 HU.b HV.b;refine bS (fun h=>?_) (fun h=>?_)
  ·have e1:l1 U=l1 V:=q1.mp (by simpa using h);refine⟨_,rfl,nbL rfl,?_⟩;refine⟨_,rfl,rfl,_,_,rfl,_,_,rfl,rfl,?_⟩;refine hu _ _ ⟨rfl,1,ex,ey,U.2.2.1,U.2.2.2,_,_,rfl,rfl,hex,hey,HU.d,fun z=>?_,fun z=>?_⟩
   ·rcases ce with⟨z1,rfl,rfl⟩|⟨z1,rfl,rfl⟩
    ·unfold abv;rw[if_pos ap,if_pos e1,if_pos z1];rfl
    ·have y1:sd2 U V=0:=mV HU HV z.symm;have y2:sd V V.2.2.1 V.2.2.2=0:=mV HV HV rfl;unfold abv;rw[if_pos ap,if_pos e1,if_neg z1,y1,y2]
   ·rcases ce with⟨z1,rfl,rfl⟩|⟨z1,rfl,rfl⟩
    ·exact absurd rfl z
    ·unfold abv;rw[if_pos ap,if_pos e1,if_neg z1];rfl
  ·have e1:¬l1 U=l1 V:=fun z=>h (by simpa using q1.mpr z);refine⟨_,rfl,nbL rfl,?_⟩;refine⟨_,rfl,rfl,_,_,rfl,_,_,rfl,rfl,?_⟩;refine hu _ _ ⟨rfl,0,sx,sy,U.1,U.2.1,_,_,rfl,rfl,hsx,hsy,HU.b,fun z=>?_,fun z=>?_⟩
   ·rcases cs with⟨z1,rfl,rfl⟩|⟨z1,rfl,rfl⟩
    ·unfold abv;rw[if_pos ap,if_neg e1,if_pos z1];rfl
    ·exact absurd z.symm e1
   ·rcases cs with⟨z1,rfl,rfl⟩|⟨z1,rfl,rfl⟩
    ·exact absurd rfl z
    ·unfold abv;rw[if_pos ap,if_neg e1,if_neg z1];rfl
 rintro δ M' ⟨rfl,pl,dx,dy,px,py,o2,o3,rfl,epl,hdx,hdy,hpy,c1,c2⟩;refine⟨_,rfl,_,rfl,_,rfl,_,epl,_,_,Pd.of rfl,Pd.of rfl,rfl,rfl,?_⟩;rw[Ma.gB];have q2:=gH (X:=X) (Y:=Y) (p:=dx) (q:=dy) (e:=px) (f:=py) T0 B0 hdy hpy;refine⟨_,rfl,?_⟩;refine bS (fun h=>?_) (fun h=>?_)
 ·have z:la dx dy=la px py:=q2.mp (by simpa using h);refine⟨_,rfl,_,rfl,200,_,_,_,_,_,_,rfl,rfl,bx HV.a,by' HV.b,bx HV.c,by' HV.d,bx hdx,by' hdy,by decide,?_⟩;rw[gQ T0 B0];have e:decide (Fo (sd V dx dy)=1)=abv U V:=by rw[<-c1 z,decide_eq_decide];exact sg1 _
  show Ret Q (.bl (decide _)) _;rw[e];exact rtn k
 ·have z:la dx dy≠la px py:=fun q=>h (by simpa using q2.mpr q);refine⟨_,rfl,_,rfl,200,_,_,_,_,_,_,rfl,rfl,bx HU.a,by' HU.b,bx HU.c,by' HU.d,bx hdx,by' hdy,by decide,?_⟩;rw[gQ T0 B0];have e:decide (Fo (sd U dx dy)=-1)=abv U V:=by rw[<-c2 z,decide_eq_decide];exact EO _
  show Ret Q (.bl (decide _)) _;rw[e];exact rtn k
theorem om:FnScope ["wall"] ["wall"] (ao iZ):=by walk_at "sc"
inductive Cn_own_wall(x:D)(M:MH)(Q:DK):Prop
 |mk (a b c d:Rat) (_:x=Ma.wll a b c d) (_:Ma.Bq 8000 a) (_:Ma.Bq 8000 b) (_:Ma.Bq 8000 c) (_:Ma.Bq 8000 d) (_:Q (Ma.wll a b c d) M)
theorem oT(T:Tx K mg):Cal P w K mg base 4 "own_wall" (sD1 Cn_own_wall):=by refine eD (k:=3) T.f_own_wall om fun f cdv A outer s H E hr=>⟨_,(aq (az (aG (aa (ak (fQ T).m hr (aa (au (dv 0) ag) af)) (aa (ak (fQ T).m hr (aa (au (dv 0) ag) af)) af))))),fun _ M Q h=>?_⟩;obtain⟨a,b,c,d,rfl,h1,h2,h3,h4,k⟩:=h;exact⟨_,rfl,_,rfl,a,b,rfl,h1,h2,_,rfl,_,rfl,c,d,rfl,h3,h4,nbL rfl,rtn k⟩
theorem dk:FnScope ["walls","upper","wall"] ["walls"] (ao j6):=by walk_at "sc"
inductive Cn_upper_of(u:D)(M:MH)(Q:DK):Prop
 |mk (a:Addr) (t b X Y:Int) (us:List Wl) (top:Wl) (_:u=.ref a) (_:M a=some (.lst (us.map (rwl t b X Y)))) (_:Scl t b X Y) (_:(∀w∈us,Un5 w)) (_:top∈us) (_:(∀w∈us,w=top\/(abv top w=true/\abv w top=false))) (_:Q (rwl t b X Y top) M)
theorem qq(T:Tx K mg):Cal P w K mg base 5 "upper_of" (sD1 Cn_upper_of):=by
 refine eD (k:=4) T.f_upper_of dk fun f cdv A outer s H E hr=>⟨_,(ai (aA 1 dk.nd (au (dv 0) ag)) (ai (bH Ft rfl (aO (dv 0)) (ax 2 dk.nd) (aq (bo (cH (ak (pD T).m hr (aa (dv 2) (aa (dv 1) af)))) (aq (aA 1 dk.nd (dv 2))) aL))) (aq (az (ak (oT T).m hr (aa (dv 1) af)))))),fun _ M Q h=>?_⟩;obtain⟨a,t,b,X,Y,us,top,rfl,ha,S,hU,ht,hT,k⟩:=h;cases us with
 |nil=>cases ht
 |cons u0 us=>
  refine⟨_,rfl,_,_,ha,cQ (j:=0) (v:=rwl t b X Y u0) rfl,?_⟩
  refine⟨_,rfl,(u0::us).map (rwl t b X Y),ha,?_⟩
  refine⟨fun i δ M'=>M'=M/\∃up o2,δ=[some (.ref a),some (rwl t b X Y up),o2]/\up∈u0::us/\(top∈(u0::us).take i->up=top),⟨rfl,u0,_,rfl,by simp,fun z=>by simp at z⟩,fun i δ M' _ z=>by obtain⟨rfl,_⟩:=z;exact ha,?_,?_⟩
  ·rintro i d δ M' hi hd ⟨rfl,up,o2,rfl,hup,imp⟩;have hd:((u0::us).map (rwl t b X Y))[i]?=some d:=hd;rw[E9]at hd;cases ew:(u0::us)[i]? with
   |none=>rw[ew]at hd;cases hd
   |some w=>
    rw[ew]at hd
    cases hd
    have hw:w∈u0::us:=EZ ew
    have tk:∀z,z∈(u0::us).take (i+1)->z∈(u0::us).take i\/z=w:=fun z hz=>by rw[Hn,ew]at hz;simpa using hz
    refine⟨_,rfl,_,rfl,t,b,X,Y,w,up,rfl,rfl,S,hU w hw,hU up hup,_,rfl,?_⟩
    refine bS (fun h=>?_) (fun h=>?_)
    ·refine⟨_,rfl,rfl,w,_,rfl,hw,fun z=>?_⟩;rcases tk _ z with z|z
     ·have:=imp z;subst this;rcases hT w hw with q|q
      ·exact q
      ·rw[q.2]at h;cases h
     ·exact z.symm
    ·refine⟨rfl,up,_,rfl,hup,fun z=>?_⟩;rcases tk _ z with z|z
     ·exact imp z
     ·subst z;rcases hT up hup with q|q
      ·exact q
      ·exact absurd q.1 h
  ·rintro δ M' ⟨rfl,up,o2,rfl,hup,imp⟩;have e:up=top:=imp (by show top∈(u0::us).take ((u0::us).map (rwl t b X Y)).length;rw[GH (by simp)];exact ht);subst e;have W:=hU up hup;have one:(0:Int)<1/\(1:Int)<=10^6:=by decide
   have W6:∀{z:Int},(0<=z/\z<=20)->(-(10^6)<=z/\z<=10^6):=fun{z} h=>by omega
   have bx:∀{z:Int},(0<=z/\z<=20)->Ma.Bq 8000 (Ma.ut t b X 1 z):=fun{z} h=>(S.bx one (W6 h)).mono (by decide);have by':∀{z:Int},(0<=z/\z<=20)->Ma.Bq 8000 (Ma.ut t b Y 1 z):=fun{z} h=>(S.by' one (W6 h)).mono (by decide)
   exact⟨_,rfl,_,_,_,_,rfl,bx W.a,by' W.b,bx W.c,by' W.d,rtn k⟩
theorem eP:FnScope ["walls","spot","below"] ["walls","spot"] (ao fj):=by walk_at "sc"
inductive Cn_upper_below(u v:D)(M:MH)(Q:DK):Prop
 |mk (t b X Y p q m:Int) (ws:List Wl) (_:u=.tup (ws.map (rwl t b X Y))) (_:v=Ma.spt (Ma.ut t b X m p) (Ma.ut t b Y m q)) (_:Scl t b X Y) (_:(∀w∈ws,Un5 w)) (_:ws.length<=40) (_:(-1000<=p/\p<=1000)) (_:(-10<=q/\q<=85)) (_:(0<m/\m<=4)) (_:(bK ws m p q=[]->Q .non M)) (_:(∀tt∈bK ws m p q,(∀w∈(bK ws m p q).map (wAt ws),w=wAt ws tt\/(abv (wAt ws tt) w=true/\abv w (wAt ws tt)=false))->Q (rwl t b X Y (wAt ws tt)) M)) (_:(bK ws m p q≠[]->∃tt∈bK ws m p q,∀w∈(bK ws m p q).map (wAt ws),w=wAt ws tt\/(abv (wAt ws tt) w=true/\abv w (wAt ws tt)=false)))
theorem fE(T:Tx K mg):Cal P w K mg base 6 "upper_below" (sD2 Cn_upper_below):=by
 refine bg (k:=5) T.f_upper_below eP fun f cdv A outer s H E hr=>⟨_,(ai (f6 2 eP.nd (CScope.of (xs:=["wall"]) (js:=[1]) rfl) rfl (aO (dv 0)) (fun _ _ _ _=>(yH (lU (iU (cH (ak (yc T).m hr (aa (dv 0) (aa (dv 1) af)))) (gI (aH (cg hr.units) (ak (ck T).m hr (aa (dv 0) (aa (dv 1) af))) ag)))))) (fun _ _ _ _=>(dv 0))) (aq (az (eF (A9 (dv 2)) (ak (qq T).m hr (aa (dv 2) af)) j4)))),fun _ _ M Q h=>?_⟩;obtain⟨t,b,X,Y,p,q,m,ws,rfl,rfl,S,hU,hlen,hp,hq,hm,k0,k1,ex⟩:=h;have hwl:(ws.map (rwl t b X Y)).length=ws.length:=by simp
 have one:(0:Int)<1/\(1:Int)<=10^6:=by decide
 have hm6:(0:Int)<m/\m<=10^6:=by omega
 have W6:∀{z:Int},(0<=z/\z<=20)->(-(10^6)<=z/\z<=10^6):=fun{z} h=>by omega
 have bx:∀{z:Int},(0<=z/\z<=20)->Ma.Bq 200 (Ma.ut t b X 1 z):=fun{z} h=>S.bx one (W6 h);have by':∀{z:Int},(0<=z/\z<=20)->Ma.Bq 200 (Ma.ut t b Y 1 z):=fun{z} h=>S.by' one (W6 h)
 have bp:Ma.Bq 200 (Ma.ut t b X m p):=S.bx hm6 (by omega);have bq:Ma.Bq 200 (Ma.ut t b Y m q):=S.by' hm6 (by omega);refine⟨_,rfl,ws.map (rwl t b X Y),rfl,yw (fun j=>if bB ws m p q j=true then some (rwl t b X Y (wAt ws (j:Int)))else none) (by show(ws.map (rwl t b X Y)).length<=1000000;rw[hwl];omega) (fun _ _ _=>rfl) ?_ (fun lb hlb=>?_)⟩
 ·intro a d M6 ha hd sb;have hd:(ws.map (rwl t b X Y))[a]?=some d:=hd;have ha:a<ws.length:=by have:a<(ws.map (rwl t b X Y)).length:=ha;omega
  obtain⟨w1,w2,w3⟩:=bC (ws:=ws) (k:=(a:Int)) (by omega) (by omega);have w1':ws[a]?=some (wAt ws (a:Int)):=by simpa using w1
  rw[E9,w1']at hd;cases hd;have W:=hU _ w3
  have s1:(!decide (Ma.ah (Ma.ut t b X m p) (Ma.ut t b Y m q) (Ma.ut t b X 1 (wAt ws (a:Int)).1) (Ma.ut t b Y 1 (wAt ws (a:Int)).2.1))&&decide (Ma.ah (Ma.ut t b X m p) (Ma.ut t b Y m q) (Ma.ut t b X 1 (wAt ws (a:Int)).2.2.1) (Ma.ut t b Y 1 (wAt ws (a:Int)).2.2.2)))=spB ws m (la p q) a:=by
   unfold spB;rw[decide_eq_decide.mpr (vY S.t0 S.b0 hm hq W.b),decide_eq_decide.mpr (vY S.t0 S.b0 hm hq W.d),<-decide_not]
   congr 1
   rw[decide_eq_decide];unfold l1;omega
  refine⟨_,rfl,fun K hK=>?_,fun v hv K hK=>?_⟩
  ·have hK':K (bB ws m p q a) M6:=by cases z:bB ws m p q a<;>rw[z]at hK<;>exact hK
   unfold bB at hK';refine wg (spB ws m (la p q) a) (decide (Fo (sd (uby m (wAt ws (a:Int))) p q)=1)) (fun K' hK2=>⟨_,rfl,_,rfl,200,_,_,_,_,_,_,rfl,rfl,bx W.a,by' W.b,bx W.c,by' W.d,bp,bq,by decide,?_⟩) (fun _ K' hK2=>⟨_,rfl,_,rfl,200,_,_,_,_,_,_,rfl,rfl,bx W.a,by' W.b,bx W.c,by' W.d,bp,bq,by decide,_,rfl,?_⟩) hK'
   ·rw[s1];exact⟨_,rfl,hK2⟩
   ·rw[xq S.t0 S.b0 hm.1];exact hK2
  ·cases z:bB ws m p q a with
   |false=>rw[z]at hv;cases hv
   |true=>
    rw[z]at hv
    cases hv
    exact⟨_,rfl,hK _ .refl⟩
 dsimp only;rw[vK];refine⟨_,rfl,lb,_,rfl,aj,?_⟩;by_cases he:bK ws m p q=[]
 ·rw[he];exact iF rfl ⟨_,.new hlb .refl,k0 he⟩
 ·obtain⟨tt,htt,htop⟩:=ex he
  refine tP (by
   cases z:bK ws m p q with
   |nil=>exact absurd z he
   |cons a l=>rfl) ?_
  have bnd:∀k∈bK ws m p q,0<=k/\k<ws.length:=fun k hk=>⟨(ff (fM hk)).1,(ff (fM hk)).2.1⟩;refine⟨_,rfl,lb,t,b,X,Y,(bK ws m p q).map (wAt ws),wAt ws tt,rfl,aj,S,fun w hw=>?_,Fm.mpr ⟨tt,htt,rfl⟩,htop,⟨_,.new hlb .refl,k1 tt htt htop⟩⟩;obtain⟨kk,hk,rfl⟩:=Fm.mp hw;exact hU _ (bC (bnd kk hk).1 (bnd kk hk).2).2.2
theorem fB:FnScope ["plot","spot","wall"] ["plot","spot"] (ao gK):=by walk_at "sc"
def cA:SpD:=fun ds M Q=>match ds with
 |[u,v]=>False
 |_=>False
theorem kd:∀ds M Q,cA ds M Q->ds.length=2:=fun ds M Q h=>by
 unfold cA at h;split at h
 ·rfl
 ·exact h.elim
theorem me(T:Tx K mg):Cal P w K mg base 7 "wall_below" cA:=by
 refine wM (k:=6) T.f_wall_below fB (fun _ _ _ _ _ _ us hl=>by obtain⟨_,_,rfl⟩:=SD.xI hl;rfl) kd fun f cdv A outer s H E hr=>⟨_,(ai (aA 2 fB.nd (ak (fE T).m hr (aa (dv 0) (aa (dv 1) af)))) (aq (az (eF (aH vg (dv 2) j4) j4 (j7 (f7 hr) (dv 0) (aa (dv 2) af)))))),fun ds M Q h=>?r⟩
 case r=>
  unfold cA at h
  split at h
  case h_2=>exact h.elim
  exact h.elim
theorem aW:FnScope ["plot","lands","spot","corners","number","wall","below"] ["plot","lands","spot"] (ao dg):=by walk_at "sc"
inductive Cn_look_with_lands(x y s:D)(M:MH)(Q:DK):Prop
 |mk (t b X Y:Int) (ws:List Wl) (d:D) (_:x=.tup (ws.map (rwl t b X Y))) (_:Scl t b X Y) (_:ws.length<=40) (_:(∀w∈ws,Un5 w)) (_:PF ws) (_:Told t b X Y ws s d) (_:∀M',SD.Sub M M'->Q d M')
theorem gi(T:Tx K mg):Cal P w K mg base 8 "look_with_lands" (sD3 Cn_look_with_lands):=by
 refine lF (k:=7) T.f_look_with_lands aW fun f cdv A outer s H E hr=>⟨_,(ai (aA 3 aW.nd (ak (mD T).m hr (aa (dv 0) af))) (ai (bo (aH (Cj (f7 hr)) (dv 2) (dv 3) (by with_unfolding_all rfl)) (aq (az (aG (aa jv (aa (jo (f7 hr) (dv 3) (aa (dv 2) af)) af))))) aL) (ai (bH Ft rfl (wj rfl T.b_enumerate (aa (dv 0) af)) (bj rfl (ay (ax 4 aW.nd) (ay (ax 5 aW.nd) aR))) (aq (bo (cH (ak (sI T).m hr (aa (dv 5) (aa (dv 2) af)))) (aq (az (aG (aa jv (aa (dv 4) af))))) aL))) (ai (aA 6 aW.nd (ak (me T).m hr (aa (dv 0) (aa (dv 2) af)))) (aq (az (aG (aa jv (aa (eF (aH vg (dv 6) j4) ag (au (dv 1) (av aD ag (dv 6)))) af))))))))),fun _ _ _ M Q h=>?_⟩;obtain⟨t,b,X,Y,ws,d,rfl,S,hn,hU,hF,Td,k⟩:=h;refine⟨_,rfl,t,b,X,Y,ws,rfl,S,hn,hU,fun M1 z ps sb nz hz pm up=>?_⟩;cases Td with
 |corner us j u h1 h2 h3=>
  have e:ps=us:=yU (fun k=>by rw[pm.mem_iff,uP,h1]) up h2
  subst e
  have hj:=(F0.mp h3).1
  refine⟨_,rfl,_,rfl,gP t b X Y u,ps.map (gP t b X Y),Pd.of rfl,.inl (.lst hz (lY t b X Y ps)),rfl,lP t b X Y ps,_,rfl,?_⟩
  refine tP ?_ ?_
  ·rw[List.any_map,List.any_eq_true];exact⟨u,EZ h3,by show FG (gP t b X Y u) (gP t b X Y u)=true;rw[vd S.t0 S.b0];exact decide_eq_true rfl⟩
  refine⟨_,rfl,z,_,rfl,hz,_,rfl,ps.map (gsp t b X Y),_,gP t b X Y u,j,rfl,hz,(by rw[E6];exact hj),Pd.of rfl,rfl,(fun i y hi hy=>?_),nbL rfl,rtn (k _ sb)⟩
  rw[E9]at hy
  cases ei:ps[i]? with
  |none=>rw[ei]at hy;cases hy
  |some v=>
   rw[ei]at hy
   cases hy
   exact⟨gP t b X Y v,Pd.of rfl,rfl,CK S.t0 S.b0 h2 h3 ei⟩
 |wall i w m k' h1 h2 h3 h4=>
  have hw:=hU w (EZ h1)
  have hi:=(F0.mp h1).1
  have m0:0<m:=by omega
  have bix:-(10^6)<=ix w m k'/\ix w m k'<=10^6:=gb hw.a hw.c (by omega) (by omega) h4
  have biy:-(10^6)<=iy w m k'/\iy w m k'<=10^6:=gb hw.b hw.d (by omega) (by omega) h4
  have bx:=S.bx (m:=m) (p:=ix w m k') (by omega) bix
  have by':=S.by' (m:=m) (p:=iy w m k') (by omega) biy
  refine⟨_,rfl,_,rfl,.tuple [.tuple [.int (Ma.ut t b X m (ix w m k')).num,.int ((Ma.ut t b X m (ix w m k')).den:Int)],.tuple [.int (Ma.ut t b Y m (iy w m k')).num,.int ((Ma.ut t b Y m (iy w m k')).den:Int)]],ps.map (gP t b X Y),Pd.of rfl,.inl (.lst hz (lY t b X Y ps)),rfl,lP t b X Y ps,_,rfl,?_⟩
  refine iF ?_ ?_
  ·rw[List.any_map,List.any_eq_false];intro u hu hq;have hq:FG (.tuple [.tuple [.int (Ma.ut t b X 1 u.1).num,.int ((Ma.ut t b X 1 u.1).den:Int)],.tuple [.int (Ma.ut t b Y 1 u.2).num,.int ((Ma.ut t b Y 1 u.2).den:Int)]]) (.tuple [.tuple [.int (Ma.ut t b X m (ix w m k')).num,.int ((Ma.ut t b X m (ix w m k')).den:Int)],.tuple [.int (Ma.ut t b Y m (iy w m k')).num,.int ((Ma.ut t b Y m (iy w m k')).den:Int)]])=true:=hq;rw[Ma.gB,decide_eq_true_eq,Ma.d8 S.t0 S.b0 (by decide) m0,Ma.d8 S.t0 S.b0 (by decide) m0]at hq;exact oR hU hF h1 h2 h3 (pm.mem_iff.mp hu) ⟨by omega,by omega⟩
  refine⟨_,rfl,_,rfl,fun j δ M'=>∃o1 o4 o5 o6:Option D,δ=[some (.tup (ws.map (rwl t b X Y))),o1,some (Ma.spt (Ma.ut t b X m (ix w m k')) (Ma.ut t b Y m (iy w m k'))),some (.ref z),o4,o5,o6]/\SD.Sub M M'/\j<=i,⟨_,_,_,_,rfl,sb,FQ _⟩,fun _ _ _ _ _=>trivial,?_,?_⟩
  ·rintro j e δ M' hj hd ⟨o1,o4,o5,o6,rfl,sb',hji⟩;have hj:j<ws.length:=by omega
   have ev:ws[j]?=some ws[j]:=E7 hj;have hv:=hU _ (G6 hj);generalize ws[j]=v at ev hv;have hd:((ws.map (rwl t b X Y))[j]?).map (fun d=>D.tup [.int (j:Int),d])=some e:=hd;rw[E9,ev]at hd;cases hd;refine⟨_,rfl,rfl,_,_,rfl,_,_,rfl,rfl,?_⟩;have q:∀z:Int,(0<=z/\z<=20)->(-(10^6)<=z/\z<=10^6):=fun z h=>by omega
   refine⟨_,rfl,_,rfl,200,_,_,_,_,_,_,rfl,rfl,S.bx (by decide) (q _ hv.a),S.by' (by decide) (q _ hv.b),S.bx (by decide) (q _ hv.c),S.by' (by decide) (q _ hv.d),bx,by',by decide,_,rfl,?_⟩;by_cases e:i=j
   ·subst e;rw[h1]at ev;cases ev;refine tP (decide_eq_true ((ot w S.t0 S.b0 m0).mpr (yQ hw h2 h3))) ?_;exact⟨_,rfl,nbL rfl,rtn (k _ sb')⟩
   ·refine iF (decide_eq_false fun q=>kW hw hv (hF i j w v e h1 ev) h2 h3 ((ot v S.t0 S.b0 m0).mp q)) ?_;exact⟨_,_,_,_,rfl,sb',by omega⟩
  ·rintro δ M' ⟨o1,o4,o5,o6,rfl,sb',hji⟩;have hji:(ws.map (rwl t b X Y)).length<=i:=hji;rw[E6]at hji;omega
theorem dN:FnScope ["plot","face","first","second"] ["plot","face"] (ao iC):=by walk_at "sc"
inductive Cn_face_ends(u v:D)(M:MH)(Q:DK):Prop
 |mk (t b X Y:Int) (ws:List Wl) (f:Nat) (_:u=.tup (ws.map (rwl t b X Y))) (_:v=.int (f:Int)) (_:f<2*ws.length) (_:ws.length<=1000) (_:Q (rwl t b X Y (fw ws f)) M)
theorem bF(T:Tx K mg):Cal P w K mg base 1 "face_ends" (sD2 Cn_face_ends):=by
 refine bg (k:=0) T.f_face_ends dN fun f cdv A outer s H E hr=>⟨_,(ai (bR (au (dv 0) (av fm (dv 1) ag)) (bj rfl (ay (ax 2 dN.nd) (ay (ax 3 dN.nd) aR)))) (aq (az (eF (aH (cg hr.units) (av fK (dv 1) ag) ag) (aG (aa (dv 2) (aa (dv 3) af))) (aG (aa (dv 3) (aa (dv 2) af))))))),fun _ _ M Q h=>?_⟩;obtain⟨t,b,X,Y,ws,f,rfl,rfl,hf,hlen,k⟩:=h;obtain⟨w1,w2,w3⟩:=bC (ws:=ws) (k:=((f/2:Nat):Int)) (by omega) (by omega);have ed:(f:Int).fdiv 2=((f/2:Nat):Int):=by rw[Gi _ (by decide)];omega
 have em:(f:Int).fmod 2=((f%2:Nat):Int):=by rw[Int.fmod_eq_emod_of_nonneg _ (by decide)];omega
 have at1:atI (ws.map (rwl t b X Y)) ((f:Int).fdiv 2)=some (rwl t b X Y (wAt ws ((f/2:Nat):Int))):=by rw[ed];refine cQ ?_;rw[Hb]at w1;rw[E9,w1];rfl
 refine⟨_,rfl,_,rfl,⟨by decide,cm (by decide)⟩,_,at1,?_⟩;refine⟨_,rfl,rfl,_,_,rfl,_,_,rfl,rfl,?_⟩;refine⟨_,rfl,(show(2:Int)≠0 by decide),_,rfl,?_⟩;dsimp only;rw[em];refine bS (fun h=>?_) (fun h=>?_)
 ·have h:f%2=0:=by have:((f%2:Nat):Int)=0:=by simpa using h
                   omega
  refine⟨_,rfl,_,rfl,nbL rfl,rtn ?_⟩;unfold fw at k;rw[if_pos h]at k;exact k
 ·have h:¬f%2=0:=fun z=>by rw[z]at h;simp at h
  refine⟨_,rfl,_,rfl,nbL rfl,rtn ?_⟩;unfold fw at k;rw[if_neg h]at k;exact k
theorem b8:FnScope ["plot","leaving","face"] ["plot"] (ao dD):=by walk_at "sc"
def spk(t b X Y:Int)(p:Vc):SpK:=((Ma.ut t b X 1 p.1).num,((Ma.ut t b X 1 p.1).den:Int),(Ma.ut t b Y 1 p.2).num,((Ma.ut t b Y 1 p.2).den:Int))
theorem qH{t b X Y:Int}(ht:0<t)(hb:0<b){p q:Vc}(h:spk t b X Y p=spk t b X Y q):p=q:=by unfold spk at h;injection h with h1 h;injection h with h2 h;injection h with h3 h4;have e1:Ma.ut t b X 1 p.1=Ma.ut t b X 1 q.1:=Rat.ext h1 (by exact_mod_cast h2);have e2:Ma.ut t b Y 1 p.2=Ma.ut t b Y 1 q.2:=Rat.ext h3 (by exact_mod_cast h4);have f1:=(Ma.d8 ht hb (by decide) (by decide)).mp e1;have f2:=(Ma.d8 ht hb (by decide) (by decide)).mp e2;exact Prod.ext (by omega) (by omega)
def lvs(ws:List Wl)(i:Nat)(p:Vc):List Int:=((Fg i).filter fun g=>decide (fa ws g=p)).map fun g:Nat=>(g:Int)
theorem nh(ws:List Wl)(i:Nat)(p:Vc):lvs ws (i+1) p=lvs ws i p++(if fa ws i=p then[(i:Int)]else[]):=by
 unfold lvs;rw[List.range_succ,List.filter_append,FI];by_cases h:fa ws i=p
 ·simp[h]
 ·simp[h]
theorem yR(ws:List Wl)(i:Nat)(p:Vc):(lvs ws i p).length<=i:=by unfold lvs;rw[E6];have:=List.length_filter_le (fun g=>decide (fa ws g=p)) (Fg i);simpa using this
theorem t5{kvs:SpT}{k:SpK}(d:D)(h:cO kvs k=none)(j:SpK):cO (putD kvs k d) j=if j=k then some d else cO kvs j:=by
 have ha:(kvs.any fun x=>decide (x.1=k))=false:=by unfold cO at h;rw[Option.map_eq_none_iff,List.find?_eq_none]at h;rw[List.any_eq_false];exact h
 unfold putD;rw[if_neg (by rw[ha];decide)];unfold cO at *;rw[List.find?_append];by_cases e:j=k
 ·subst e;rw[if_pos rfl];rw[Option.map_eq_none_iff]at h;rw[h];simp
 ·rw[if_neg e];have:¬k=j:=fun z=>e z.symm;cases kvs.find? fun x=>decide (x.1=j)<;>simp[this]
structure Lvn(t b X Y:Int)(ws:List Wl)(i:Nat)(M M':MH)(ld:Addr)(kvs:SpT)(L:Vc->Addr):Prop where
 d:M' ld=some (dsM kvs)
 some:∀p,lvs ws i p≠[]->cO kvs (spk t b X Y p)=.some (.ref (L p))/\M' (L p)=.some (.lst ((lvs ws i p).map D.int))/\L p≠ld/\M (L p)=none
 none:∀p,lvs ws i p=[]->cO kvs (spk t b X Y p)=.none
 inj:∀p q,lvs ws i p≠[]->lvs ws i q≠[]->L p=L q->p=q
inductive Cn_faces_by_start(u:D)(M:MH)(Q:DK):Prop
 |mk (t b X Y:Int) (ws:List Wl) (_:u=.tup (ws.map (rwl t b X Y))) (_:Scl t b X Y) (_:ws.length<=40) (_:∀(M':MH) (ld:Addr) (kvs:SpT) (L:Vc->Addr),SD.Sub M M'->Lvn t b X Y ws (2*ws.length) M M' ld kvs L->Q (.ref ld) M')
theorem hZ(T:Tx K mg):Cal P w K mg base 2 "faces_by_start" (sD1 Cn_faces_by_start):=by
 refine eD (k:=1) T.f_faces_by_start b8 fun f cdv A outer s H E hr=>⟨_,(ai (aA 1 b8.nd nB) (ai (gw Ft rfl rfl T.b_range (aa (av aD ag (aI dR rfl T.b_len dW (aa (dv 0) af))) af) (ax 2 b8.nd) (aq (dS (b4 (xP (f7 hr) (dv 1) (aa (au (ak (bF T).m hr (aa (dv 0) (aa (dv 2) af))) ag) (aa (cF af) af))) (aa (dv 2) af))))) (aq (az (dv 1))))),fun _ M Q h=>?_⟩;obtain⟨t,b,X,Y,ws,rfl,S,hlen,k⟩:=h;have hwl:(ws.map (rwl t b X Y)).length=ws.length:=by simp
 refine fun ld hld=>?_;refine⟨_,rfl,aS (cm (by decide)),2*ws.length,(by rw[hwl];simp),by omega,?_⟩;refine⟨fun i δ M'=>∃(kvs:SpT) (L:Vc->Addr) (o2:Option D),δ=[some (.tup (ws.map (rwl t b X Y))),some (.ref ld),o2]/\SD.Sub M M'/\kvs.length<=i/\Lvn t b X Y ws i M M' ld kvs L,?_,?_,?_⟩
 ·exact⟨[],fun _=>0,_,rfl,.new hld .refl,E8 _,aj,fun p h=>absurd rfl h,fun p _=>rfl,fun p q h=>absurd rfl h⟩
 ·rintro i δ M' hi ⟨kvs,L,o2,rfl,sb,hk,V⟩;have hdq:∀{q:Addr} {o},M' q=none->(aw M' q o) ld=some (dsM kvs):=fun hq=>by rw[ar (aC V.d hq)];exact V.d
  have lone:∀p,fa ws i≠p->lvs ws (i+1) p=lvs ws i p:=fun p h=>by rw[nh,if_neg h,GC]
  have lthe:lvs ws (i+1) (fa ws i)=lvs ws i (fa ws i)++[(i:Int)]:=by rw[nh,if_pos rfl]
  have ll:=yR ws i (fa ws i);refine⟨_,rfl,ld,kvs,rfl,V.d,_,rfl,_,rfl,t,b,X,Y,ws,i,rfl,rfl,hi,by omega,_,rfl,nbL rfl,fun q hq=>?_⟩;refine⟨kvs,spk t b X Y (fa ws i),.ref q,rfl,hdq hq,by omega,fun d' hd=>?_,fun hn=>?_⟩
  ·have ne:lvs ws i (fa ws i)≠[]:=fun z=>by rw[V.none _ z]at hd;cases hd
   obtain⟨v1,v2,v3,v4⟩:=V.some _ ne;rw[v1]at hd;cases hd;have c1:∀{a o},M' a=some o->(aw M' q (.lst [])) a=some o:=fun h=>by rw[ar (aC h hq)];exact h
   refine⟨L (fa ws i),_,rfl,c1 v2,_,rfl,_,_,rfl,c1 v2,(by rw[E6];omega),?_⟩;have c2:∀{a o G},M' a=some o->a≠L (fa ws i)->(aw (aw M' q (.lst [])) (L (fa ws i)) G) a=some o:=fun h n=>by rw[ar n];exact c1 h
   refine⟨kvs,L,_,rfl,fun a o h=>c2 (sb _ _ h) (fun z=>by subst z;rw[v4]at h;cases h),by omega,c2 V.d v3.symm,fun p h=>?_,fun p h=>?_,fun p p' h h' e=>?_⟩
   ·by_cases z:fa ws i=p
    ·subst z;refine⟨v1,?_,v3,v4⟩;rw[aj,lthe,FI];rfl
    ·rw[lone p z]at h ⊢;obtain⟨u1,u2,u3,u4⟩:=V.some p h;exact⟨u1,c2 u2 (fun y=>z (V.inj _ _ ne h y.symm)),u3,u4⟩
   ·by_cases z:fa ws i=p
    ·subst z;rw[lthe]at h;simp at h
    ·rw[lone p z]at h;exact V.none p h
   ·have g:∀p,lvs ws (i+1) p≠[]->lvs ws i p≠[]:=fun p h=>by
     by_cases z:fa ws i=p
     ·subst z;exact ne
     ·rw[lone p z]at h;exact h
    exact V.inj p p' (g p h) (g p' h') e
  ·have em:lvs ws i (fa ws i)=[]:=by
    cases z:lvs ws i (fa ws i)with
    |nil=>rfl
    |cons x xs=>
     have:=(V.some _ (by rw[z];simp)).1
     rw[hn]at this;cases this
   have nql:q≠ld:=(aC V.d hq).symm;have cq:(aw (aw M' q (.lst [])) ld (dsM (putD kvs (spk t b X Y (fa ws i)) (.ref q)))) q=some (.lst []):=by rw[ar nql,aj]
   refine⟨q,[],rfl,cq,_,rfl,_,_,rfl,cq,by decide,?_⟩;have c2:∀{a o D' G},M' a=some o->a≠ld->(aw (aw (aw M' q (.lst [])) ld D') q G) a=some o:=fun h n=>by rw[ar (aC h hq),ar n,ar (aC h hq)];exact h
   have mq:M q=none:=by
    cases z:M q with
    |none=>rfl
    |some o=>rw[sb _ _ z]at hq;cases hq
   have vn:=fun j=>t5 (.ref q) hn j;refine⟨putD kvs (spk t b X Y (fa ws i)) (.ref q),fun p=>if fa ws i=p then q else L p,_,rfl,fun a o h=>c2 (sb _ _ h) (fun z=>by subst z;rw[hld]at h;cases h),?_,(by rw[ar nql.symm,aj]),fun p h=>?_,fun p h=>?_,fun p p' h h' e=>?_⟩
   ·have:(putD kvs (spk t b X Y (fa ws i)) (.ref q)).length<=kvs.length+1:=by
     unfold putD;split
     ·rw[E6];omega
     ·simp
    omega
   ·by_cases z:fa ws i=p
    ·subst z;refine⟨by rw[vn,if_pos rfl,if_pos rfl],?_,by rw[if_pos rfl];exact nql,by rw[if_pos rfl];exact mq⟩;rw[if_pos rfl,aj,lthe,em];rfl
    ·rw[lone p z]at h ⊢;obtain⟨u1,u2,u3,u4⟩:=V.some p h;rw[if_neg z];exact⟨by rw[vn,if_neg (fun y=>z (qH S.t0 S.b0 y).symm)];exact u1,c2 u2 u3,u3,u4⟩
   ·by_cases z:fa ws i=p
    ·subst z;rw[lthe]at h;simp at h
    ·rw[lone p z]at h;rw[vn,if_neg (fun y=>z (qH S.t0 S.b0 y).symm)];exact V.none p h
   ·by_cases z:fa ws i=p<;>by_cases z':fa ws i=p'
    ·rw[<-z,<-z']
    ·rw[lone p' z']at h';rw[if_pos z,if_neg z']at e;have:=(V.some p' h').2.1;rw[<-e,hq]at this;cases this
    ·rw[lone p z]at h;rw[if_neg z,if_pos z']at e;have:=(V.some p h).2.1;rw[e,hq]at this;cases this
    ·rw[lone p z]at h;rw[lone p' z']at h';rw[if_neg z,if_neg z']at e;exact V.inj p p' h h' e
 ·rintro δ M' ⟨kvs,L,o2,rfl,sb,hk,V⟩;exact⟨_,rfl,⟨M',.refl,k M' ld kvs L sb V⟩⟩
theorem cu:FnScope ["corner","came_from","one","other","turn","other_turn"] ["corner","came_from","one","other"] (ao dZ):=by walk_at "sc"
inductive Cn_is_met_sooner(u v x y:D)(M:MH)(Q:DK):Prop
 |mk (t b X Y:Int) (c p q r:Vc) (_:u=Ma.spt (Ma.ut t b X 1 c.1) (Ma.ut t b Y 1 c.2)) (_:v=Ma.spt (Ma.ut t b X 1 p.1) (Ma.ut t b Y 1 p.2)) (_:x=Ma.spt (Ma.ut t b X 1 q.1) (Ma.ut t b Y 1 q.2)) (_:y=Ma.spt (Ma.ut t b X 1 r.1) (Ma.ut t b Y 1 r.2)) (_:Scl t b X Y) (_:(0<=c.1/\c.1<=20)) (_:(0<=c.2/\c.2<=20)) (_:(0<=p.1/\p.1<=20)) (_:(0<=p.2/\p.2<=20)) (_:(0<=q.1/\q.1<=20)) (_:(0<=q.2/\q.2<=20)) (_:(0<=r.1/\r.1<=20)) (_:(0<=r.2/\r.2<=20)) (_:Q (.bl (snr (p.1-c.1,p.2-c.2) (q.1-c.1,q.2-c.2) (r.1-c.1,r.2-c.2))) M)
theorem iI(T:Tx K mg):Cal P w K mg base 4 "is_met_sooner" (sD4 Cn_is_met_sooner):=by
 refine CC (k:=3) T.f_is_met_sooner cu fun f cdv A outer s H E hr=>⟨_,(ai (aA 4 cu.nd (ak (ck T).m hr (aa (aG (aa (dv 0) (aa (dv 1) af))) (aa (dv 2) af)))) (ai (aA 5 cu.nd (ak (ck T).m hr (aa (aG (aa (dv 0) (aa (dv 1) af))) (aa (dv 3) af)))) (ai (bo (aH (fH hr.units) (dv 4) (dv 5)) (aq (az (cv (eN hr.units) (dv 4) (dv 5)))) aL) (aq (az (cv (cg hr.units) (ak (ck T).m hr (aa (aG (aa (dv 0) (aa (dv 2) af))) (aa (dv 3) af))) (m9 gz ag))))))),fun _ _ _ _ M Q h=>?_⟩;obtain⟨t,b,X,Y,c,p,q,r,rfl,rfl,rfl,rfl,S,c1,c2,p1,p2,q1,q2,r1,r2,k⟩:=h;have one:(0:Int)<1/\(1:Int)<=10^6:=by decide
 have W6:∀{z:Int},(0<=z/\z<=20)->(-(10^6)<=z/\z<=10^6):=fun{z} h=>by omega
 have bx:∀{z:Int},(0<=z/\z<=20)->Ma.Bq 200 (Ma.ut t b X 1 z):=fun{z} h=>S.bx one (W6 h);have by':∀{z:Int},(0<=z/\z<=20)->Ma.Bq 200 (Ma.ut t b Y 1 z):=fun{z} h=>S.by' one (W6 h)
 have e1:=gQ (X:=X) (Y:=Y) S.t0 S.b0 (c.1,c.2,p.1,p.2) q.1 q.2;have e2:=gQ (X:=X) (Y:=Y) S.t0 S.b0 (c.1,c.2,p.1,p.2) r.1 r.2;have e3:=gQ (X:=X) (Y:=Y) S.t0 S.b0 (c.1,c.2,q.1,q.2) r.1 r.2;have f1:sd (c.1,c.2,p.1,p.2) q.1 q.2=vc (p.1-c.1,p.2-c.2) (q.1-c.1,q.2-c.2):=rfl;have f2:sd (c.1,c.2,p.1,p.2) r.1 r.2=vc (p.1-c.1,p.2-c.2) (r.1-c.1,r.2-c.2):=rfl;have f3:sd (c.1,c.2,q.1,q.2) r.1 r.2=vc (q.1-c.1,q.2-c.2) (r.1-c.1,r.2-c.2):=rfl;rw[f1]at e1;rw[f2]at e2;rw[f3]at e3;dsimp only at e1 e2 e3;refine⟨_,rfl,_,rfl,nbL rfl,_,rfl,200,_,_,_,_,_,_,rfl,rfl,bx c1,by' c2,bx p1,by' p2,bx q1,by' q2,by decide,?_⟩;rw[e1];refine⟨_,rfl,_,rfl,nbL rfl,_,rfl,200,_,_,_,_,_,_,rfl,rfl,bx c1,by' c2,bx p1,by' p2,bx r1,by' r2,by decide,?_⟩;rw[e2];refine⟨_,rfl,_,rfl,_,rfl,?_⟩;unfold snr at k;refine bS (fun h=>?_) (fun h=>?_)
 ·have ne:¬Fo (vc (p.1-c.1,p.2-c.2) (q.1-c.1,q.2-c.2))=Fo (vc (p.1-c.1,p.2-c.2) (r.1-c.1,r.2-c.2)):=fun z=>by rw[z]at h;simp at h
  rw[if_neg ne]at k;exact⟨_,rfl,_,rfl,trivial,rtn k⟩
 ·have eq:Fo (vc (p.1-c.1,p.2-c.2) (q.1-c.1,q.2-c.2))=Fo (vc (p.1-c.1,p.2-c.2) (r.1-c.1,r.2-c.2)):=by simpa using h
  rw[if_pos eq]at k;refine⟨_,rfl,_,rfl,nbL rfl,_,rfl,200,_,_,_,_,_,_,rfl,rfl,bx c1,by' c2,bx q1,by' q2,bx r1,by' r2,by decide,?_⟩;rw[e3];have e:decide (vc (q.1-c.1,q.2-c.2) (r.1-c.1,r.2-c.2)<0)=decide (Fo (vc (q.1-c.1,q.2-c.2) (r.1-c.1,r.2-c.2))=-1):=by rw[decide_eq_decide];rcases f9 (vc (q.1-c.1,q.2-c.2) (r.1-c.1,r.2-c.2))with z|z|z<;>omega
  rw[e]at k;exact rtn k
theorem aT:FnScope ["plot","leaving","face","came_from","corner","back","best","rival"] ["plot","leaving","face"] (ao fy):=by walk_at "sc"
def cW(ws:List Wl)(f j:Nat):Option Nat:=((((Fg (2*ws.length)).filter fun g=>decide (fa ws g=fb ws f)).take j).filter fun g=>decide (g≠fx f)).foldl (cJ (snF ws f)) none
theorem lh(R:Nat->Nat->Bool):∀(l:List Nat) (o:Option Nat) {h:Nat},l.foldl (cJ R) o=some h->h∈l\/o=some h
 |[],o,h,e=>.inr e
 |g::l,o,h,e=>by
  rw[List.foldl_cons]at e
  rcases lh R l _ e with z|z
  ·exact .inl (by simp[z])
  ·cases o with
   |none=>cases z;exact .inl (by simp)
   |some k=>
    unfold cJ at z
    dsimp only at z
    by_cases r:R g k=true
    ·rw[if_pos r]at z;cases z;exact .inl (by simp)
    ·rw[if_neg r]at z;exact .inr z
theorem oO(ws:List Wl)(f j:Nat)(h:((Fg (2*ws.length)).filter fun g=>decide (fa ws g=fb ws f)).length<=j):cW ws f j=(gW ws f).foldl (cJ (snF ws f)) none:=by
 unfold cW gW vI;rw[GH h,List.filter_filter]
 congr 1
 apply List.filter_congr;intro x _;rw[Bool.and_comm]
theorem pS{ws:List Wl}{f j h:Nat}(e:cW ws f j=some h):h∈gW ws f:=by
 unfold cW at e;rcases lh _ _ _ e with z|z
 ·have z':=Ge.mp z;have z2:=Ge.mp (List.mem_of_mem_take z'.1);exact b7.mpr ⟨by simpa using z2.1,by simpa using z2.2,by simpa using z'.2⟩
 ·cases z
inductive Cn_face_behind(u v w:D)(M:MH)(Q:DK):Prop
 |mk (t b X Y:Int) (ws:List Wl) (M0:MH) (ld:Addr) (kvs:SpT) (L:Vc->Addr) (f:Nat) (_:u=.tup (ws.map (rwl t b X Y))) (_:v=.ref ld) (_:w=.int (f:Int)) (_:Scl t b X Y) (_:ws.length<=40) (_:(∀w∈ws,Un5 w)) (_:f<2*ws.length) (_:Lvn t b X Y ws (2*ws.length) M0 M ld kvs L) (_:Q (.int (bh ws f:Int)) M)
theorem fh(T:Tx K mg):Cal P w K mg base 5 "face_behind" (sD3 Cn_face_behind):=by
 refine lF (k:=4) T.f_face_behind aT fun f cdv A outer s H E hr=>⟨_,(ai (bR (ak (bF T).m hr (aa (dv 0) (aa (dv 2) af))) (bj rfl (ay (ax 3 aT.nd) (ay (ax 4 aT.nd) aR)))) (ai (aA 5 aT.nd (av z8 (dv 2) ag)) (ai (aA 6 aT.nd (dv 5)) (ai (bH Ft rfl (aO (nF (f7 hr) (dv 1) (dv 4) (by intro _ _;with_unfolding_all rfl))) (ax 7 aT.nd) (aq (bo (lU (iU (aH (fH hr.units) (dv 7) (dv 5)) (gI (lU (nM (aH (cg hr.units) (dv 6) (dv 5)) (mF (cH (ak (iI T).m hr (aa (dv 4) (aa (dv 3) (aa (au (ak (bF T).m hr (aa (dv 0) (aa (dv 7) af))) ag) (aa (au (ak (bF T).m hr (aa (dv 0) (aa (dv 6) af))) ag) af)))))))))))) (aq (aA 6 aT.nd (dv 7))) aL))) (aq (az (dv 6))))))),fun _ _ _ M Q h=>?_⟩;obtain⟨t,b,X,Y,ws,M0,ld,kvs,L,f,rfl,rfl,rfl,S,hlen,hU,hf,V,k⟩:=h;have exf:Builtin.bitXor (f:Int) 1=((fx f:Nat):Int):=Bu f (by omega)
 have rg:∀g:Nat,g<2*ws.length->((0<=(fa ws g).1/\(fa ws g).1<=20)/\(0<=(fa ws g).2/\(fa ws g).2<=20))/\((0<=(fb ws g).1/\(fb ws g).1<=20)/\(0<=(fb ws g).2/\(fb ws g).2<=20)):=fun g hg=>by
  obtain⟨_,_,w3⟩:=bC (ws:=ws) (k:=((g/2:Nat):Int)) (by omega) (by omega)
  have W:=hU _ w3
  unfold fa fb fw
  by_cases h:g%2=0
  ·rw[if_pos h];exact⟨⟨W.a,W.b⟩,W.c,W.d⟩
  ·rw[if_neg h];exact⟨⟨W.c,W.d⟩,W.a,W.b⟩
 have ne:lvs ws (2*ws.length) (fb ws f)≠[]:=by
  unfold lvs
  have:fx f∈(Fg (2*ws.length)).filter fun g=>decide (fa ws g=fb ws f):=Ge.mpr ⟨Gg.mpr (je hf),by simpa using j9 ws f⟩
  intro z
  rw[List.map_eq_nil_iff]at z
  rw[z]at this
  cases this
 obtain⟨v1,v2,v3,v4⟩:=V.some _ ne;refine⟨_,rfl,_,rfl,t,b,X,Y,ws,f,rfl,rfl,hf,by omega,?_⟩;refine⟨_,rfl,rfl,_,_,rfl,_,_,rfl,rfl,?_⟩;refine⟨_,rfl,trivial,?_⟩;dsimp only;rw[exf];refine⟨_,rfl,?_⟩;refine⟨_,rfl,_,rfl,ld,kvs,spk t b X Y (fb ws f),_,rfl,rfl,V.d,v1,(lvs ws (2*ws.length) (fb ws f)).map D.int,v2,?_⟩;refine⟨fun j δ M'=>M'=M/\∃o7,δ=[some (.tup (ws.map (rwl t b X Y))),some (.ref ld),some (.int (f:Int)),some (Ma.spt (Ma.ut t b X 1 (fw ws f).1) (Ma.ut t b Y 1 (fw ws f).2.1)),some (Ma.spt (Ma.ut t b X 1 (fw ws f).2.2.1) (Ma.ut t b Y 1 (fw ws f).2.2.2)),some (.int ((fx f:Nat):Int)),some (.int (((cW ws f j).getD (fx f):Nat):Int)),o7],⟨rfl,_,rfl⟩,fun j δ M' _ z=>by obtain⟨rfl,_⟩:=z;exact v2,?_,?_⟩
 ·rintro j d δ M' hj hd ⟨rfl,o7,rfl⟩;have hd:((((Fg (2*ws.length)).filter fun g=>decide (fa ws g=fb ws f)).map fun g:Nat=>(g:Int)).map D.int)[j]?=some d:=hd;rw[E9,E9]at hd;cases eg:((Fg (2*ws.length)).filter fun g=>decide (fa ws g=fb ws f))[j]? with
  |none=>rw[eg]at hd;cases hd
  |some g=>
   rw[eg]at hd
   cases hd
   have hgm:=Ge.mp (EZ eg)
   have hg:g<2*ws.length:=by simpa using hgm.1
   have hga:fa ws g=fb ws f:=by simpa using hgm.2
   have nx:cW ws f (j+1)=if g=fx f then cW ws f j else cJ (snF ws f) (cW ws f j) g:=by
    unfold cW;rw[Hn,eg,Option.toList_some,List.filter_append,List.foldl_append];by_cases z:g=fx f
    ·simp[z]
    ·simp[z]
   have hmem:∀h,cW ws f j=some h->h∈gW ws f:=fun h e=>pS e
   generalize cW ws f j=o at nx hmem ⊢
   by_cases z:g=fx f
   ·(try dsimp only[SD.d6,SD.cK,SD.bc,SD.eJ,SD.eQ,SD.cn,SD.cT,SD.tBD,SD.eL])
    refine wg false false (fun K hK=>⟨_,rfl,_,rfl,_,rfl,?_⟩) (fun q=>absurd q (by decide)) (iF rfl ⟨rfl,some (.int (g:Int)),?_⟩)
    ·rw[show(!decide ((g:Int)=((fx f:Nat):Int)))=false by rw[z];simp];exact hK
    ·rw[nx,if_pos z];rfl
   ·rw[if_neg z]at nx
    have zz:(!decide ((g:Int)=((fx f:Nat):Int)))=true:=by
     have:¬((g:Int)=((fx f:Nat):Int)):=fun q=>z (by omega)
     rw[decide_eq_false this];rfl
    cases o with
    |none=>
     (try dsimp only[SD.d6,SD.cK,SD.bc,SD.eJ,SD.eQ,SD.cn,SD.cT,SD.tBD,SD.eL])
     refine wg true true (fun K hK=>⟨_,rfl,_,rfl,_,rfl,by rw[zz];exact hK⟩) (fun _ K hK=>orT true true (fun K' hK'=>⟨_,rfl,_,rfl,_,rfl,?_⟩) (fun q=>absurd q (by decide)) hK) (tP rfl ⟨_,rfl,rfl,some (.int (g:Int)),?_⟩)
     ·rw[show decide ((((none:Option Nat).getD (fx f):Nat):Int)=((fx f:Nat):Int))=true by simp];exact hK'
     ·rw[nx];rfl
    |some h=>
     have hh:=b7.mp (hmem h rfl)
     have d1:fd ws (fx f)=((fa ws f).1-(fb ws f).1,(fa ws f).2-(fb ws f).2):=by unfold fd fa fb;rw[zD];rfl
     have d2:∀g,fa ws g=fb ws f->fd ws g=((fb ws g).1-(fb ws f).1,(fb ws g).2-(fb ws f).2):=fun g e=>by rw[<-e];rfl
     have es:snF ws f g h=snr ((fa ws f).1-(fb ws f).1,(fa ws f).2-(fb ws f).2) ((fb ws g).1-(fb ws f).1,(fb ws g).2-(fb ws f).2) ((fb ws h).1-(fb ws f).1,(fb ws h).2-(fb ws f).2):=by unfold snF;rw[d1,d2 g hga,d2 h hh.2.1]
     have hne:decide ((((some h).getD (fx f):Nat):Int)=((fx f:Nat):Int))=false:=decide_eq_false (fun q=>hh.2.2 (by have q':((h:Nat):Int)=((fx f:Nat):Int):=q;omega))
     (try dsimp only[SD.d6,SD.cK,SD.bc,SD.eJ,SD.eQ,SD.cn,SD.cT,SD.tBD,SD.eL])
     refine wg true (false||snF ws f g h) (fun K hK=>⟨_,rfl,_,rfl,_,rfl,by rw[zz];exact hK⟩) (fun _ K hK=>orT false (snF ws f g h) (fun K' hK'=>⟨_,rfl,_,rfl,_,rfl,by rw[hne];exact hK'⟩) (fun _ K' hK'=>?_) hK) ?_
     ·refine⟨_,rfl,_,rfl,_,rfl,_,rfl,t,b,X,Y,ws,g,rfl,rfl,hg,by omega,_,rfl,_,rfl,_,rfl,t,b,X,Y,ws,h,rfl,rfl,hh.1,by omega,_,rfl,t,b,X,Y,fb ws f,fa ws f,fb ws g,fb ws h,rfl,rfl,rfl,rfl,S,(rg f hf).2.1,(rg f hf).2.2,(rg f hf).1.1,(rg f hf).1.2,(rg g hg).2.1,(rg g hg).2.2,(rg h hh.1).2.1,(rg h hh.1).2.2,_,rfl,?_⟩;rw[<-es];exact hK'
     ·refine bS (fun q=>?_) (fun q=>?_)
      ·refine⟨_,rfl,rfl,some (.int (g:Int)),?_⟩;have q:snF ws f g h=true:=by simpa using q
       have e:cJ (snF ws f) (some h) g=some g:=by unfold cJ;simp[q]
       rw[nx,e];rfl
      ·refine⟨rfl,some (.int (g:Int)),?_⟩;have q:¬snF ws f g h=true:=by simpa using q
       have e:cJ (snF ws f) (some h) g=some h:=by unfold cJ;simp[q]
       rw[nx,e];rfl
 ·rintro δ M' ⟨rfl,o7,rfl⟩;have e:=oO ws f ((lvs ws (2*ws.length) (fb ws f)).map D.int).length (by simp[lvs]);dsimp only;rw[e];exact⟨_,rfl,rtn k⟩
theorem cP:FnScope ["plot","leaving","face","ring","at"] ["plot","leaving","face"] (ao iq):=by walk_at "sc"
theorem rA{t b X Y:Int}{ws:List Wl}{i:Nat}{M0 M:MH}{ld:Addr}{kvs:SpT}{L:Vc->Addr}{p:Addr}{o:MO}(V:Lvn t b X Y ws i M0 M ld kvs L)(hp:M p=none):Lvn t b X Y ws i M0 (aw M p o) ld kvs L:=⟨by rw[ar (aC V.d hp)];exact V.d,fun q h=>let⟨a,c,e,g⟩:=V.some q h;⟨a,by rw[ar (aC c hp)];exact c,e,g⟩,V.none,V.inj⟩
inductive Cn_ring_from(u v w:D)(M:MH)(Q:DK):Prop
 |mk (t b X Y:Int) (ws:List Wl) (M0:MH) (ld:Addr) (kvs:SpT) (L:Vc->Addr) (f:Nat) (_:u=.tup (ws.map (rwl t b X Y))) (_:v=.ref ld) (_:w=.int (f:Int)) (_:Scl t b X Y) (_:ws.length<=40) (_:(∀w∈ws,Un5 w)) (_:PF ws) (_:f<2*ws.length) (_:Lvn t b X Y ws (2*ws.length) M0 M ld kvs L) (_:∀(p:Addr) (kk:Nat),M p=none->NR ws f kk->bh ws (itb ws f kk)=f->Q (.ref p) (aw M p (.lst ((rn ws f kk).map fun g:Nat=>D.int (g:Int)))))
theorem nL(T:Tx K mg):Cal P w K mg base 6 "ring_from" (sD3 Cn_ring_from):=by
 refine lF (k:=5) T.f_ring_from cP fun f cdv A outer s H E hr=>⟨_,(ai (aA 3 cP.nd (cF (aa (dv 2) af))) (ai (aA 4 cP.nd (ak (fh T).m hr (aa (dv 0) (aa (dv 1) (aa (dv 2) af))))) (ai (gv Ft (aH (fH hr.units) (dv 4) (dv 2)) (ai (dS (b4 (dv 3) (aa (dv 4) af))) (aq (aA 4 cP.nd (ak (fh T).m hr (aa (dv 0) (aa (dv 1) (aa (dv 4) af)))))))) (aq (az (dv 3)))))),fun _ _ _ M Q h=>?_⟩;obtain⟨t,b,X,Y,ws,M0,ld,kvs,L,f,rfl,rfl,rfl,S,hlen,hU,hF,hf,V,k⟩:=h;refine⟨_,rfl,nbL rfl,fun p hp=>?_⟩;refine⟨_,rfl,_,rfl,_,rfl,t,b,X,Y,ws,M0,ld,kvs,L,f,rfl,rfl,rfl,S,hlen,hU,hf,rA V hp,?_⟩;refine⟨fun m δ M''=>∃kk,δ=[some (.tup (ws.map (rwl t b X Y))),some (.ref ld),some (.int (f:Int)),some (.ref p),some (.int ((itb ws f (kk+1):Nat):Int))]/\M''=aw M p (.lst ((rn ws f kk).map fun g:Nat=>D.int (g:Int)))/\NR ws f kk/\m=2*ws.length-kk,⟨_,0,rfl,rfl,xw ws f,rfl⟩,?_⟩;rintro m δ M'' ⟨kk,rfl,rfl,nr,rfl⟩;have kb:=qG hU hF hf nr;refine⟨_,rfl,_,rfl,_,rfl,?_⟩;refine bS (fun h=>?_) (fun h=>?_)
 ·have ne:bh ws (itb ws f kk)≠f:=fun z=>by
   have:itb ws f (kk+1)=f:=z
   rw[this]at h;simp at h
  have nr':=xl hU hF hf nr ne;have kb':=qG hU hF hf nr';refine⟨_,rfl,p,_,rfl,aj,_,rfl,_,_,rfl,aj,(by rw[E6,gL];omega),?_⟩;have e:aw (aw M p (.lst ((rn ws f kk).map fun g:Nat=>D.int (g:Int)))) p (.lst (((rn ws f kk).map fun g:Nat=>D.int (g:Int))++[.int ((itb ws f (kk+1):Nat):Int)]))=aw M p (.lst ((rn ws f (kk+1)).map fun g:Nat=>D.int (g:Int))):=by rw[aX,qI,FI];rfl
  rw[e];refine⟨_,rfl,_,rfl,_,rfl,t,b,X,Y,ws,M0,ld,kvs,L,itb ws f (kk+1),rfl,rfl,rfl,S,hlen,hU,eG hU hF hf (kk+1),rA V hp,?_⟩;exact⟨2*ws.length-(kk+1),by omega,kk+1,rfl,rfl,nr',rfl⟩
 ·have eq:bh ws (itb ws f kk)=f:=by
   have:((itb ws f (kk+1):Nat):Int)=(f:Int):=by simpa using h
   have e:itb ws f (kk+1)=bh ws (itb ws f kk):=rfl
   omega
  exact⟨_,rfl,⟨_,.refl,k p kk hp nr eq⟩⟩
theorem bG:FnScope ["plot","leaving","rings","gone_along","face","ring","part"] ["plot"] (ao ju):=by walk_at "sc"
theorem yF{t b X Y:Int}{ws:List Wl}{i:Nat}{M0 M M':MH}{ld:Addr}{kvs:SpT}{L:Vc->Addr}(V:Lvn t b X Y ws i M0 M ld kvs L)(s:SD.Sub M M'):Lvn t b X Y ws i M0 M' ld kvs L:=⟨s _ _ V.d,fun q h=>let⟨a,c,e,g⟩:=V.some q h;⟨a,s _ _ c,e,g⟩,V.none,V.inj⟩
theorem j3{M M':MH}(s:SD.Sub M M'){p:Addr}(h:M' p=none):M p=none:=by
 cases z:M p with
 |none=>rfl
 |some o=>rw[s _ _ z]at h;cases h
inductive Cn_rings_of(u:D)(M:MH)(Q:DK):Prop
 |mk (t b X Y:Int) (ws:List Wl) (_:u=.tup (ws.map (rwl t b X Y))) (_:Scl t b X Y) (_:ws.length<=40) (_:(∀w∈ws,Un5 w)) (_:PF ws) (_:∀(M':MH) (lr:Addr) (ps:List Addr) (rs:List (List Nat)),SD.Sub M M'->M lr=none->M' lr=some (.lst (ps.map D.ref))->Rgs ws (2*ws.length) rs->RL M' ps rs->(∀p∈ps,p≠lr/\M p=none)->Q (.ref lr) M')
theorem oU(T:Tx K mg):Cal P w K mg base 7 "rings_of" (sD1 Cn_rings_of):=by
 refine eD (k:=6) T.f_rings_of bG fun f cdv A outer s H E hr=>⟨_,(ai (aA 1 bG.nd (ak (hZ T).m hr (aa (dv 0) af))) (ai (aA 2 bG.nd (cF af)) (ai (aA 3 bG.nd uf) (ai (gw Ft rfl rfl T.b_range (aa (av aD ag (aI dR rfl T.b_len dW (aa (dv 0) af))) af) (ax 4 bG.nd) (aq (bo (pA (f7 hr) (dv 4) (dv 3)) (ai (aA 5 bG.nd (ak (nL T).m hr (aa (dv 0) (aa (dv 1) (aa (dv 4) af))))) (ai (dS (b4 (dv 2) (aa (dv 5) af))) (aq (bH Ft rfl (aO (dv 5)) (ax 6 bG.nd) (aq (vf (f7 hr) (dv 3) (dv 6) iB)))))) aL))) (aq (az (dv 2))))))),fun _ M Q h=>?_⟩;obtain⟨t,b,X,Y,ws,rfl,S,hlen,hU,hF,k⟩:=h;have hwl:(ws.map (rwl t b X Y)).length=ws.length:=by simp
 refine⟨_,rfl,t,b,X,Y,ws,rfl,S,hlen,fun M1 ld kvs L sb1 V=>?_⟩;refine⟨nbL rfl,fun lr hlr=>fun lg hlg=>?_⟩;have nlg:lg≠lr:=fun z=>by subst z;rw[aj]at hlg;cases hlg
 have hlg1:M1 lg=none:=by have h:=hlg;rw[ar nlg]at h;exact h
 refine⟨_,rfl,aS (cm (by decide)),2*ws.length,(by rw[hwl];simp),by omega,?_⟩;refine⟨fun i δ M'=>∃(ps:List Addr) (rs:List (List Nat)) (n:Nat) (Sg:Int->Bool) (o4 o5 o6:Option D),δ=[some (.tup (ws.map (rwl t b X Y))),some (.ref ld),some (.ref lr),some (.ref lg),o4,o5,o6]/\SD.Sub M1 M'/\M' lr=some (.lst (ps.map D.ref))/\M' lg=some (diM n Sg)/\ps.length<=i/\n<=i*80/\(∀g:Nat,Sg (g:Int)=decide (g∈rs.flatten))/\Rgs ws i rs/\RL M' ps rs/\∀p∈ps,p≠lr/\p≠lg/\M1 p=none,?_,?_,?_⟩
 ·exact⟨[],[],0,fun _=>false,_,_,_,rfl,.new hlg (.new hlr .refl),(by rw[ar nlg.symm,aj];rfl),aj,E8 _,FQ _,fun g=>by simp,rfl,.nil,fun p hp=>by cases hp⟩
 ·rintro i δ M' hi ⟨ps,rs,n,Sg,o4,o5,o6,rfl,sb,hr,hg,hp1,hn1,hS,R,RLs,hps⟩;refine⟨_,rfl,_,rfl,(i:Int),lg,n,Sg,rfl,rfl,hg,_,rfl,?_⟩;rw[hS];refine bS (fun h=>?_) (fun h=>⟨ps,rs,n,Sg,_,_,_,rfl,sb,hr,hg,by omega,by omega,hS,⟨rs,R,.inl ⟨by simpa using h,rfl⟩⟩,RLs,hps⟩);have hni:i∉rs.flatten:=by simpa using h
  refine⟨_,rfl,_,rfl,_,rfl,t,b,X,Y,ws,M,ld,kvs,L,i,rfl,rfl,rfl,S,hlen,hU,hF,hi,yF V sb,fun p kk hp nr eq=>?_⟩;have kb:=qG hU hF hi nr;have c1:∀{a o G},M' a=some o->(aw M' p G) a=some o:=fun h=>by rw[ar (aC h hp)];exact h
  have plr:p≠lr:=(aC hr hp).symm;have plg:p≠lg:=(aC hg hp).symm;refine⟨_,rfl,lr,_,rfl,c1 hr,_,rfl,_,_,rfl,c1 hr,(by simp;omega),?_⟩;have c2:∀{a o G D'},M' a=some o->a≠lr->(aw (aw M' p G) lr D') a=some o:=fun h n=>by rw[ar n];exact c1 h
  have hg2:=c2 (G:=.lst ((rn ws i kk).map fun g:Nat=>D.int (g:Int))) (D':=.lst (ps.map D.ref++[.ref p])) hg nlg;have hp2:(aw (aw M' p (.lst ((rn ws i kk).map fun g:Nat=>D.int (g:Int)))) lr (.lst (ps.map D.ref++[.ref p]))) p=some (.lst ((rn ws i kk).map fun g:Nat=>D.int (g:Int))):=by rw[ar plr,aj]
  have hr2:(aw (aw M' p (.lst ((rn ws i kk).map fun g:Nat=>D.int (g:Int)))) lr (.lst (ps.map D.ref++[.ref p]))) lr=some (.lst (ps.map D.ref++[.ref p])):=aj;have c3:∀{a o},M' a=some o->a≠lr->(aw (aw M' p (.lst ((rn ws i kk).map fun g:Nat=>D.int (g:Int)))) lr (.lst (ps.map D.ref++[.ref p]))) a=some o:=fun h n=>c2 h n;clear c2;generalize aw (aw M' p (.lst ((rn ws i kk).map fun g:Nat=>D.int (g:Int)))) lr (.lst (ps.map D.ref++[.ref p]))=N2 at hg2 hp2 hr2 c3 ⊢;refine⟨_,rfl,(rn ws i kk).map fun g:Nat=>D.int (g:Int),hp2,?_⟩;refine⟨fun a δ M''=>∃(n':Nat) (S':Int->Bool) (o6:Option D),δ=[some (.tup (ws.map (rwl t b X Y))),some (.ref ld),some (.ref lr),some (.ref lg),some (.int (i:Int)),some (.ref p),o6]/\M'' lg=some (diM n' S')/\(∀c,c≠lg->M'' c=N2 c)/\n'<=n+a/\∀g:Nat,S' (g:Int)=(decide (g∈rs.flatten)||decide (g∈(rn ws i kk).take a)),⟨n,Sg,_,rfl,hg2,fun _ _=>rfl,E8 _,fun g=>by rw[hS];simp⟩,fun a δ M'' _ z=>by obtain⟨_,_,_,_,_,z,_⟩:=z;show M'' p=_;rw[z p plg];exact hp2,?_,?_⟩
  ·rintro a d δ M'' ha hd ⟨n',S',o6,rfl,h1,h2,h3,h4⟩;have ha':a<kk+1:=by have:a<((rn ws i kk).map fun g:Nat=>D.int (g:Int)).length:=ha;simpa[gL]using this
   have hd:((rn ws i kk).map fun g:Nat=>D.int (g:Int))[a]?=some d:=hd;rw[E9]at hd;cases eg:(rn ws i kk)[a]? with
   |none=>rw[eg]at hd;cases hd
   |some g=>
    rw[eg]at hd
    cases hd
    refine⟨_,rfl,_,rfl,lg,(g:Int),n',S',rfl,rfl,h1,by omega,?_⟩
    refine⟨n'+1,_,_,rfl,aj,fun c hc=>by rw[ar hc];exact h2 c hc,by omega,fun g'=>?_⟩
    rw[h4,Hn,eg]
    have e:decide (((g':Nat):Int)=((g:Nat):Int))=decide (g'=g):=by rw[decide_eq_decide];omega
    rw[e]
    simp only[Fl,Option.toList_some,List.mem_singleton,Bool.decide_or]
    cases decide (g'=g)<;>cases decide (g'∈rs.flatten)<;>simp
  ·rintro δ M'' ⟨n',S',o6,rfl,h1,h2,h3,h4⟩;have h3:n'<=n+(kk+1):=by simpa[gL]using h3
   have h4:∀g:Nat,S' (g:Int)=(decide (g∈rs.flatten)||decide (g∈(rn ws i kk).take ((rn ws i kk).map fun g:Nat=>D.int (g:Int)).length)):=h4;have et:(rn ws i kk).take ((rn ws i kk).map fun g:Nat=>D.int (g:Int)).length=rn ws i kk:=GH (by simp);rw[et]at h4;have c4:∀{a o},M' a=some o->a≠lr->a≠lg->M'' a=some o:=fun h n n'=>by rw[h2 _ n'];exact c3 h n
   refine⟨ps++[p],rs++[rn ws i kk],n',S',_,_,_,rfl,fun a o h=>c4 (sb _ _ h) (fun z=>by subst z;rw[hlr]at h;cases h) (fun z=>by subst z;rw[hlg1]at h;cases h),(by rw[h2 lr nlg.symm,FI];exact hr2),h1,by simp;omega,by omega,fun g=>?_,⟨rs,R,.inr ⟨hni,_,⟨kk,nr,eq,rfl⟩,rfl⟩⟩,?_,fun p' hp'=>?_⟩
   ·rw[h4];simp only[List.flatten_append,Fl,Ie,List.flatten_nil,GC,Bool.decide_or]
   ·exact(RLs.mono fun q hq o e=>c4 e (hps q hq).1 (hps q hq).2.1).snoc (by rw[h2 p plg];exact hp2)
   ·rcases Fl.mp hp' with z|z
    ·exact hps p' z
    ·have:p'=p:=by simpa using z
     subst this;exact⟨plr,plg,j3 sb hp⟩
 ·rintro δ M' ⟨ps,rs,n,Sg,o4,o5,o6,rfl,sb,hr,hg,hp1,hn1,hS,R,RLs,hps⟩;exact⟨_,rfl,⟨M',.refl,k M' lr ps rs (SD.Sub.trans sb1 sb) (j3 sb1 hlr) hr R RLs fun p hp=>⟨(hps p hp).1,j3 sb1 (hps p hp).2.2⟩⟩⟩
theorem bP:FnScope ["parts","common","part"] ["parts"] (ao d4):=by walk_at "sc"
inductive Cn_common_bottom(u:D)(M:MH)(Q:DK):Prop
 |mk (p:Addr) (qs:List Rat) (b:Nat) (_:u=.ref p) (_:M p=some (.lst (qs.map Ma.fr))) (_:0<b) (_:b<=10^26) (_:(∀q∈qs,q.den ∣ b)) (_:∀c:Nat,0<c->c ∣ b->(∀q∈qs,q.den ∣ c)->Q (.int (c:Int)) M)
theorem d7(T:Tx K mg):Cal P w K mg base 2 "common_bottom" (sD1 Cn_common_bottom):=by
 refine eD (k:=1) T.f_common_bottom bP fun f cdv A outer s H E hr=>⟨_,(ai (aA 1 bP.nd ag) (ai (bH Ft rfl (aO (dv 0)) (ax 2 bP.nd) (aq (aA 1 bP.nd (av aD (av fm (dv 1) (ak (de T).m hr (aa (dv 1) (aa (au (dv 2) ag) af)))) (au (dv 2) ag))))) (aq (az (dv 1))))),fun _ M Q h=>?_⟩;obtain⟨p,qs,b,rfl,hp,hb0,hb1,hq,k⟩:=h;refine⟨_,rfl,qs.map Ma.fr,hp,?_⟩;refine⟨fun i δ M'=>M'=M/\∃(c:Nat) (o2:Option D),δ=[some (.ref p),some (.int (c:Int)),o2]/\0<c/\c ∣ b/\∀q∈qs.take i,q.den ∣ c,⟨rfl,1,_,rfl,by decide,Nat.one_dvd _,fun q hq=>by simp at hq⟩,fun i δ M' _ z=>by obtain⟨rfl,_⟩:=z;exact hp,?_,?_⟩
 ·rintro i d δ M' hi hd ⟨rfl,c,o2,rfl,c0,cb,cq⟩;have hd:(qs.map Ma.fr)[i]?=some d:=hd;rw[E9]at hd;cases eg:qs[i]? with
  |none=>rw[eg]at hd;cases hd
  |some q=>
   rw[eg]at hd
   cases hd
   have hqm:=EZ eg
   have g0:0<HW c q.den:=Nat.gcd_pos_of_pos_left _ c0
   have cb':c<=b:=Nat.le_of_dvd hb0 cb
   have gle:HW c q.den<=c:=Nat.gcd_le_left _ c0
   have bd:∀{n:Nat},n<=10^26->Bd 100 (n:Int):=fun{n} h=>by show(n:Int).natAbs<2^100;omega
   have bd2:Bd 100 ((c:Int).fdiv ((HW c q.den:Nat):Int)):=(bd (n:=c) (by omega)).of_le (by rw[Gi _ (by omega)];exact Int.natAbs_ediv_le_natAbs _ _)
   have el:(c:Int).fdiv ((HW c q.den:Nat):Int)*(q.den:Int)=((Nat.lcm c q.den:Nat):Int):=by
    rw[Gi _ (by omega),<-Int.natCast_ediv,<-Int.natCast_mul]
    congr 1
    rw[Nat.lcm,Nat.mul_comm c q.den,Nat.mul_div_assoc _ (Nat.gcd_dvd_left c q.den),Nat.mul_comm]
   refine⟨_,rfl,_,rfl,_,rfl,_,rfl,c,q.den,rfl,rfl,⟨by omega,(bd (by omega)).mono (by decide)⟩,_,rfl,_,rfl,du (bd2.mono (by decide)) ((bd (Gp (Nat.le_of_dvd hb0 (hq q hqm)) hb1)).mono (by decide)),?_⟩
   dsimp only
   rw[el]
   refine⟨rfl,Nat.lcm c q.den,_,rfl,Nat.lcm_pos c0 q.den_pos,Nat.lcm_dvd cb (hq q hqm),fun q' hq'=>?_⟩
   rw[Hn,eg]at hq'
   rcases Fl.mp hq' with z|z
   ·exact Nat.dvd_trans (cq q' z) (Nat.dvd_lcm_left c q.den)
   ·have:q'=q:=by simpa using z
    subst this;exact Nat.dvd_lcm_right c q'.den
 ·rintro δ M' ⟨rfl,c,o2,rfl,c0,cb,cq⟩;exact⟨_,rfl,rtn (k c c0 cb (by have e:qs.take (qs.map Ma.fr).length=qs:=GH (by simp);rw[<-e];exact cq))⟩
theorem oq:FnScope ["part","bottom"] ["part","bottom"] (ao jD):=by walk_at "sc"
inductive Cn_top_over(u v:D)(M:MH)(Q:DK):Prop
 |mk (q:Rat) (B:Int) (_:u=Ma.fr q) (_:v=.int B) (_:Ma.Bq 200 q) (_:0<B) (_:B<=10^26) (_:Q (.int (q.num*B.fdiv (q.den:Int))) M)
theorem dP(T:Tx K mg):Cal P w K mg base 1 "top_over" (sD2 Cn_top_over):=by
 refine bg (k:=0) T.f_top_over oq fun f cdv A outer s H E hr=>⟨_,(aq (az (av aD (au (dv 0) ag) (av fm (dv 1) (au (dv 0) ag))))),fun _ _ M Q h=>?_⟩;obtain⟨q,B,rfl,rfl,hq,h0,h1,k⟩:=h;have bB:Bd 100 B:=by show B.natAbs<2^100;omega
 have dB:(B.fdiv (q.den:Int)).natAbs<=B.natAbs:=by rw[Gi _ (by omega)];exact Int.natAbs_ediv_le_natAbs _ _
 exact⟨_,rfl,_,rfl,_,rfl,_,rfl,_,rfl,⟨Ma.fJ q,hq.2.mono (by decide)⟩,du (hq.1.mono (by decide)) ((bB.of_le dB).mono (by decide)),rtn k⟩
theorem aJ:FnScope ["plot","ring","ways","x_bottom","y_bottom","total","x","y","next_x","next_y"] ["plot","ring"] (ao gf):=by walk_at "sc"
theorem lD{I:ItD}{js:List Nat}{wd2:TID}{te:TD}{δ:DS}{M1:MH}{Q:DK}(c0 c1 g0 g1:Nat->D)(hn:I.n<=1000)(hC:∀p ys,M1 p=none->I.C (aw M1 p (.lst ys)))(hit:∀i d,i<I.n->I.item i=some d->d=.tup [c0 i,c1 i]) (hw:∀i M R,i<I.n->R ⟨2,fun j=>[c0 i,c1 i][j]?,fun M=>AI M (.tup [c0 i,c1 i]) [c0 i,c1 i]⟩ M->wd2 (cδ [some (.tup [c0 i,c1 i]),none] js δ) M R) (h0:∀i M (K:DK),i<I.n->K (g0 i) M->te (cδ [some (.tup [c0 i,c1 i]),some (c0 i)] js δ) M K) (h1:∀i M (K:DK),i<I.n->K (g1 i) M->te (cδ [some (.tup [c0 i,c1 i]),some (c1 i)] js δ) M K) (hq:∀p,M1 p=none->Q (.ref p) (aw M1 p (.lst ((Fg I.n).flatMap fun i=>[g0 i,g1 i])))):C9 I js wd2 te δ M1 Q:=by
 refine⟨hn,fun p hp=>⟨fun i ys M=>ys=(Fg i).flatMap (fun i=>[g0 i,g1 i])/\M=aw M1 p (.lst ys),⟨rfl,rfl⟩,?_,?_,?_⟩⟩
 ·rintro i ys M _ ⟨_,rfl⟩;exact hC p ys hp
 ·rintro i ys d M hi hd ⟨rfl,rfl⟩;obtain rfl:=hit i d hi hd;refine hw i _ _ hi ⟨nbL rfl,fun j zs M=>zs=(Fg i).flatMap (fun i=>[g0 i,g1 i])++[g0 i,g1 i].take j/\M=aw M1 p (.lst zs),⟨by simp,rfl⟩,fun _ _ _ _ _=>rfl,?_,?_⟩
  ·rintro j zs e M hj he ⟨rfl,rfl⟩;have hj:j<2:=hj;have he:[c0 i,c1 i][j]?=some e:=he;rcases(show j=0\/j=1 by omega)with rfl|rfl
   ·cases he;exact h0 i _ _ hi ⟨_,.refl,aj,by simp,by rw[aX]⟩
   ·cases he;exact h1 i _ _ hi ⟨_,.refl,aj,by simp,by rw[aX]⟩
  ·rintro zs M ⟨rfl,rfl⟩;refine⟨?_,rfl⟩;rw[List.range_succ,List.flatMap_append];simp
 ·rintro ys M ⟨rfl,rfl⟩;exact hq p hp
inductive Cn_twice_area(u v:D)(M:MH)(Q:DK):Prop
 |mk (t b X Y:Int) (ws:List Wl) (p:Addr) (r:List Nat) (_:u=.tup (ws.map (rwl t b X Y))) (_:v=.ref p) (_:M p=some (.lst (r.map fun g:Nat=>D.int (g:Int)))) (_:Scl t b X Y) (_:(∀w∈ws,Un5 w)) (_:ws.length<=40) (_:r.length<=80) (_:(∀g∈r,g<2*ws.length)) (_:∀tot B:Int,0<B->B<=10^52->Bd 1000 tot->(tot:Rat)=(r.map (arT t b X Y ws)).sum*(B:Rat)->Q (.tup [.int tot,.int B]) M)
theorem lX(T:Tx K mg):Cal P w K mg base 3 "twice_area" (sD2 Cn_twice_area):=by
 refine bg (k:=2) T.f_twice_area aJ fun f cdv A outer s H E hr=>⟨_,(ai (f6 2 aJ.nd (CScope.of (xs:=["face"]) (js:=[0]) rfl) rfl (aO (dv 1)) (fun _ _ _ _=>dh) (fun _ _ _ _=>(ak (bF T).m hr (aa (dv 1) (aa (dv 0) af))))) (ai (aA 3 aJ.nd (ak (d7 T).m hr (aa (ve (CScope.of (xs:=["way","corner"]) (js:=[]) rfl) rfl (aO (dv 2)) (fun _ _ _ _=>(aO (dv 0))) (fun _ _ _ _=>(au (dv 1) ag))) af))) (ai (aA 4 aJ.nd (ak (d7 T).m hr (aa (ve (CScope.of (xs:=["way","corner"]) (js:=[]) rfl) rfl (aO (dv 2)) (fun _ _ _ _=>(aO (dv 0))) (fun _ _ _ _=>(au (dv 1) ag))) af))) (ai (aA 5 aJ.nd ag) (ai (bH Ft rfl (aO (dv 2)) (bj rfl (ay (bj rfl (ay (ax 6 aJ.nd) (ay (ax 7 aJ.nd) aR))) (ay (bj rfl (ay (ax 8 aJ.nd) (ay (ax 9 aJ.nd) aR))) aR))) (ai (wk 5 aJ.nd Bp (av aD (ak (dP T).m hr (aa (dv 6) (aa (dv 3) af))) (ak (dP T).m hr (aa (dv 9) (aa (dv 4) af))))) (aq (wk 5 aJ.nd Bw (av aD (ak (dP T).m hr (aa (dv 8) (aa (dv 3) af))) (ak (dP T).m hr (aa (dv 7) (aa (dv 4) af)))))))) (aq (az (aG (aa (dv 5) (aa (av aD (dv 3) (dv 4)) af)))))))))),fun _ _ M Q h=>?_⟩;obtain⟨t,b,X,Y,ws,p,r,rfl,rfl,hp,S,hU,hlen,hrl,hr,k⟩:=h;refine⟨_,rfl,_,hp,comp_map (fun j=>rwl t b X Y (fw ws ((r[j]?).getD 0))) (by show(r.map fun g:Nat=>D.int (g:Int)).length<=1000000;simp;omega) (fun q ys hq=>by show(aw M q _) p=_;rw[ar (aC hp hq)];exact hp) ?_ (fun pw hpw=>?_)⟩
 ·intro j d M6 hj hd sb;have hd:(r.map fun g:Nat=>D.int (g:Int))[j]?=some d:=hd;rw[E9]at hd;cases eg:r[j]? with
  |none=>rw[eg]at hd;cases hd
  |some g=>
   rw[eg]at hd
   cases hd
   exact⟨_,rfl,fun K hK=>⟨_,rfl,_,rfl,t,b,X,Y,ws,g,rfl,rfl,hr g (EZ eg),by omega,hK _ .refl⟩⟩
 have e1:(Fg (r.map fun g:Nat=>D.int (g:Int)).length).map (fun j=>rwl t b X Y (fw ws ((r[j]?).getD 0)))=r.map fun g=>rwl t b X Y (fw ws g):=by
  rw[E6];apply List.ext_getElem
  ·simp
  ·intro i h1 h2;simp at h1;simp[h1]
 dsimp only;rw[e1];have hw1:(aw M pw (.lst (r.map fun g=>rwl t b X Y (fw ws g)))) pw=some (.lst (r.map fun g=>rwl t b X Y (fw ws g))):=aj;have sbM:SD.Sub M (aw M pw (.lst (r.map fun g=>rwl t b X Y (fw ws g)))):=.new hpw .refl;generalize aw M pw (.lst (r.map fun g=>rwl t b X Y (fw ws g)))=M1 at hw1 sbM ⊢;have hil:(r.map fun g=>rwl t b X Y (fw ws g)).length=r.length:=by simp
 refine⟨_,rfl,_,hw1,lD (fun i=>Ma.spt (Ma.ut t b X 1 (fa ws ((r[i]?).getD 0)).1) (Ma.ut t b Y 1 (fa ws ((r[i]?).getD 0)).2)) (fun i=>Ma.spt (Ma.ut t b X 1 (fb ws ((r[i]?).getD 0)).1) (Ma.ut t b Y 1 (fb ws ((r[i]?).getD 0)).2)) (fun i=>Ma.fr (Ma.ut t b X 1 (fa ws ((r[i]?).getD 0)).1)) (fun i=>Ma.fr (Ma.ut t b X 1 (fb ws ((r[i]?).getD 0)).1)) (by show(r.map fun g=>rwl t b X Y (fw ws g)).length<=1000;omega) (fun q ys hq=>by show(aw M1 q _) pw=_;rw[ar (aC hw1 hq)];exact hw1) (fun i d hi hd=>?_) (fun i M R hi h=>⟨_,rfl,_,rfl,h⟩) (fun i M K hi h=>⟨_,rfl,_,rfl,h⟩) (fun i M K hi h=>⟨_,rfl,_,rfl,h⟩) (fun px hpx=>?_)⟩
 ·have hd:(r.map fun g=>rwl t b X Y (fw ws g))[i]?=some d:=hd;rw[E9]at hd;cases eg:r[i]? with
  |none=>rw[eg]at hd;cases hd
  |some g=>
   rw[eg]at hd
   cases hd
   rfl
 obtain⟨bn,rfl⟩:∃bn:Nat,b=(bn:Int):=⟨b.toNat,by have:=S.b0;omega⟩;have hb0:0<bn:=by have:=S.b0;omega
 have dv:∀(Z x:Int),(Ma.ut t (bn:Int) Z 1 x).den ∣ bn:=fun Z x=>by
  have h:=xm (n:=x*t+Z*1) (d:=(bn:Int)*1) (by omega)
  rw[Int.mul_one (bn:Int)]at h
  unfold Ma.ut
  rw[Int.mul_one (bn:Int)]
  exact Int.ofNat_dvd.mp h
 have eX:∀(Z:Int) (φ:Vc->Int) (n:Nat),((Fg n).flatMap fun i=>[Ma.fr (Ma.ut t (bn:Int) Z 1 (φ (fa ws ((r[i]?).getD 0)))),Ma.fr (Ma.ut t (bn:Int) Z 1 (φ (fb ws ((r[i]?).getD 0))))])=((Fg n).flatMap fun i=>[Ma.ut t (bn:Int) Z 1 (φ (fa ws ((r[i]?).getD 0))),Ma.ut t (bn:Int) Z 1 (φ (fb ws ((r[i]?).getD 0)))]).map Ma.fr:=fun Z φ n=>by rw[List.map_flatMap];rfl
 have memX:∀(Z:Int) (φ:Vc->Int) (n:Nat) (q:Rat),q∈((Fg n).flatMap fun i=>[Ma.ut t (bn:Int) Z 1 (φ (fa ws ((r[i]?).getD 0))),Ma.ut t (bn:Int) Z 1 (φ (fb ws ((r[i]?).getD 0)))])->q.den ∣ bn:=fun Z φ n q hq=>by
  obtain⟨i,_,hi⟩:=List.mem_flatMap.mp hq;rcases FN.mp hi with z|z
  ·rw[z];exact dv _ _
  ·rw[show q=_ from by simpa using z];exact dv _ _
 have useX:∀(Z:Int) (φ:Vc->Int) (c:Nat),(∀q∈((Fg r.length).flatMap fun i=>[Ma.ut t (bn:Int) Z 1 (φ (fa ws ((r[i]?).getD 0))),Ma.ut t (bn:Int) Z 1 (φ (fb ws ((r[i]?).getD 0)))]),q.den ∣ c)->∀(i g:Nat),r[i]?=some g->(Ma.ut t (bn:Int) Z 1 (φ (fa ws g))).den ∣ c/\(Ma.ut t (bn:Int) Z 1 (φ (fb ws g))).den ∣ c:=fun Z φ c h i g eg=>by
  have hi:i<r.length:=(F0.mp eg).1
  refine⟨h _ (List.mem_flatMap.mpr ⟨i,Gg.mpr hi,?_⟩),h _ (List.mem_flatMap.mpr ⟨i,Gg.mpr hi,?_⟩)⟩
  ·rw[eg];simp
  ·rw[eg];simp
 have hbb:bn<=10^26:=by have:=S.b1;omega
 refine⟨px,_,bn,rfl,(by rw[aj];dsimp only;rw[hil];exact congrArg (fun z=>some (MO.lst z)) (eX X (fun v=>v.1) r.length)),hb0,hbb,memX X (fun v=>v.1) _,fun xb xb0 xbd xbq=>?_⟩;have hw2:∀{o},(aw M1 px o) pw=some (.lst (r.map fun g=>rwl t (bn:Int) X Y (fw ws g))):=fun{o}=>by rw[ar (aC hw1 hpx)];exact hw1
 have sb2:∀{o},SD.Sub M (aw M1 px o):=fun{o}=>.new hpx sbM;refine⟨_,rfl,_,hw2,lD (fun i=>Ma.spt (Ma.ut t (bn:Int) X 1 (fa ws ((r[i]?).getD 0)).1) (Ma.ut t (bn:Int) Y 1 (fa ws ((r[i]?).getD 0)).2)) (fun i=>Ma.spt (Ma.ut t (bn:Int) X 1 (fb ws ((r[i]?).getD 0)).1) (Ma.ut t (bn:Int) Y 1 (fb ws ((r[i]?).getD 0)).2)) (fun i=>Ma.fr (Ma.ut t (bn:Int) Y 1 (fa ws ((r[i]?).getD 0)).2)) (fun i=>Ma.fr (Ma.ut t (bn:Int) Y 1 (fb ws ((r[i]?).getD 0)).2)) (by show(r.map fun g=>rwl t (bn:Int) X Y (fw ws g)).length<=1000;omega) (fun q ys hq=>by show(aw _ q _) pw=_;rw[ar (aC hw2 hq)];exact hw2) (fun i d hi hd=>?_) (fun i M R hi h=>⟨_,rfl,_,rfl,h⟩) (fun i M K hi h=>⟨_,rfl,_,rfl,h⟩) (fun i M K hi h=>⟨_,rfl,_,rfl,h⟩) (fun py hpy=>?_)⟩
 ·have hd:(r.map fun g=>rwl t (bn:Int) X Y (fw ws g))[i]?=some d:=hd;rw[E9]at hd;cases eg:r[i]? with
  |none=>rw[eg]at hd;cases hd
  |some g=>
   rw[eg]at hd
   cases hd
   rfl
 refine⟨py,_,bn,rfl,(by rw[aj];dsimp only;rw[hil];exact congrArg (fun z=>some (MO.lst z)) (eX Y (fun v=>v.2) r.length)),hb0,hbb,memX Y (fun v=>v.2) _,fun yb yb0 ybd ybq=>?_⟩;have ux:=useX X (fun v=>v.1) xb xbq;have uy:=useX Y (fun v=>v.2) yb ybq;have hw3:∀{o o'},py≠pw->(aw (aw M1 px o) py o') pw=some (.lst (r.map fun g=>rwl t (bn:Int) X Y (fw ws g))):=fun ne=>by rw[ar ne.symm];exact hw2
 have npy:py≠pw:=(aC hw2 hpy).symm;refine⟨_,rfl,_,hw3 npy,?_⟩;have sb3:=SD.Sub.new (o:=MO.lst ((Fg (r.map fun g=>rwl t (bn:Int) X Y (fw ws g)).length).flatMap fun i=>[Ma.fr (Ma.ut t (bn:Int) Y 1 (fa ws ((r[i]?).getD 0)).2),Ma.fr (Ma.ut t (bn:Int) Y 1 (fb ws ((r[i]?).getD 0)).2)])) hpy sb2;dsimp only at sb3 ⊢;have hw4:=hw3 (o:=MO.lst ((Fg (r.map fun g=>rwl t (bn:Int) X Y (fw ws g)).length).flatMap fun i=>[Ma.fr (Ma.ut t (bn:Int) X 1 (fa ws ((r[i]?).getD 0)).1),Ma.fr (Ma.ut t (bn:Int) X 1 (fb ws ((r[i]?).getD 0)).1)])) (o':=MO.lst ((Fg (r.map fun g=>rwl t (bn:Int) X Y (fw ws g)).length).flatMap fun i=>[Ma.fr (Ma.ut t (bn:Int) Y 1 (fa ws ((r[i]?).getD 0)).2),Ma.fr (Ma.ut t (bn:Int) Y 1 (fb ws ((r[i]?).getD 0)).2)])) npy;generalize aw (aw M1 px (MO.lst ((Fg (r.map fun g=>rwl t (bn:Int) X Y (fw ws g)).length).flatMap fun i=>[Ma.fr (Ma.ut t (bn:Int) X 1 (fa ws ((r[i]?).getD 0)).1),Ma.fr (Ma.ut t (bn:Int) X 1 (fb ws ((r[i]?).getD 0)).1)]))) py (MO.lst ((Fg (r.map fun g=>rwl t (bn:Int) X Y (fw ws g)).length).flatMap fun i=>[Ma.fr (Ma.ut t (bn:Int) Y 1 (fa ws ((r[i]?).getD 0)).2),Ma.fr (Ma.ut t (bn:Int) Y 1 (fb ws ((r[i]?).getD 0)).2)]))=M3 at sb3 hw4 ⊢;have hx1:(0:Int)<(xb:Int)/\(xb:Int)<=10^26:=by have:=Nat.le_of_dvd hb0 xbd;omega
 have hy1:(0:Int)<(yb:Int)/\(yb:Int)<=10^26:=by have:=Nat.le_of_dvd hb0 ybd;omega
 refine⟨fun i δ M'=>M'=M3/\∃(tot:Int) (o6 o7 o8 o9:Option D),δ=[some (.tup (ws.map (rwl t (bn:Int) X Y))),some (.ref p),some (.ref pw),some (.int (xb:Int)),some (.int (yb:Int)),some (.int tot),o6,o7,o8,o9]/\(tot:Rat)=((r.take i).map (arT t (bn:Int) X Y ws)).sum*(((xb:Int)*(yb:Int):Int):Rat)/\Bd (600+2*i) tot,⟨rfl,0,_,_,_,_,rfl,(by simp),(by show(0:Int).natAbs<2^(600+2*0);decide)⟩,fun i δ M' _ z=>by obtain⟨rfl,_⟩:=z;exact hw4,?_,?_⟩
 ·rintro i d δ M' hi hd ⟨rfl,tot,o6,o7,o8,o9,rfl,et,bt⟩;have hd:(r.map fun g=>rwl t (bn:Int) X Y (fw ws g))[i]?=some d:=hd;rw[E9]at hd;cases eg:r[i]? with
  |none=>rw[eg]at hd;cases hd
  |some g=>
   rw[eg]at hd
   cases hd
   have hg:=hr g (EZ eg)
   obtain⟨_,_,w3⟩:=bC (ws:=ws) (k:=((g/2:Nat):Int)) (by omega) (by omega)
   have W:=hU _ w3
   have W6:∀{z:Int},(0<=z/\z<=20)->(-(10^6)<=z/\z<=10^6):=fun{z} h=>by omega
   have one:(0:Int)<1/\(1:Int)<=10^6:=by decide
   have rg:((0<=(fa ws g).1/\(fa ws g).1<=20)/\(0<=(fa ws g).2/\(fa ws g).2<=20))/\((0<=(fb ws g).1/\(fb ws g).1<=20)/\(0<=(fb ws g).2/\(fb ws g).2<=20)):=by
    unfold fa fb fw;by_cases h:g%2=0
    ·rw[if_pos h];exact⟨⟨W.a,W.b⟩,W.c,W.d⟩
    ·rw[if_neg h];exact⟨⟨W.c,W.d⟩,W.a,W.b⟩
   have bxa:Ma.Bq 200 (Ma.ut t (bn:Int) X 1 (fa ws g).1):=S.bx one (W6 rg.1.1)
   have bya:Ma.Bq 200 (Ma.ut t (bn:Int) Y 1 (fa ws g).2):=S.by' one (W6 rg.1.2)
   have bxb:Ma.Bq 200 (Ma.ut t (bn:Int) X 1 (fb ws g).1):=S.bx one (W6 rg.2.1)
   have byb:Ma.Bq 200 (Ma.ut t (bn:Int) Y 1 (fb ws g).2):=S.by' one (W6 rg.2.2)
   have tb:∀{q:Rat} {B:Int},Ma.Bq 200 q->0<B->B<=10^26->Bd 300 (q.num*B.fdiv (q.den:Int)):=fun{q B} h h0 h1=>by
    have bB:Bd 100 B:=by show B.natAbs<2^100;omega
    have dB:(B.fdiv (q.den:Int)).natAbs<=B.natAbs:=by rw[Gi _ (by omega)];exact Int.natAbs_ediv_le_natAbs _ _
    exact h.1.mul (bB.of_le dB)
   have m6:∀{z:Int},Bd 300 z->Bd 1000000 z:=fun h=>h.mono (by decide)
   refine⟨_,rfl,rfl,_,_,rfl,_,rfl,rfl,_,_,rfl,_,_,rfl,rfl,_,_,rfl,_,rfl,rfl,_,_,rfl,_,_,rfl,rfl,rfl,?_⟩
   refine⟨tot,rfl,_,rfl,_,rfl,Ma.ut t (bn:Int) X 1 (fa ws g).1,(xb:Int),rfl,rfl,bxa,hx1.1,hx1.2,_,rfl,_,rfl,Ma.ut t (bn:Int) Y 1 (fb ws g).2,(yb:Int),rfl,rfl,byb,hy1.1,hy1.2,du (m6 (tb bxa hx1.1 hx1.2)) (m6 (tb byb hy1.1 hy1.2)),_,rfl,?_⟩
   refine⟨_,rfl,_,rfl,_,rfl,Ma.ut t (bn:Int) X 1 (fb ws g).1,(xb:Int),rfl,rfl,bxb,hx1.1,hx1.2,_,rfl,_,rfl,Ma.ut t (bn:Int) Y 1 (fa ws g).2,(yb:Int),rfl,rfl,bya,hy1.1,hy1.2,du (m6 (tb bxb hx1.1 hx1.2)) (m6 (tb bya hy1.1 hy1.2)),_,rfl,?_⟩
   refine⟨rfl,_,_,_,_,_,rfl,?_,?_⟩
   ·rw[Hn,eg,Option.toList_some,FI,List.sum_append];have ex:=ux i g eg;have ey:=uy i g eg;have t1:=qX (Ma.ut t (bn:Int) X 1 (fa ws g).1) (xb:Int) (Int.ofNat_dvd.mpr ex.1);have t2:=qX (Ma.ut t (bn:Int) Y 1 (fb ws g).2) (yb:Int) (Int.ofNat_dvd.mpr ey.2);have t3:=qX (Ma.ut t (bn:Int) X 1 (fb ws g).1) (xb:Int) (Int.ofNat_dvd.mpr ex.2);have t4:=qX (Ma.ut t (bn:Int) Y 1 (fa ws g).2) (yb:Int) (Int.ofNat_dvd.mpr ey.1);dsimp only;rw[Hw,Rat.intCast_add,et,Gq,Gq,t1,t2,Gq,t3,t4];simp only[EW,GR,HH,List.sum_nil];unfold arT;grind
   ·have p1:=((tb bxa hx1.1 hx1.2).mul (tb byb hy1.1 hy1.2)).mono (show 300+300<=600+2*i by omega);have p2:=((tb bxb hx1.1 hx1.2).mul (tb bya hy1.1 hy1.2)).mono (show 300+300<=600+2*i+1 by omega);exact((bt.add p1).sub p2).mono (by omega)
 ·rintro δ M' ⟨rfl,tot,o6,o7,o8,o9,rfl,et,bt⟩;have e:r.take (r.map fun g=>rwl t (bn:Int) X Y (fw ws g)).length=r:=GH (by simp);rw[e]at et;have bx64:Bd 100 (xb:Int):=by show(xb:Int).natAbs<2^100;omega
  have by64:Bd 100 (yb:Int):=by show(yb:Int).natAbs<2^100;omega
  have pp:=Fj hx1.1 hy1.1
  have pl:(xb:Int)*(yb:Int)<=10^52:=by
   have h1:=Int.mul_le_mul hx1.2 hy1.2 (Gn hy1.1) (show(0:Int)<=10^26 by decide)
   exact Int.le_trans h1 (by decide)
  exact⟨_,rfl,_,rfl,_,rfl,du (bx64.mono (by decide)) (by64.mono (by decide)),nbL rfl,⟨M,sb3,k tot _ pp pl (bt.mono (by rw[hil];first|omega|(dsimp only;omega)|(simp only[E6]at *;omega))) et⟩⟩
theorem bX:FnScope ["plot","outers","inners","ring"] ["plot"] (ao dr):=by walk_at "sc"
inductive Cn_outer_and_inner(u:D)(M:MH)(Q:DK):Prop
 |mk (t b X Y:Int) (ws:List Wl) (_:u=.tup (ws.map (rwl t b X Y))) (_:Scl t b X Y) (_:ws.length<=40) (_:(∀w∈ws,Un5 w)) (_:PF ws) (_:∀(M':MH) (lo li:Addr) (ps qs:List Addr) (rs:List (List Nat)),SD.Sub M M'->Rgs ws (2*ws.length) rs->M' lo=some (.lst (ps.map D.ref))->M' li=some (.lst (qs.map D.ref))->RL M' ps (rs.filter (bT ws))->RL M' qs (rs.filter fun r=>!bT ws r)->M lo=none->M li=none->(∀p∈ps++qs,M p=none)->Q (.tup [.ref lo,.ref li]) M')
theorem gj(T:Tx K mg):Cal P w K mg base 8 "outer_and_inner" (sD1 Cn_outer_and_inner):=by
 refine eD (k:=7) T.f_outer_and_inner bX fun f cdv A outer s H E hr=>⟨_,(ai (dM 1 2 rfl bX.nd (aa (cF af) (aa (cF af) af))) (ai (bH Ft rfl (aO (ak (oU T).m hr (aa (dv 0) af))) (ax 3 bX.nd) (aq (bo (aH (l6 hr.units) (au (ak (lX T).m hr (aa (dv 0) (aa (dv 3) af))) ag) ag) (aq (dS (b4 (dv 1) (aa (dv 3) af)))) (aq (dS (b4 (dv 2) (aa (dv 3) af))))))) (aq (az (aG (aa (dv 1) (aa (dv 2) af))))))),fun _ M Q h=>?_⟩;obtain⟨t,b,X,Y,ws,rfl,S,hlen,hU,hF,k⟩:=h;refine⟨nbL rfl,fun lo hlo=>⟨nbL rfl,fun li hli=>?_⟩⟩;have noi:lo≠li:=aC aj hli;have hli0:M li=none:=by have h:=hli;rw[ar noi.symm]at h;exact h
 refine⟨_,_,rfl,?_⟩;refine⟨_,rfl,t,b,X,Y,ws,rfl,S,hlen,hU,hF,fun M1 lr pr rs sb1 hlr hr1 R RLs hpr=>?_⟩;have hlo1:M1 lo=some (.lst []):=sb1 _ _ (by rw[ar noi,aj]);have hli1:M1 li=some (.lst []):=sb1 _ _ aj;have sbM:SD.Sub M M1:=SD.Sub.trans (.new hli (.new hlo .refl)) sb1;have nlo:lr≠lo:=fun z=>by subst z;rw[ar noi,aj]at hlr;cases hlr
 have nli:lr≠li:=fun z=>by subst z;rw[aj]at hlr;cases hlr
 have pn:∀p∈pr,p≠lo/\p≠li/\M p=none:=fun p hp=>by
  have h:=(hpr p hp).2
  have a:p≠li:=fun z=>by subst z;rw[aj]at h;cases h
  rw[ar a]at h
  have c:p≠lo:=fun z=>by subst z;rw[aj]at h;cases h
  rw[ar c]at h
  exact⟨c,a,h⟩
 have hrl:=l0 R;have hpl:=RLs.len;have rmem:=iN hU hF (E8 _) R;refine⟨_,hr1,?_⟩;refine⟨fun i δ M'=>∃(ps qs:List Addr) (o3:Option D),δ=[some (.tup (ws.map (rwl t b X Y))),some (.ref lo),some (.ref li),o3]/\(∀c,c≠lo->c≠li->M' c=M1 c)/\M' lo=some (.lst (ps.map D.ref))/\M' li=some (.lst (qs.map D.ref))/\RL M1 ps ((rs.take i).filter (bT ws))/\RL M1 qs ((rs.take i).filter fun r=>!bT ws r)/\ps.length<=i/\qs.length<=i/\∀p∈ps++qs,p∈pr,⟨[],[],_,rfl,fun _ _ _=>rfl,hlo1,hli1,.nil,.nil,E8 _,E8 _,fun p hp=>by cases hp⟩,fun i δ M' _ z=>by obtain⟨_,_,_,_,z,_⟩:=z;show M' lr=_;rw[z lr nlo nli];exact hr1,?_,?_⟩
 ·rintro i d δ M' hi hd ⟨ps,qs,o3,rfl,hM',ho',hi',R1,R2,l1,l2,hpq⟩;have hi:i<pr.length:=by have:i<(pr.map D.ref).length:=hi;simpa using this
  have hd:(pr.map D.ref)[i]?=some d:=hd;rw[E9,E7 hi]at hd;cases hd;obtain⟨r,er,hpi⟩:=RLs.get hi;have mpi:pr[i]∈pr:=G6 hi;obtain⟨p1,p2,p3⟩:=pn _ mpi;have A:=rmem r (EZ er);refine⟨_,rfl,_,rfl,t,b,X,Y,ws,pr[i],r,rfl,rfl,(by rw[hM' _ p1 p2];exact hpi),S,hU,hlen,by have:=A.len;omega,A.lt,fun tot B hB hB1 bt et=>?_⟩;refine⟨_,rfl,trivial,_,rfl,?_⟩;have sg:=uT hU hF A.rng S.t0 S.b0 hB et;have f1:=iz (bT ws) rs er;have f2:=iz (fun r=>!bT ws r) rs er;refine bS (fun h=>?_) (fun h=>?_)
  ·have o:bT ws r=true:=by rw[<-sg];exact h
   rw[o]at f1 f2;rw[if_pos rfl]at f1;rw[if_neg (by decide),GC]at f2;refine⟨_,rfl,lo,_,rfl,ho',_,rfl,_,_,rfl,ho',(by rw[E6];omega),?_⟩;refine⟨ps++[pr[i]],qs,_,rfl,fun c a c2=>by rw[ar a];exact hM' c a c2,by rw[aj,FI];rfl,by rw[ar noi.symm];exact hi',by rw[f1];exact R1.snoc hpi,by rw[f2];exact R2,by simp;omega,by omega,fun p hp=>?_⟩;rcases Fl.mp hp with z|z
   ·rcases Fl.mp z with z|z
    ·exact hpq p (Fl.mpr (.inl z))
    ·rw[show p=pr[i] by simpa using z];exact mpi
   ·exact hpq p (Fl.mpr (.inr z))
  ·have o:bT ws r=false:=by rw[<-sg];simpa using h
   rw[o]at f1 f2;rw[if_neg (by decide),GC]at f1;rw[if_pos (show(!false)=true from rfl)]at f2;refine⟨_,rfl,li,_,rfl,hi',_,rfl,_,_,rfl,hi',(by rw[E6];omega),?_⟩;refine⟨ps,qs++[pr[i]],_,rfl,fun c a c2=>by rw[ar c2];exact hM' c a c2,by rw[ar noi];exact ho',by rw[aj,FI];rfl,by rw[f1];exact R1,by rw[f2];exact R2.snoc hpi,by omega,by simp;omega,fun p hp=>?_⟩;rcases Fl.mp hp with z|z
   ·exact hpq p (Fl.mpr (.inl z))
   ·rcases Fl.mp z with z|z
    ·exact hpq p (Fl.mpr (.inr z))
    ·rw[show p=pr[i] by simpa using z];exact mpi
 ·rintro δ M' ⟨ps,qs,o3,rfl,hM',ho',hi',R1,R2,l1,l2,hpq⟩;have et:rs.take (pr.map D.ref).length=rs:=GH (by rw[E6];omega);have R1:RL M1 ps ((rs.take (pr.map D.ref).length).filter (bT ws)):=R1;have R2:RL M1 qs ((rs.take (pr.map D.ref).length).filter fun r=>!bT ws r):=R2;rw[et]at R1 R2;have kp:∀p∈ps++qs,M' p=M1 p:=fun p hp=>let z:=pn p (hpq p hp);hM' p z.1 z.2.1
  refine⟨_,rfl,_,rfl,nbL rfl,rtn (k M' lo li ps qs rs (fun a o h=>?_) R ho' hi' (R1.mono fun p hp o e=>by rw[kp p (Fl.mpr (.inl hp))];exact e) (R2.mono fun p hp o e=>by rw[kp p (Fl.mpr (.inr hp))];exact e) hlo hli0 fun p hp=>(pn p (hpq p hp)).2.2)⟩;rw[hM' a (fun z=>by subst z;rw[hlo]at h;cases h) (fun z=>by subst z;rw[hli0]at h;cases h)];exact sbM _ _ h
theorem bV:FnScope ["plot","ring","first","face"] ["plot","ring"] (ao eC):=by walk_at "sc"
inductive Cn_first_corner(u v:D)(M:MH)(Q:DK):Prop
 |mk (t b X Y:Int) (ws:List Wl) (p:Addr) (r:List Nat) (_:u=.tup (ws.map (rwl t b X Y))) (_:v=.ref p) (_:M p=some (.lst (r.map fun g:Nat=>D.int (g:Int)))) (_:Scl t b X Y) (_:(∀w∈ws,Un5 w)) (_:ws.length<=40) (_:0<r.length) (_:(∀g∈r,g<2*ws.length)) (_:Q (gsp t b X Y (fc ws r)) M)
theorem jR(T:Tx K mg):Cal P w K mg base 4 "first_corner" (sD2 Cn_first_corner):=by
 refine bg (k:=3) T.f_first_corner bV fun f cdv A outer s H E hr=>⟨_,(ai (aA 2 bV.nd (au (ak (bF T).m hr (aa (dv 0) (aa (au (dv 1) ag) af))) ag)) (ai (bH Ft rfl (aO (dv 1)) (ax 3 bV.nd) (aq (aA 2 bV.nd (ak (gJ T).m hr (aa (dv 2) (aa (au (ak (bF T).m hr (aa (dv 0) (aa (dv 3) af))) ag) af)))))) (aq (az (dv 2))))),fun _ _ M Q h=>?_⟩;obtain⟨t,b,X,Y,ws,p,r,rfl,rfl,hp,S,hU,hlen,hpos,hr,k⟩:=h
 obtain⟨g0,r',e0⟩:∃g0 r',r=g0::r':=by
  cases r with
  |nil=>simp at hpos
  |cons a l=>exact⟨a,l,rfl⟩
 have bq:∀{z:Vc},B20 z->Ma.Bq 100000 (Ma.ut t b X 1 z.1)/\Ma.Bq 100000 (Ma.ut t b Y 1 z.2):=fun{z} h=>by
  have one:(0:Int)<1/\(1:Int)<=10^6:=by decide
  exact⟨(S.bx one (by have:=h.1;omega)).mono (by decide),(S.by' one (by have:=h.2;omega)).mono (by decide)⟩
 refine⟨_,rfl,_,rfl,_,_,hp,(show atI _ ((0:Nat):Int)=some (.int (g0:Int))from cQ (by rw[e0];rfl)),t,b,X,Y,ws,g0,rfl,rfl,hr g0 (by rw[e0];simp),by omega,_,rfl,?_⟩;refine⟨_,rfl,_,hp,?_⟩;refine⟨fun i δ M'=>M'=M/\∃o3:Option D,δ=[some (.tup (ws.map (rwl t b X Y))),some (.ref p),some (gsp t b X Y (fcI ws r i)),o3],⟨rfl,_,by rw[e0];rfl⟩,fun i δ M' _ z=>by obtain⟨rfl,_⟩:=z;exact hp,?_,?_⟩
 ·rintro i d δ M' hi hd ⟨rfl,o3,rfl⟩;have hi:i<r.length:=by have:i<(r.map fun g:Nat=>D.int (g:Int)).length:=hi;simpa using this
  have hd:(r.map fun g:Nat=>D.int (g:Int))[i]?=some d:=hd;rw[E9,E7 hi]at hd;cases hd;have hg:=hr r[i] (G6 hi);have b1:=mI hU hr hpos i (by omega);have b2:=qk hU hg;refine⟨_,rfl,_,rfl,_,rfl,t,b,X,Y,ws,r[i],rfl,rfl,hg,by omega,_,rfl,?_⟩;refine⟨_,_,_,_,rfl,rfl,(bq b1).1,(bq b1).2,(bq b2).1,(bq b2).2,fun s hs=>?_⟩;have hs:=hs.trans (DV (X:=X) (Y:=Y) S.t0 S.b0 b1 b2);subst hs;exact⟨rfl,_,by rw[nR (E7 hi)];rfl⟩
 ·rintro δ M' ⟨rfl,o3,rfl⟩;have e:fcI ws r (r.map fun g:Nat=>D.int (g:Int)).length=fc ws r:=by rw[E6];rfl
  refine⟨_,rfl,rtn ?_⟩;dsimp only;rw[e];exact k
theorem fq:FnScope ["plot","lands","corner","wall"] ["plot","lands","corner"] (ao fY):=by walk_at "sc"
inductive Cn_land_about(u v x:D)(M:MH)(Q:DK):Prop
 |mk (t b X Y:Int) (ws:List Wl) (l:Addr) (L:List Int) (c:Vc) (_:u=.tup (ws.map (rwl t b X Y))) (_:v=.ref l) (_:x=gsp t b X Y c) (_:M l=some (.lst (L.map D.int))) (_:L.length=2*ws.length) (_:Scl t b X Y) (_:(∀w∈ws,Un5 w)) (_:PF ws) (_:ws.length<=40) (_:B20 c) (_:Q (.int (laF ws L c)) M)
theorem ml(T:Tx K mg):Cal P w K mg base 7 "land_about" (sD3 Cn_land_about):=by
 refine lF (k:=6) T.f_land_about fq fun f cdv A outer s H E hr=>⟨_,(ai (aA 3 fq.nd (ak (fE T).m hr (aa (dv 0) (aa (dv 2) af)))) (aq (az (eF (aH vg (dv 3) j4) ag (au (dv 1) (av aD ag (j7 (f7 hr) (dv 0) (aa (dv 3) af)))))))),fun _ _ _ M Q h=>?_⟩;obtain⟨t,b,X,Y,ws,l,L,c,rfl,rfl,rfl,hl,hL,S,hU,hF,hlen,hc,k⟩:=h;have ex:bK ws 1 c.1 c.2≠[]->∃tt∈bK ws 1 c.1 c.2,∀w∈(bK ws 1 c.1 c.2).map (wAt ws),w=wAt ws tt\/(abv (wAt ws tt) w=true/\abv w (wAt ws tt)=false):=fun hn=>by obtain⟨tt,h1,h2,_⟩:=ua hU hF (show(0:Int)<1 by decide) (fun k hk=>fM hk) hn (nT _ _ _ _);exact⟨tt,h1,h2⟩
 have c1:=hc.1;have c2:=hc.2;refine⟨_,rfl,_,rfl,t,b,X,Y,c.1,c.2,1,ws,rfl,rfl,S,hU,hlen,by omega,by omega,by decide,(fun he=>?_),(fun tt htt htop=>?_),ex⟩
 ·have k:Q (.int 0) M:=by unfold laF at k;rw[if_pos he]at k;exact k
  exact⟨_,rfl,_,rfl,_,rfl,tP rfl (rtn k)⟩
 ·have sp:=ff (fM htt);obtain⟨w1,w2,w3⟩:=bC sp.1 sp.2.1;have tn:tt.toNat<ws.length:=by omega
  have k:Q (.int ((L[2*tt.toNat]?).getD 0)) M:=by unfold laF at k;rw[if_neg (List.ne_nil_of_mem htt),yp hU hF htt htop]at k;exact k
  have h2:2*tt.toNat<L.length:=by omega
  rw[E7 h2]at k;refine⟨_,rfl,_,rfl,_,rfl,iF rfl ?_⟩;refine⟨_,rfl,_,rfl,_,rfl,_,rfl,_,rwP t b X Y (wAt ws tt),tt.toNat,rfl,(by simp;omega),Pd.of rfl,rfl,fun i y hi hy=>?_,?_⟩
  ·rw[E9]at hy;cases ei:ws[i]? with
   |none=>rw[ei]at hy;cases hy
   |some U=>
    rw[ei]at hy
    cases hy
    refine⟨rwP t b X Y U,Pd.of rfl,rfl,?_⟩
    by_cases e:i=tt.toNat
    ·subst e;rw[w1]at ei;cases ei;rw[oj,decide_eq_true rfl]
    ·rw[decide_eq_false e];exact BY S.t0 S.b0 (hU _ (EZ ei)) (hU _ w3) (hF i tt.toNat _ _ e ei w1).ne
  ·refine⟨aS (cm (by decide)),_,_,hl,(by rw[show(2:Int)*((tt.toNat:Nat):Int)=((2*tt.toNat:Nat):Int) by omega];exact cQ (v:=D.int L[2*tt.toNat]) (by rw[E9,E7 h2];rfl)),rtn k⟩
theorem aE:FnScope ["plot","outers","inners","lands","number","ring","face","ring_at","corner","land"] ["plot"] (ao dG):=by walk_at "sc"
inductive Cn_lands_of_faces(u:D)(M:MH)(Q:DK):Prop
 |mk (t b X Y:Int) (ws:List Wl) (_:u=.tup (ws.map (rwl t b X Y))) (_:Scl t b X Y) (_:ws.length<=40) (_:(∀w∈ws,Un5 w)) (_:PF ws) (_:∀(M':MH) (z:Addr) (L:List Int),SD.Sub M M'->M z=none->M' z=some (.lst (L.map D.int))->yt ws L->Q (.ref z) M')
theorem g8(T:Tx K mg):Cal P w K mg base 9 "lands_of_faces" (sD1 Cn_lands_of_faces):=by
 refine eD (k:=8) T.f_lands_of_faces aE fun f cdv A outer s H E hr=>⟨_,(ai (bR (ak (gj T).m hr (aa (dv 0) af)) (bj rfl (ay (ax 1 aE.nd) (ay (ax 2 aE.nd) aR)))) (ai (aA 3 aE.nd (av x9 (cF (aa ag af)) (av aD ag (aI dR rfl T.b_len dW (aa (dv 0) af))))) (ai (bH Ft rfl (wb rfl T.b_enumerate (aa (dv 1) af)) (bj rfl (ay (ax 4 aE.nd) (ay (ax 5 aE.nd) aR))) (aq (bH Ft rfl (aO (dv 5)) (ax 6 aE.nd) (aq (bR (dv 4) (mK (dv 3) (dv 6))))))) (ai (rZ 7 aE.nd (f7 hr) (CScope.of (xs:=["ring"]) (js:=[0]) rfl) rfl (aO (dv 2)) (fun _ _ _ _=>dh) (fun _ _ _ _=>(ak (jR T).m hr (aa (dv 1) (aa (dv 0) af)))) (fun _ _ _ _=>(dv 0))) (ai (bH Ft rfl (aO (ak (fo T).m hr (aa (cj (nJ rfl) rfl T.b_list rD (aa (dv 7) af)) af))) (ax 8 aE.nd) (ai (aA 9 aE.nd (ak (ml T).m hr (aa (dv 0) (aa (dv 3) (aa (dv 8) af))))) (aq (bH Ft rfl (aO (nF (f7 hr) (dv 7) (dv 8) (by intro _ _;with_unfolding_all rfl))) (ax 6 aE.nd) (aq (bR (dv 9) (mK (dv 3) (dv 6)))))))) (aq (az (dv 3)))))))),fun _ M Q h=>?_⟩;obtain⟨t,b,X,Y,ws,rfl,S,hlen,hU,hF,k⟩:=h;have hwl:(ws.map (rwl t b X Y)).length=ws.length:=by simp
 refine⟨_,rfl,t,b,X,Y,ws,rfl,S,hlen,hU,hF,fun M1 lo li ps qs rs sb1 R ho hi RO RI flo fli fpq=>?_⟩;refine⟨_,rfl,rfl,_,_,rfl,_,_,rfl,rfl,?_⟩;have RO:=RO;generalize eouts:rs.filter (bT ws)=outs at RO;generalize eins:(rs.filter fun r=>!bT ws r)=ins at RI;have rmem:=iN hU hF (E8 _) R;have hrs:=l0 R;have hol:outs.length<=80:=by rw[<-eouts];have:=List.length_filter_le (bT ws) rs;omega
 have hil:ins.length<=80:=by rw[<-eins];have:=List.length_filter_le (fun r=>!bT ws r) rs;omega
 have omem:∀r∈outs,RgA ws r:=fun r hr=>rmem r (by rw[<-eouts]at hr;exact(Ge.mp hr).1);have imem:∀r∈ins,RgA ws r:=fun r hr=>rmem r (by rw[<-eins]at hr;exact(Ge.mp hr).1);have npo:=RO.len;have npi:=RI.len;refine⟨nbL rfl,fun z0 hz0=>⟨_,rfl,aS (cm (by decide)),.int 0,aj,by rw[hwl];omega,by rw[hwl];omega,fun z hz=>?_⟩⟩;have sb2:SD.Sub M1 (aw (aw M1 z0 (.lst [.int 0])) z (.lst (Fv ((2:Int)*((ws.map (rwl t b X Y)).length:Nat)).toNat (.int 0)))):=.new hz (.new hz0 .refl);have hz2:(aw (aw M1 z0 (.lst [.int 0])) z (.lst (Fv ((2:Int)*((ws.map (rwl t b X Y)).length:Nat)).toNat (.int 0)))) z=some (.lst ((fO (2*ws.length) outs 0).map D.int)):=by rw[aj,hwl,show((2:Int)*(ws.length:Nat)).toNat=2*ws.length by omega,fO,List.map_replicate]
 have nz:∀{a o},M1 a=some o->a≠z:=fun h e=>by
  subst e
  have h0:=SD.Sub.new (o:=.lst [.int 0]) hz0 .refl _ _ h
  rw[hz]at h0;cases h0
 have fz:M z=none:=by
  cases e:M z with
  |none=>rfl
  |some o=>exact absurd rfl (nz (sb1 _ _ e))
 generalize aw (aw M1 z0 (.lst [.int 0])) z (.lst (Fv ((2:Int)*((ws.map (rwl t b X Y)).length:Nat)).toNat (.int 0)))=M2 at sb2 hz2 ⊢;(try dsimp only[SD.bc])
 refine gc (fun δ M'=>∃o4 o5 o6:Option D,δ=[some (.tup (ws.map (rwl t b X Y))),some (.ref lo),some (.ref li),some (.ref z),o4,o5,o6,none,none,none]/\(∀c,c≠z->M' c=M2 c)/\M' z=some (.lst ((fO (2*ws.length) outs outs.length).map D.int))) ?_ (fun hu=>?_);rotate_left
 ·refine⟨_,rfl,lo,ps.map D.ref,rfl,sb2 _ _ ho,fun i δ M'=>∃o4 o5 o6:Option D,δ=[some (.tup (ws.map (rwl t b X Y))),some (.ref lo),some (.ref li),some (.ref z),o4,o5,o6,none,none,none]/\(∀c,c≠z->M' c=M2 c)/\M' z=some (.lst ((fO (2*ws.length) outs i).map D.int)),⟨_,_,_,rfl,fun _ _=>rfl,hz2⟩,fun i δ M' _ q=>by obtain⟨_,_,_,_,q,_⟩:=q;show M' lo=_;rw[q lo (nz ho)];exact sb2 _ _ ho,?_,?_⟩
  ·rintro i d δ M' hi hd ⟨o4,o5,o6,rfl,kM,hz'⟩;have hi:i<ps.length:=by have:i<(ps.map D.ref).length:=hi;simpa using this
   have hd:((ps.map D.ref)[i]?).map (fun d=>D.tup [.int ((i+1:Nat):Int),d])=some d:=hd;rw[E9,E7 hi]at hd;cases hd;obtain⟨r,er,hpi⟩:=RO.get hi;have A:=omem r (EZ er);have hp2:M2 ps[i]=some (.lst (r.map fun g:Nat=>D.int (g:Int))):=sb2 _ _ hpi;refine⟨_,rfl,rfl,_,_,rfl,_,_,rfl,rfl,?_⟩;refine⟨_,rfl,r.map (fun g:Nat=>D.int (g:Int)),(by show M' ps[i]=_;rw[kM _ (nz hpi)];exact hp2),fun j δ M''=>∃o6:Option D,δ=[some (.tup (ws.map (rwl t b X Y))),some (.ref lo),some (.ref li),some (.ref z),some (.int ((i+1:Nat):Int)),some (.ref ps[i]),o6,none,none,none]/\(∀c,c≠z->M'' c=M2 c)/\M'' z=some (.lst ((gG (fO (2*ws.length) outs i) r ((i+1:Nat):Int) j).map D.int)),⟨_,rfl,kM,hz'⟩,fun j δ M'' _ q=>by obtain⟨_,_,q,_⟩:=q;show M'' ps[i]=_;rw[q _ (nz hpi)];exact hp2,?_,?_⟩
   ·rintro j d δ M'' hj hd ⟨o6,rfl,kM',hz''⟩;have hj:j<r.length:=by have:j<(r.map fun g:Nat=>D.int (g:Int)).length:=hj;simpa using this
    have hd:(r.map fun g:Nat=>D.int (g:Int))[j]?=some d:=hd;rw[E9,E7 hj]at hd;cases hd;refine⟨_,rfl,_,rfl,_,rfl,_,r[j],hz'',qJ (by rw[E6,eZ,mM];exact A.lt _ (G6 hj)),?_⟩;exact⟨_,rfl,fun c hc=>by rw[ar hc];exact kM' c hc,by rw[aj,jO (E7 hj),List.map_set]⟩
   ·rintro δ M'' ⟨o6,rfl,kM',hz''⟩;have hz'':M'' z=some (.lst ((gG (fO (2*ws.length) outs i) r ((i+1:Nat):Int) (r.map fun g:Nat=>D.int (g:Int)).length).map D.int)):=hz'';rw[E6]at hz'';exact⟨_,_,_,rfl,kM',by rw[hz'',fO,er];rfl⟩
  ·rintro δ M' ⟨o4,o5,o6,rfl,kM,hz'⟩;have hz':M' z=some (.lst ((fO (2*ws.length) outs (ps.map D.ref).length).map D.int)):=hz';rw[E6,npo]at hz';exact hu _ _ ⟨_,_,_,rfl,kM,hz'⟩
 rintro δ M3 ⟨o4,o5,o6,rfl,kM3,hz3⟩;have to3:∀{a o},M1 a=some o->M3 a=some o:=fun{a o} h=>by rw[kM3 a (nz h)];exact sb2 _ _ h
 refine⟨_,rfl,qs.map D.ref,to3 hi,by show(qs.map D.ref).length<=900000;rw[E6];omega,fun p hp=>?_⟩;have np:∀{a o},M3 a=some o->a≠p:=fun h=>aC h hp;refine⟨fun i kvs M'=>RDt t b X Y ws ins qs i kvs/\M'=aw M3 p (dsM kvs),⟨RDt.nil ..,rfl⟩,fun i kvs M' _ q=>by obtain⟨_,rfl⟩:=q;show(aw M3 p _) li=_;rw[ar (np (to3 hi))];exact to3 hi,?_,?_⟩
 ·rintro i kvs d M' hi' hd ⟨RD,rfl⟩;have hi':i<qs.length:=by have:i<(qs.map D.ref).length:=hi';simpa using this
  have hd:(qs.map D.ref)[i]?=some d:=hd;rw[E9,E7 hi']at hd;cases hd;obtain⟨r,er,hqi⟩:=RI.get hi';have A:=imem r (EZ er);refine⟨_,rfl,?_⟩;dsimp only[SD.iV];refine A8 ?_;refine⟨_,rfl,_,rfl,t,b,X,Y,ws,qs[i],r,rfl,rfl,(by rw[ar (np (to3 hqi))];exact to3 hqi),S,hU,hlen,A.pos,A.lt,?_⟩;refine⟨_,rfl,gk t b X Y (fc ws r),qt ..,aj,?_,RD.put S.t0 S.b0 er (E7 hi'),by rw[aX]⟩;have:=congrArg List.length RD.ks;rw[E6,E6]at this;have:=gX ws ins i;omega
 rintro kvs M4 ⟨RD,rfl⟩;have RD:RDt t b X Y ws ins qs (qs.map D.ref).length kvs:=RD;rw[E6,npi]at RD;have hz4:(aw M3 p (dsM kvs)) z=some (.lst ((fO (2*ws.length) outs outs.length).map D.int)):=by rw[ar (np hz3)];exact hz3
 have to4:∀{a o},M1 a=some o->(aw M3 p (dsM kvs)) a=some o:=fun{a o} h=>by rw[ar (np (to3 h))];exact to3 h
 have hp4:(aw M3 p (dsM kvs)) p=some (dsM kvs):=aj
 have fp:M1 p=none:=by
  cases e:M1 p with
  |none=>rfl
  |some o=>rw[to3 e]at hp;cases hp
 generalize aw M3 p (dsM kvs)=M4 at hz4 to4 hp4 ⊢;refine⟨_,rfl,.inr ⟨p,kvs,rfl,hp4,fun p2 hp2=>?_⟩⟩
 have ek:kvs.map (fun x=>spD x.1)=(bU ws ins ins.length).map (gsp t b X Y):=by
  have:=congrArg (Hl spD) RD.ks
  rw[Hy,Hy]at this
  exact this
 have kb:∀c∈bU ws ins ins.length,B20 c:=fun c hc=>by
  obtain⟨j,_,hj,e⟩:=gZ hc
  rw[E7 hj]at e
  have A:=imem _ (G6 hj)
  rw[<-e]
  exact mI hU A.lt A.pos _ (E8 _)
 have kl:=gX ws ins ins.length;refine⟨p2,t,b,X,Y,bU ws ins ins.length,rfl,(by rw[aj,ek]),S,by omega,kb,ir ws ins _,fun M5 zc cs sb5 fzc hzc pm up=>?_⟩;have to5:∀{a o},M4 a=some o->M5 a=some o:=fun{a o} h=>sb5 _ _ (by rw[ar (aC h hp2)];exact h);have hz5:=to5 hz4;have hp5:=to5 hp4;have nzc:zc≠z:=fun e=>by subst e;rw[ar (aC hz4 hp2)]at fzc;rw[hz4]at fzc;cases fzc
 have npz:p≠z:=fun e=>by subst e;rw[hz3]at hp;cases hp
 refine⟨_,hzc,?_⟩;refine⟨fun i δ M'=>∃o6 o8 o9:Option D,δ=[some (.tup (ws.map (rwl t b X Y))),some (.ref lo),some (.ref li),some (.ref z),o4,o5,o6,some (.ref p),o8,o9]/\(∀c,c≠z->M' c=M5 c)/\M' z=some (.lst ((fS ws ins (fO (2*ws.length) outs outs.length) cs i).map D.int)),⟨_,_,_,rfl,fun _ _=>rfl,hz5⟩,fun i δ M' _ q=>by obtain⟨_,_,_,_,q,_⟩:=q;show M' zc=_;rw[q zc nzc];exact hzc,?_,?_⟩
 ·rintro i d δ M' hi' hd ⟨o6',o8,o9,rfl,kM,hz'⟩;have hi':i<cs.length:=by have:i<(cs.map (gsp t b X Y)).length:=hi';simpa using this
  have hd:(cs.map (gsp t b X Y))[i]?=some d:=hd;rw[E9,E7 hi']at hd;cases hd;have hck:=pm.mem_iff.mp (G6 hi');obtain⟨j,ej,hj,_⟩:=gZ hck;have hjq:j<qs.length:=by omega
  obtain⟨r,er,hqj⟩:=RI.get hjq;have A:=imem r (EZ er);have hq5:M5 qs[j]=some (.lst (r.map fun g:Nat=>D.int (g:Int))):=to5 (to4 hqj);have nqz:=nz hqj;have eS:fS ws ins (fO (2*ws.length) outs outs.length) cs (i+1)=fill (fS ws ins (fO (2*ws.length) outs outs.length) cs i) r (laF ws (fS ws ins (fO (2*ws.length) outs outs.length) cs i) cs[i]):=by rw[fS,E7 hi',Hk,ej,Hk,er,Hk]
  refine⟨_,rfl,_,rfl,_,rfl,t,b,X,Y,ws,z,fS ws ins (fO (2*ws.length) outs outs.length) cs i,cs[i],rfl,rfl,rfl,hz',by rw[qe,mM],S,hU,hF,hlen,kb _ hck,?_⟩;refine⟨_,rfl,_,rfl,p,kvs,gk t b X Y cs[i],.ref qs[j],rfl,qt ..,(by rw[kM p npz];exact hp5),(by rw[RD.vs,ej];show(qs[j]?).map D.ref=_;rw[E7 hjq];rfl),r.map (fun g:Nat=>D.int (g:Int)),(by show M' qs[j]=_;rw[kM _ nqz];exact hq5),?_⟩;refine⟨fun a δ M''=>∃o6:Option D,δ=[some (.tup (ws.map (rwl t b X Y))),some (.ref lo),some (.ref li),some (.ref z),o4,o5,o6,some (.ref p),some (gsp t b X Y cs[i]),some (.int (laF ws (fS ws ins (fO (2*ws.length) outs outs.length) cs i) cs[i]))]/\(∀c,c≠z->M'' c=M5 c)/\M'' z=some (.lst ((gG (fS ws ins (fO (2*ws.length) outs outs.length) cs i) r (laF ws (fS ws ins (fO (2*ws.length) outs outs.length) cs i) cs[i]) a).map D.int)),⟨_,rfl,kM,hz'⟩,fun a δ M'' _ q=>by obtain⟨_,_,q,_⟩:=q;show M'' qs[j]=_;rw[q _ nqz];exact hq5,?_,?_⟩
  ·rintro a d δ M'' ha hd ⟨o6,rfl,kM',hz''⟩;have ha:a<r.length:=by have:a<(r.map fun g:Nat=>D.int (g:Int)).length:=ha;simpa using this
   have hd:(r.map fun g:Nat=>D.int (g:Int))[a]?=some d:=hd;rw[E9,E7 ha]at hd;cases hd;refine⟨_,rfl,_,rfl,_,rfl,_,r[a],hz'',qJ (by rw[E6,eZ,qe,mM];exact A.lt _ (G6 ha)),?_⟩;exact⟨_,rfl,fun c hc=>by rw[ar hc];exact kM' c hc,by rw[aj,jO (E7 ha),List.map_set]⟩
  ·rintro δ M'' ⟨o6,rfl,kM',hz''⟩;have hz'':M'' z=some (.lst ((gG (fS ws ins (fO (2*ws.length) outs outs.length) cs i) r (laF ws (fS ws ins (fO (2*ws.length) outs outs.length) cs i) cs[i]) (r.map fun g:Nat=>D.int (g:Int)).length).map D.int)):=hz'';rw[E6]at hz'';exact⟨_,_,_,rfl,kM',by rw[hz'',eS];rfl⟩
 ·rintro δ M' ⟨o6',o8,o9,rfl,kM,hz'⟩;have hz':M' z=some (.lst ((fS ws ins (fO (2*ws.length) outs outs.length) cs (cs.map (gsp t b X Y)).length).map D.int)):=hz';rw[E6]at hz';refine⟨_,rfl,rtn (k M' z _ (fun a o h=>?_) fz hz' ⟨rs,cs,R,by rw[eins];exact pm,up,by rw[eins,eouts]⟩)⟩;have h1:=sb1 _ _ h;rw[kM a (nz h1)];exact to5 (to4 h1)
theorem iH:FnScope ["plot","spot"] ["plot","spot"] (ao eA):=by walk_at "sc"
inductive Cn_look_plainly(x s:D)(M:MH)(Q:DK):Prop
 |mk (t b X Y:Int) (ws:List Wl) (d:D) (_:x=.tup (ws.map (rwl t b X Y))) (_:Scl t b X Y) (_:ws.length<=40) (_:(∀w∈ws,Un5 w)) (_:PF ws) (_:Told t b X Y ws s d) (_:∀M',SD.Sub M M'->Q d M')
theorem eM(T:Tx K mg):Cal P w K mg base 10 "look_plainly" (sD2 Cn_look_plainly):=by refine bg (k:=9) T.f_look_plainly iH fun f cdv A outer s H E hr=>⟨_,(aq (az (ak (gi T).m hr (aa (dv 0) (aa (ak (g8 T).m hr (aa (dv 0) af)) (aa (dv 1) af)))))),fun _ _ M Q h=>?_⟩;obtain⟨t,b,X,Y,ws,d,rfl,S,hn,hU,hF,Td,k⟩:=h;refine⟨_,rfl,_,rfl,t,b,X,Y,ws,rfl,S,hn,hU,hF,fun M1 z L sb nz hz il=>?_⟩;exact⟨_,rfl,t,b,X,Y,ws,d,rfl,S,hn,hU,hF,Td,fun M' s'=>rtn (k M' (SD.Sub.trans sb s'))⟩
theorem bY:FnScope ["_law_scale_here","_law_told_here","_law_top","_law_bottom","_law_x","_law_y","_law_many"] ["_law_scale_here","_law_told_here"] (ao iY):=by walk_at "sc"
inductive Cn_law_real(s v:D)(M:MH)(Q:DK):Prop
 |mk (t b x y p q m:Int) (_:s=scl t b x y) (_:v=.tup [.int p,.int q,.int m]) (_:Scl t b x y) (_:(-(10^6)<=p/\p<=10^6)) (_:(-(10^6)<=q/\q<=10^6)) (_:(0<m/\m<=10^6)) (_:Q (Ma.spt (Ma.ut t b x m p) (Ma.ut t b y m q)) M)
theorem jb(T:Tx K mg):Cal P w K mg base 2 "_law_real" (sD2 Cn_law_real):=by
 refine bg (k:=1) T.f_law_real bY fun f cdv A outer s H E hr=>⟨_,(ai (bR (dv 0) (bj rfl (ay (ax 2 bY.nd) (ay (ax 3 bY.nd) (ay (ax 4 bY.nd) (ay (ax 5 bY.nd) aR)))))) (ai (aA 6 bY.nd (au (dv 1) ag)) (aq (az (aG (aa (ak (eY T).m hr (aa (av aU (av aD (au (dv 1) ag) (dv 2)) (av aD (dv 4) (dv 6))) (aa (av aD (dv 3) (dv 6)) af))) (aa (ak (eY T).m hr (aa (av aU (av aD (au (dv 1) ag) (dv 2)) (av aD (dv 5) (dv 6))) (aa (av aD (dv 3) (dv 6)) af))) af))))))),fun _ _ M Q h=>?_⟩;obtain⟨t,b,x,y,p,q,m,rfl,rfl,S,hp,hq,hm,k⟩:=h;have bt:Bd 100 t:=by have:=S.t0;have:=S.t1;show t.natAbs<2^100;omega
 have bm:Bd 64 m:=by show m.natAbs<2^64;omega
 have bp:∀{z:Int},(-(10^6)<=z/\z<=10^6)->Bd 64 z:=fun{z} h=>by show z.natAbs<2^64;omega
 have bb:Bd 100 b:=by have:=S.b0;have:=S.b1;show b.natAbs<2^100;omega
 have big:∀{z w:Int},(-(10^6)<=z/\z<=10^6)->(-(10^30)<=w/\w<=10^30)->Bd 8000 (z*t+w*m):=fun{z w} h1 h2=>by
  have e1:Bd 200 (z*t):=((bp h1).mul bt).mono (by decide)
  have e2:Bd 200 (w*m):=(Bd.mul (m:=100) (n:=64) (by show w.natAbs<2^100;omega) bm).mono (by decide)
  exact(e1.add e2).mono (by decide)
 have hb0:b*m≠0:=by have:=Fj S.b0 hm.1;omega
 have bbm:Bd 8000 (b*m):=(bb.mul bm).mono (by decide);refine⟨_,rfl,_,rfl,rfl,_,_,rfl,_,_,rfl,_,_,rfl,_,_,rfl,rfl,?_⟩;refine⟨_,rfl,_,rfl,?_⟩;refine⟨_,rfl,_,rfl,_,rfl,aS (bp hp),_,rfl,_,rfl,cx bm,_,rfl,_,rfl,cx bm,p*t+x*m,b*m,rfl,rfl,hb0,big hp ⟨S.x0,S.x1⟩,bbm,?_⟩;refine⟨_,rfl,_,rfl,_,rfl,aS (bp hq),_,rfl,_,rfl,cx bm,_,rfl,_,rfl,cx bm,q*t+y*m,b*m,rfl,rfl,hb0,big hq ⟨S.y0,S.y1⟩,bbm,nbL rfl,?_⟩;exact rtn k
theorem dz:FnScope ["_law_script","_law_k","_law_row","_law_scale_here","_law_shuts","_law_plot","_law_turn_here","_law_told_here","_law_due","_law_found"] ["_law_script"] (ao zI):=by walk_at "sc"
inductive Cn_law(x:D)(M:MH)(Q:DK):Prop
 |mk (ns:_) (hh0:x=.rol (Hl D.int ns)) (hh1:ns.length<=63) (hh2:∀M',Q (.bl true) M'):Cn_law x M Q
def ik:SpD:=fun ds M Q=>match ds with
 |[x]=>Cn_law x M Q
 |_=>False
theorem AH:∀ds M Q,ik ds M Q->ds.length=1:=fun ds M Q h=>by
 unfold ik at h;split at h
 ·rfl
 ·exact h.elim
theorem D5{P:F8}{w:Fy}{K:E2}{mg:Str->Option E1}{fa:Addr}(T:Tx K mg)(hfa:mg "law"=some (.ref fa)):∃fd,(∀(s:E3) (u:E1),BindsTo s fd ⟨[u],[]⟩ [("_law_script",u)])/\∀base:Heap,FnOk P w K mg base CX0 11 fa fd ["_law_script"] (fV K ik):=by
 refine EC (k:=10) (N:=["_law_script","_law_k","_law_row","_law_scale_here","_law_shuts","_law_plot","_law_turn_here","_law_told_here","_law_due","_law_found"]) T.f_law hfa dz (fun _ _ _ _ _ _ us hl=>by obtain⟨_,rfl⟩:=SD.BB hl;rfl) AH fun base f cdv A outer s H E hr=>⟨_,(ai (gw Ft rfl rfl T.b_range (aa (aI (rS rfl hr.units) rfl T.b_max tX (aa ag (aa (aI (mH rfl hr.units) rfl T.b_min pL (aa ag (aa (aI dR rfl T.b_len dW (aa (dv 0) af)) af))) af))) af) (ax 1 dz.nd) (ai (aA 2 dz.nd (cF (aa (ak (kh T).m hr (aa (dv 0) (aa (dv 1) af))) (aa ag af)))) (ai (aA 3 dz.nd (ak (m4 T).m hr (aa (dv 2) af))) (ai (aA 4 dz.nd (ak (gS T).m hr (aa (dv 2) (aa ag (aa ag af))))) (ai (aA 5 dz.nd (ak (jH T).m hr (aa (dv 3) (aa (dv 4) af)))) (aq (gw Ft rfl rfl T.b_range (aa (aI (mH rfl hr.units) rfl T.b_min pL (aa ag (aa (av aD ag (aI dR rfl T.b_len dW (aa (dv 4) af))) af))) af) (ax 6 dz.nd) (ai (bR (ak (pW T).m hr (aa (dv 2) (aa (dv 4) af))) (bj rfl (ay (ax 7 dz.nd) (ay (ax 8 dz.nd) aR)))) (ai (aA 9 dz.nd (ak (eM T).m hr (aa (dv 5) (aa (ak (jb T).m hr (aa (dv 3) (aa (dv 7) af))) af)))) (ai (bo (lU (nM (t6 (cH (aI lI rfl T.b_isinstance fv (aa (dv 9) (aa (zk rfl T.b_tuple nW) af))))) (nM (aH (fH hr.units) (dv 9) (dv 8)) (mF (cH (aI lI rfl T.b_isinstance fv (aa (au (dv 9) ag) (aa (zk rfl T.b_bool yD) af)))))))) (aq (az iB)) aL) (aq (bo (lU (nM (aH (fH hr.units) (ak (eM T).m hr (aa (dv 5) (aa (ak (jb T).m hr (aa (dv 3) (aa (dv 7) af))) af))) (dv 8)) (mF (aH (fH hr.units) (dv 5) (ak (jH T).m hr (aa (dv 3) (aa (dv 4) af))))))) (aq (az iB)) aL)))))))))))) (aq (az iB))),fun ds M Q h=>?r⟩
 case r=>
  unfold ik at h
  split at h
  case h_2=>exact h.elim
  obtain⟨ns,rfl,hl,k⟩:=h
  refine⟨_,rfl,(max 1 (min 4 (((Hl D.int ns).length:Nat):Int))).toNat,?_,by omega,fun i δ M=>∃o1 o2 o3 o4 o5 o6 o7 o8 o9,δ=[some (.rol (Hl D.int ns)),o1,o2,o3,o4,o5,o6,o7,o8,o9],⟨_,_,_,_,_,_,_,_,_,rfl⟩,?_,fun _ _ _=>rtn (k _)⟩
  ·rw[Int.toNat_of_nonneg (by omega)]
  rintro i δ M hi ⟨o1,o2,o3,o4,o5,o6,o7,o8,o9,rfl⟩
  refine⟨_,rfl,_,rfl,ns,i,rfl,rfl,by omega,fun z=>⟨nbL rfl,fun row hrow=>?_⟩⟩
  refine⟨_,rfl,row,z,0,rfl,aj,by decide,by decide,fun x1 c1 t b sx sy S h1 h2=>?_⟩
  refine⟨_,rfl,row,x1,c1,9,rfl,rfl,by decide,rfl,aj,h1,by omega,fun M2 x2 c2 l ws nrl hr2 hl2 g0 g1 g2 g3 g4=>?_⟩
  have hW:∀w∈ws,Uok (10^6) w:=fun w hw=>by
   have h:=g3 w hw
   have U:∀z:Int,(0<=z/\z<=20)->(-(10^6)<=z/\z<=10^6):=fun z h=>by omega
   exact⟨U _ h.a,U _ h.b,U _ h.c,U _ h.d⟩
  refine⟨_,rfl,_,rfl,t,b,sx,sy,l,ws,rfl,rfl,hl2,S,by omega,hW,?_⟩
  refine⟨_,rfl,_,hl2,aS (cm (by decide)),(min 5 (5*(((ws.map uw).length:Nat):Int))).toNat,?_,by omega,fun j δ M'=>∃(x c:Int) (o6 o7 o8 o9:Option D),δ=[some (.rol (Hl D.int ns)),some (.int (i:Int)),some (.ref row),some (scl t b sx sy),some (.ref l),some (.tup (ws.map (rwl t b sx sy))),o6,o7,o8,o9]/\M' row=some (.lst [.int x,.int c])/\0<=c/\c<=1000+3*(j:Int)/\M' l=some (.lst (ws.map uw)),⟨x2,c2,_,_,_,_,rfl,hr2,g0,by omega,hl2⟩,?_,fun δ M' q=>by obtain⟨_,_,_,_,_,_,rfl,_⟩:=q;exact⟨_,_,_,_,_,_,_,_,_,rfl⟩⟩
  ·rw[Int.toNat_of_nonneg (by omega)]
  rintro j δ M' hj ⟨x,c,o6,o7,o8,o9,rfl,hr,c0,c1',hl⟩
  have hpos:0<ws.length:=by rw[E6]at hj;omega
  refine⟨_,rfl,_,rfl,row,l,x,c,ws,rfl,rfl,nrl,hr,c0,by omega,hl,g3,hpos,by omega,fun x3 c3 m p w q n e0 e1 hw m1 m6 p0 pm hq Td=>?_⟩
  have Td:=Td t b sx sy S.t0 S.b0
  have w5:=g3 w hw
  have bix:-(10^6)<=ix w m p/\ix w m p<=10^6:=gb w5.a w5.c p0 pm m6
  have biy:-(10^6)<=iy w m p/\iy w m p<=10^6:=gb w5.b w5.d p0 pm m6
  have hl3:(aw M' row (.lst [.int x3,.int c3])) l=some (.lst (ws.map uw)):=by rw[ar nrl.symm];exact hl
  have hr3:(aw M' row (.lst [.int x3,.int c3])) row=some (.lst [.int x3,.int c3]):=aj
  generalize aw M' row (.lst [.int x3,.int c3])=M3 at hl3 hr3 ⊢
  refine⟨_,rfl,rfl,_,_,rfl,_,_,rfl,rfl,?_⟩
  refine⟨_,rfl,_,rfl,_,rfl,t,b,sx,sy,_,_,m,rfl,rfl,S,bix,biy,by omega,?_⟩
  refine⟨t,b,sx,sy,ws,_,rfl,S,by omega,g3,g4,Td,fun M4 sb4=>?_⟩
  (try dsimp only[SD.d6,SD.cK,SD.bc,SD.eJ,SD.eQ,SD.cn,SD.cT,SD.tBD,SD.eL])
  refine orT false false (fun K hK=>⟨_,rfl,"tuple",true,rfl,rfl,_,rfl,hK⟩) (fun _ K hK=>orT false false (fun K hK=>⟨_,rfl,_,rfl,rK hq ⟨_,rfl,hK⟩⟩) (fun _ K hK=>⟨_,rfl,_,rfl,"int",false,rfl,rfl,_,rfl,hK⟩) hK) ?_
  refine iF rfl ?_
  (try dsimp only[SD.d6,SD.cK,SD.bc,SD.eJ,SD.eQ,SD.cn,SD.cT,SD.tBD,SD.eL])
  refine⟨_,rfl,_,rfl,_,rfl,t,b,sx,sy,_,_,m,rfl,rfl,S,bix,biy,by omega,?_⟩
  refine⟨t,b,sx,sy,ws,_,rfl,S,by omega,g3,g4,Td,fun M5 sb5=>?_⟩
  refine⟨_,rfl,rK hq ⟨_,rfl,iF rfl ?_⟩⟩
  refine⟨_,rfl,_,rfl,_,rfl,t,b,sx,sy,l,ws,rfl,rfl,sb5 _ _ (sb4 _ _ hl3),S,by omega,hW,?_⟩
  refine⟨.tuple (ws.map (rwP t b sx sy)),.tuple (ws.map (rwP t b sx sy)),.tup (oX t b sx sy ws),.tup (oX t b sx sy ws),k7 _ _ _ _ _,k7 _ _ _ _ _,_,rfl,?_⟩
  rw[xQ]
  exact iF rfl ⟨x3,c3,_,_,_,_,rfl,sb5 _ _ (sb4 _ _ hr3),e0,by omega,sb5 _ _ (sb4 _ _ hl3)⟩
theorem Bx(ns:List Int)(M:MH)(h:ns.length<=63):ik [.rol (ns.map D.int)] M (fun d _=>d=.bl true):=⟨ns,rfl,h,fun _=>rfl⟩
def kE(P:Fz)(n:String)(k:Nat)(v:E1):Gr:={ hash:=PyData.keyHash P (Gz n),key:=.str (Gz n) k,val:=v }
def kF(i:Nat)(n m:String)(k c:Nat):Obj:={ cls:=.type "function",data:=.func { name:=Gz n,qualname:=Gz n,params:=bO (top i),body:=.stmts (aQ (top i)),scope:=ao (top i),globals:=↑3,closure:=[],defaults:=.none,kwdefaults:=.none,pyModule:=.str (Gz m) k,code:=.ref c } }
def kD0(P:Fz):List Gr:=[kE P "__name__" ↑165 (.str "law_spotlook_k24_corners_and_walls_looked_at" 570),kE P "__doc__" ↑166 (.none),kE P "__package__" ↑167 (.none),kE P "__loader__" ↑168 (.builtin "__main__.__loader__#opaque"),kE P "__spec__" ↑169 (.none),kE P "__annotations__" ↑170 (.ref ↑6),kE P "__builtins__" ↑171 (.ref ↑4),kE P "__file__" ↑173 (.str "/claim/cut.py" 172)]
def kD1(P:Fz):List Gr:=[kE P "__cached__" ↑174 (.none),kE P "SpotError" ↑206 (.ref ↑24),kE P "NoFraction" ↑222 (.ref ↑37),kE P "greatest_divisor" ↑232 (.ref ↑46),kE P "fraction" ↑241 (.ref ↑53),kE P "is_less" ↑249 (.ref ↑60),kE P "common_bottom" ↑258 (.ref ↑67),kE P "top_over" ↑266 (.ref ↑74)]
def kD2(P:Fz):List Gr:=[kE P "is_ahead" ↑276 (.ref ↑81),kE P "later_of" ↑284 (.ref ↑88),kE P "earlier_of" ↑292 (.ref ↑95),kE P "place_among" ↑303 (.ref ↑102),kE P "ahead_first" ↑312 (.ref ↑109),kE P "own_spot" ↑321 (.ref ↑116),kE P "own_wall" ↑328 (.ref ↑123),kE P "gap" ↑336 (.ref ↑130)]
def kD3(P:Fz):List Gr:=[kE P "lean" ↑354 (.ref ↑137),kE P "side_of" ↑363 (.ref ↑144),kE P "lies_on" ↑373 (.ref ↑151),kE P "spans" ↑383 (.ref ↑158),kE P "is_above" ↑395 (.ref ↑165),kE P "upper_of" ↑404 (.ref ↑172),kE P "upper_below" ↑410 (.ref ↑177),kE P "face_ends" ↑422 (.ref ↑184)]
def kD4(P:Fz):List Gr:=[kE P "faces_by_start" ↑431 (.ref ↑191),kE P "is_met_sooner" ↑443 (.ref ↑198),kE P "face_behind" ↑457 (.ref ↑205),kE P "ring_from" ↑468 (.ref ↑212),kE P "rings_of" ↑481 (.ref ↑219),kE P "twice_area" ↑487 (.ref ↑224),kE P "outer_and_inner" ↑499 (.ref ↑231),kE P "first_corner" ↑509 (.ref ↑238)]
def kD5(P:Fz):List Gr:=[kE P "land_about" ↑519 (.ref ↑245),kE P "lands_of_faces" ↑525 (.ref ↑250),kE P "corners_of" ↑537 (.ref ↑257),kE P "wall_below" ↑548 (.ref ↑264),kE P "look_plainly" ↑556 (.ref ↑271),kE P "look_with_lands" ↑569 (.ref ↑278),kE P "_law_cell_at" ↑579 (.ref ↑285),kE P "_law_take" ↑589 (.ref ↑292)]
def kD6(P:Fz):List Gr:=[kE P "_law_low" ↑599 (.ref ↑299),kE P "_law_scale" ↑609 (.ref ↑306),kE P "_law_spot" ↑621 (.ref ↑313),kE P "_law_made" ↑627 (.ref ↑318),kE P "_law_turn" ↑639 (.ref ↑325),kE P "_law_on" ↑647 (.ref ↑332),kE P "_law_fair" ↑653 (.ref ↑337),kE P "_law_shuts_here" ↑659 (.ref ↑342)]
def kD7(P:Fz):List Gr:=[kE P "_law_told" ↑665 (.ref ↑347),kE P "_law_real" ↑678 (.ref ↑354),kE P "law" ↑694 (.ref ↑361)]
def kG(P:Fz):Obj:={ cls:=.type "dict",data:=.dict (Gk (kD0 P++(kD1 P++(kD2 P++(kD3 P++(kD4 P++(kD5 P++(kD6 P++(kD7 P))))))))) 59 }
def kCo(n:String)(a0:Nat)(a1:Nat)(a2:Nat)(a3:Nat)(a4:Nat)(a8:Nat)(a11:Nat)(a13:Nat)(a14:Nat)(a15:Nat)(a16:Nat)(a17:Nat)(a18:Nat):Obj:={ cls:=.type "code",data:=.fields #[.str (Gz n) a0,.str (Gz n) a1,.str "/claim/cut.py" a2,.int (Iu a3) 0,.int (Iu a4) 0,.int 0 0,.int 0 0,.int 3 0,.ref a8,.bool true,.int 181 0,.ref a11,.none,.ref a13,.ref a14,.ref a15,.int (Iu a16) 0,.int (Iu a17) 0,.str "/claim/cut.py" a18] }
def kN(l:List Obj)(i:Nat):Obj:=l.getD i { cls:=.none,data:=.dict #[] }
def zzD(n q:Str)(a b c l k f r:Nat)(t:Bool)(s:Nat)(x y z:E1)(d e:Nat):Obj:={ cls:=.type "code",data:=.fields #[.str n a,.str q b,.str "/claim/cut.py" c,.int l 0,.int k 0,.int 0 0,.int 0 0,.int f 0,.ref r,.bool t,.int 181 0,.ref s,.none,x,y,z,.int d 0,.int l 0,.str "/claim/cut.py" e] }
def zzK(n:Str)(s g a i j:Nat):Obj:={ cls:=.type "type",data:=.cls { name:=n,bases:=[.ref 24],mro:=[.ref s,.ref 24,.type "ValueError",.type "Exception",.type "BaseException",.type "object"],ns:=g,qualname:=n,hasDict:=true,slotNames:=[],subclasses:=[],abstract:=false,collection:=none,hasDel:=false },slots:=#[some (.ref a),none,some (.str n i),some (.str n j),some (.builtin "ValueError.__new__"),some (.bool true)] }
def zzR(n:Str)(s g a i j:Nat):Obj:={ cls:=.type "type",data:=.cls { name:=n,bases:=[.ref ↑24],mro:=[.ref s,.ref ↑24,.type "ValueError",.type "Exception",.type "BaseException",.type "object"],ns:=g,qualname:=n,hasDict:=true,slotNames:=[],subclasses:=[],abstract:=false,collection:=none,hasDel:=false },slots:=#[some (.ref a),none,some (.str n i),some (.str n j),some (.builtin "ValueError.__new__"),some (.bool true)] }
def zzN:E1:=.str "law_spotlook_k24_corners_and_walls_looked_at" 570
def zzF(i:Nat)(n:String)(c:Nat):Obj:=kF i n "law_spotlook_k24_corners_and_walls_looked_at" ↑570 c
def kL0:List Obj:=[kCo "greatest_divisor" ↑225 ↑226 ↑227 ↑7 ↑2 ↑40 ↑41 ↑42 ↑43 ↑44 ↑230 ↑7 ↑231,kF ↑4 "greatest_divisor" "spotlook.fractions" ↑223 ↑45,kCo "fraction" ↑233 ↑234 ↑235 ↑11 ↑2 ↑47 ↑48 ↑49 ↑50 ↑51 ↑239 ↑11 ↑240,kF ↑5 "fraction" "spotlook.fractions" ↑223 ↑52,kCo "is_less" ↑242 ↑243 ↑244 ↑18 ↑2 ↑54 ↑55 ↑56 ↑57 ↑58 ↑247 ↑18 ↑248,kF ↑6 "is_less" "spotlook.fractions" ↑223 ↑59,kCo "common_bottom" ↑250 ↑251 ↑252 ↑20 ↑1 ↑61 ↑62 ↑63 ↑64 ↑65 ↑256 ↑20 ↑257,kF ↑7 "common_bottom" "spotlook.fractions" ↑223 ↑66]
def kL1:List Obj:=[kCo "top_over" ↑259 ↑260 ↑261 ↑25 ↑2 ↑68 ↑69 ↑70 ↑71 ↑72 ↑264 ↑25 ↑265,kF ↑8 "top_over" "spotlook.fractions" ↑223 ↑73,kCo "is_ahead" ↑269 ↑270 ↑271 ↑28 ↑2 ↑75 ↑76 ↑77 ↑78 ↑79 ↑274 ↑28 ↑275,kF ↑10 "is_ahead" "spotlook.spots" ↑267 ↑80,kCo "later_of" ↑277 ↑278 ↑279 ↑32 ↑2 ↑82 ↑83 ↑84 ↑85 ↑86 ↑282 ↑32 ↑283,kF ↑11 "later_of" "spotlook.spots" ↑267 ↑87,kCo "earlier_of" ↑285 ↑286 ↑287 ↑34 ↑2 ↑89 ↑90 ↑91 ↑92 ↑93 ↑290 ↑34 ↑291,kF ↑12 "earlier_of" "spotlook.spots" ↑267 ↑94]
def kL2:List Obj:=[kCo "place_among" ↑293 ↑294 ↑295 ↑36 ↑2 ↑96 ↑97 ↑98 ↑99 ↑100 ↑301 ↑36 ↑302,kF ↑13 "place_among" "spotlook.spots" ↑267 ↑101,kCo "ahead_first" ↑304 ↑305 ↑306 ↑45 ↑1 ↑103 ↑104 ↑105 ↑106 ↑107 ↑310 ↑45 ↑311,kF ↑14 "ahead_first" "spotlook.spots" ↑267 ↑108,kCo "own_spot" ↑313 ↑314 ↑315 ↑50 ↑1 ↑110 ↑111 ↑112 ↑113 ↑114 ↑319 ↑50 ↑320,kF ↑15 "own_spot" "spotlook.spots" ↑267 ↑115,kCo "own_wall" ↑322 ↑323 ↑324 ↑53 ↑1 ↑117 ↑118 ↑119 ↑120 ↑121 ↑326 ↑53 ↑327,kF ↑16 "own_wall" "spotlook.spots" ↑267 ↑122]
def kL3:List Obj:=[kCo "gap" ↑329 ↑330 ↑331 ↑55 ↑2 ↑124 ↑125 ↑126 ↑127 ↑128 ↑334 ↑55 ↑335,kF ↑17 "gap" "spotlook.spots" ↑267 ↑129,kCo "lean" ↑337 ↑338 ↑339 ↑57 ↑2 ↑131 ↑132 ↑133 ↑134 ↑135 ↑352 ↑57 ↑353,kF ↑18 "lean" "spotlook.spots" ↑267 ↑136,kCo "side_of" ↑355 ↑356 ↑357 ↑63 ↑2 ↑138 ↑139 ↑140 ↑141 ↑142 ↑361 ↑63 ↑362,kF ↑19 "side_of" "spotlook.spots" ↑267 ↑143,kCo "lies_on" ↑364 ↑365 ↑366 ↑70 ↑2 ↑145 ↑146 ↑147 ↑148 ↑149 ↑371 ↑70 ↑372,kF ↑20 "lies_on" "spotlook.spots" ↑267 ↑150]
def kL4:List Obj:=[kCo "spans" ↑376 ↑377 ↑378 ↑74 ↑2 ↑152 ↑153 ↑154 ↑155 ↑156 ↑381 ↑74 ↑382,kF ↑22 "spans" "spotlook.above" ↑374 ↑157,kCo "is_above" ↑384 ↑385 ↑386 ↑76 ↑2 ↑159 ↑160 ↑161 ↑162 ↑163 ↑393 ↑76 ↑394,kF ↑23 "is_above" "spotlook.above" ↑374 ↑164,kCo "upper_of" ↑396 ↑397 ↑398 ↑84 ↑1 ↑166 ↑167 ↑168 ↑169 ↑170 ↑402 ↑84 ↑403,kF ↑24 "upper_of" "spotlook.above" ↑374 ↑171,(zzD "upper_below" "upper_below" 405 406 407 90 2 3 173 true 174 .none .none (.ref 175) 408 409),kF ↑25 "upper_below" "spotlook.above" ↑374 ↑176]
def kL5:List Obj:=[kCo "face_ends" ↑413 ↑414 ↑415 ↑94 ↑2 ↑178 ↑179 ↑180 ↑181 ↑182 ↑420 ↑94 ↑421,kF ↑27 "face_ends" "spotlook.rings" ↑411 ↑183,kCo "faces_by_start" ↑423 ↑424 ↑425 ↑97 ↑1 ↑185 ↑186 ↑187 ↑188 ↑189 ↑429 ↑97 ↑430,kF ↑28 "faces_by_start" "spotlook.rings" ↑411 ↑190,kCo "is_met_sooner" ↑432 ↑433 ↑434 ↑102 ↑4 ↑192 ↑193 ↑194 ↑195 ↑196 ↑441 ↑102 ↑442,kF ↑29 "is_met_sooner" "spotlook.rings" ↑411 ↑197,kCo "face_behind" ↑444 ↑445 ↑446 ↑108 ↑3 ↑199 ↑200 ↑201 ↑202 ↑203 ↑455 ↑108 ↑456,kF ↑30 "face_behind" "spotlook.rings" ↑411 ↑204]
def kL6:List Obj:=[kCo "ring_from" ↑458 ↑459 ↑460 ↑116 ↑3 ↑206 ↑207 ↑208 ↑209 ↑210 ↑466 ↑116 ↑467,kF ↑31 "ring_from" "spotlook.rings" ↑411 ↑211,kCo "rings_of" ↑469 ↑470 ↑471 ↑123 ↑1 ↑213 ↑214 ↑215 ↑216 ↑217 ↑479 ↑123 ↑480,kF ↑32 "rings_of" "spotlook.rings" ↑411 ↑218,(zzD "twice_area" "twice_area" 482 483 484 134 2 3 220 true 221 .none .none (.ref 222) 485 486),kF ↑33 "twice_area" "spotlook.rings" ↑411 ↑223,kCo "outer_and_inner" ↑490 ↑491 ↑492 ↑144 ↑1 ↑225 ↑226 ↑227 ↑228 ↑229 ↑497 ↑144 ↑498,kF ↑35 "outer_and_inner" "spotlook.lands" ↑488 ↑230]
def kL7:List Obj:=[kCo "first_corner" ↑500 ↑501 ↑502 ↑152 ↑2 ↑232 ↑233 ↑234 ↑235 ↑236 ↑507 ↑152 ↑508,kF ↑36 "first_corner" "spotlook.lands" ↑488 ↑237,kCo "land_about" ↑510 ↑511 ↑512 ↑157 ↑3 ↑239 ↑240 ↑241 ↑242 ↑243 ↑517 ↑157 ↑518,kF ↑37 "land_about" "spotlook.lands" ↑488 ↑244,(zzD "lands_of_faces" "lands_of_faces" 520 521 522 160 1 3 246 true 247 .none .none (.ref 248) 523 524),kF ↑38 "lands_of_faces" "spotlook.lands" ↑488 ↑249,kCo "corners_of" ↑528 ↑529 ↑530 ↑173 ↑1 ↑251 ↑252 ↑253 ↑254 ↑255 ↑535 ↑173 ↑536,kF ↑40 "corners_of" "spotlook.plots" ↑526 ↑256]
def kL8:List Obj:=[kCo "wall_below" ↑540 ↑541 ↑542 ↑180 ↑2 ↑258 ↑259 ↑260 ↑261 ↑262 ↑546 ↑180 ↑547,kF ↑42 "wall_below" "spotlook.plain" ↑538 ↑263,kCo "look_plainly" ↑549 ↑550 ↑551 ↑183 ↑2 ↑265 ↑266 ↑267 ↑268 ↑269 ↑554 ↑183 ↑555,kF ↑43 "look_plainly" "spotlook.plain" ↑538 ↑270,kCo "look_with_lands" ↑557 ↑558 ↑559 ↑185 ↑3 ↑272 ↑273 ↑274 ↑275 ↑276 ↑567 ↑185 ↑568,kF ↑44 "look_with_lands" "spotlook.plain" ↑538 ↑277,kCo "_law_cell_at" ↑572 ↑573 ↑574 ↑195 ↑2 ↑279 ↑280 ↑281 ↑282 ↑283 ↑577 ↑195 ↑578,zzF ↑46 "_law_cell_at" ↑284]
def kL9:List Obj:=[kCo "_law_take" ↑580 ↑581 ↑582 ↑199 ↑2 ↑286 ↑287 ↑288 ↑289 ↑290 ↑587 ↑199 ↑588,zzF ↑47 "_law_take" ↑291,kCo "_law_low" ↑590 ↑591 ↑592 ↑208 ↑2 ↑293 ↑294 ↑295 ↑296 ↑297 ↑597 ↑208 ↑598,zzF ↑48 "_law_low" ↑298,kCo "_law_scale" ↑600 ↑601 ↑602 ↑216 ↑1 ↑300 ↑301 ↑302 ↑303 ↑304 ↑607 ↑216 ↑608,zzF ↑49 "_law_scale" ↑305,kCo "_law_spot" ↑610 ↑611 ↑612 ↑222 ↑2 ↑307 ↑308 ↑309 ↑310 ↑311 ↑619 ↑222 ↑620,zzF ↑50 "_law_spot" ↑312]
def kL10:List Obj:=[(zzD "_law_made" "_law_made" 622 623 624 225 2 3 314 true 315 .none .none (.ref 316) 625 626),zzF ↑51 "_law_made" ↑317,kCo "_law_turn" ↑628 ↑629 ↑630 ↑227 ↑3 ↑319 ↑320 ↑321 ↑322 ↑323 ↑637 ↑227 ↑638,zzF ↑52 "_law_turn" ↑324,kCo "_law_on" ↑640 ↑641 ↑642 ↑232 ↑2 ↑326 ↑327 ↑328 ↑329 ↑330 ↑645 ↑232 ↑646,zzF ↑53 "_law_on" ↑331,(zzD "_law_fair" "_law_fair" 648 649 650 234 2 3 333 true 334 .none .none (.ref 335) 651 652),zzF ↑54 "_law_fair" ↑336]
def kL11:List Obj:=[(zzD "_law_shuts_here" "_law_shuts_here" 654 655 656 244 3 3 338 true 339 .none .none (.ref 340) 657 658),zzF ↑55 "_law_shuts_here" ↑341,(zzD "_law_told" "_law_told" 660 661 662 255 2 3 343 true 344 .none .none (.ref 345) 663 664),zzF ↑56 "_law_told" ↑346,kCo "_law_real" ↑666 ↑667 ↑668 ↑266 ↑2 ↑348 ↑349 ↑350 ↑351 ↑352 ↑676 ↑266 ↑677,zzF ↑57 "_law_real" ↑353,kCo "law" ↑679 ↑680 ↑681 ↑270 ↑1 ↑355 ↑356 ↑357 ↑358 ↑359 ↑692 ↑270 ↑693,zzF ↑58 "law" ↑360]
def kK:Fz->E2:=fun P=>(↑3,kG P)::(↑45,kN kL0 ↑0)::(↑46,kN kL0 ↑1)::(↑52,kN kL0 ↑2)::(↑53,kN kL0 ↑3)::(↑59,kN kL0 ↑4)::(↑60,kN kL0 ↑5)::(↑66,kN kL0 ↑6)::(↑67,kN kL0 ↑7)::(↑73,kN kL1 ↑0)::(↑74,kN kL1 ↑1)::(↑80,kN kL1 ↑2)::(↑81,kN kL1 ↑3)::(↑87,kN kL1 ↑4)::(↑88,kN kL1 ↑5)::(↑94,kN kL1 ↑6)::(↑95,kN kL1 ↑7)::(↑101,kN kL2 ↑0)::(↑102,kN kL2 ↑1)::(↑108,kN kL2 ↑2)::(↑109,kN kL2 ↑3)::(↑115,kN kL2 ↑4)::(↑116,kN kL2 ↑5)::(↑122,kN kL2 ↑6)::(↑123,kN kL2 ↑7)::(↑129,kN kL3 ↑0)::(↑130,kN kL3 ↑1)::(↑136,kN kL3 ↑2)::(↑137,kN kL3 ↑3)::(↑143,kN kL3 ↑4)::(↑144,kN kL3 ↑5)::(↑150,kN kL3 ↑6)::(↑151,kN kL3 ↑7)::(↑157,kN kL4 ↑0)::(↑158,kN kL4 ↑1)::(↑164,kN kL4 ↑2)::(↑165,kN kL4 ↑3)::(↑171,kN kL4 ↑4)::(↑172,kN kL4 ↑5)::(↑176,kN kL4 ↑6)::(↑177,kN kL4 ↑7)::(↑183,kN kL5 ↑0)::(↑184,kN kL5 ↑1)::(↑190,kN kL5 ↑2)::(↑191,kN kL5 ↑3)::(↑197,kN kL5 ↑4)::(↑198,kN kL5 ↑5)::(↑204,kN kL5 ↑6)::(↑205,kN kL5 ↑7)::(↑211,kN kL6 ↑0)::(↑212,kN kL6 ↑1)::(↑218,kN kL6 ↑2)::(↑219,kN kL6 ↑3)::(↑223,kN kL6 ↑4)::(↑224,kN kL6 ↑5)::(↑230,kN kL6 ↑6)::(↑231,kN kL6 ↑7)::(↑237,kN kL7 ↑0)::(↑238,kN kL7 ↑1)::(↑244,kN kL7 ↑2)::(↑245,kN kL7 ↑3)::(↑249,kN kL7 ↑4)::(↑250,kN kL7 ↑5)::(↑256,kN kL7 ↑6)::(↑257,kN kL7 ↑7)::(↑263,kN kL8 ↑0)::(↑264,kN kL8 ↑1)::(↑270,kN kL8 ↑2)::(↑271,kN kL8 ↑3)::(↑277,kN kL8 ↑4)::(↑278,kN kL8 ↑5)::(↑284,kN kL8 ↑6)::(↑285,kN kL8 ↑7)::(↑291,kN kL9 ↑0)::(↑292,kN kL9 ↑1)::(↑298,kN kL9 ↑2)::(↑299,kN kL9 ↑3)::(↑305,kN kL9 ↑4)::(↑306,kN kL9 ↑5)::(↑312,kN kL9 ↑6)::(↑313,kN kL9 ↑7)::(↑317,kN kL10 ↑0)::(↑318,kN kL10 ↑1)::(↑324,kN kL10 ↑2)::(↑325,kN kL10 ↑3)::(↑331,kN kL10 ↑4)::(↑332,kN kL10 ↑5)::(↑336,kN kL10 ↑6)::(↑337,kN kL10 ↑7)::(↑341,kN kL11 ↑0)::(↑342,kN kL11 ↑1)::(↑346,kN kL11 ↑2)::(↑347,kN kL11 ↑3)::(↑353,kN kL11 ↑4)::(↑354,kN kL11 ↑5)::(↑360,kN kL11 ↑6)::(↑361,kN kL11 ↑7)::[]
end QQ
namespace QQ
open PySem L2
inductive Tg{A:Type}(a:A):Type where|mk:Tg a
noncomputable def pk{A:Type}{a:A}(_:Tg a):A:=a
noncomputable def hE(P:Fz)(n:Str)(k:Nat)(v:E1):Gr:={ hash:=PyData.keyHash P n,key:=.str n k,val:=v }
noncomputable def zzM(k:Nat)(l:List Gr):Obj:={ cls:=.type "dict",data:=.dict (Gk l) k }
noncomputable def zzE:E1:=.str "spotlook.errors" 187
noncomputable def kU(s:Stmt)(n q:Str)(g:Nat)(m c:E1):Iy:={ name:=n,qualname:=q,params:=bO s,body:=.stmts (aQ s),scope:=ao s,globals:=g,closure:=[],defaults:=.none,kwdefaults:=.none,pyModule:=m,code:=c }
noncomputable def kC(s:Stmt)(i:Nat):Stmt:=match s with
 |.ClassDef (body:=b) ..=>b.getD i (.Pass ⟨0,0,0,0⟩)
 |s=>s
noncomputable def kTu(l:List E1):Obj:={ cls:=.type "tuple",data:=.seq l.toArray 0 }
noncomputable def kFd(l:List E1):Obj:={ cls:=.none,data:=.fields l.toArray }
local macro_rules | `(tactic| walk_at "st") => `(tactic| (intro t; (conv at t => (arg 1; whnf)); exact pk (.mk : type_of% t)))
local macro_rules | `(⇑$n:num) => `((by refine' (?_ : Tg (top $n) → Stmt) .mk; walk_at "st" : Stmt))
noncomputable def st0:Stmt:=⇑0
noncomputable def st1:Stmt:=⇑1
noncomputable def st2:Stmt:=⇑2
noncomputable def st3:Stmt:=⇑3
noncomputable def st4:Stmt:=⇑4
noncomputable def st5:Stmt:=⇑5
noncomputable def st6:Stmt:=⇑6
noncomputable def st7:Stmt:=⇑7
noncomputable def st8:Stmt:=⇑8
noncomputable def st9:Stmt:=⇑9
noncomputable def st10:Stmt:=⇑10
noncomputable def st11:Stmt:=⇑11
noncomputable def st12:Stmt:=⇑12
noncomputable def st13:Stmt:=⇑13
noncomputable def st14:Stmt:=⇑14
noncomputable def st15:Stmt:=⇑15
noncomputable def st16:Stmt:=⇑16
noncomputable def st17:Stmt:=⇑17
noncomputable def st18:Stmt:=⇑18
noncomputable def st19:Stmt:=⇑19
noncomputable def st20:Stmt:=⇑20
noncomputable def st21:Stmt:=⇑21
noncomputable def st22:Stmt:=⇑22
noncomputable def st23:Stmt:=⇑23
noncomputable def st24:Stmt:=⇑24
noncomputable def st25:Stmt:=⇑25
noncomputable def st26:Stmt:=⇑26
noncomputable def st27:Stmt:=⇑27
noncomputable def st28:Stmt:=⇑28
noncomputable def st29:Stmt:=⇑29
noncomputable def st30:Stmt:=⇑30
noncomputable def st31:Stmt:=⇑31
noncomputable def st32:Stmt:=⇑32
noncomputable def st33:Stmt:=⇑33
noncomputable def st34:Stmt:=⇑34
noncomputable def st35:Stmt:=⇑35
noncomputable def st36:Stmt:=⇑36
noncomputable def st37:Stmt:=⇑37
noncomputable def st38:Stmt:=⇑38
noncomputable def st39:Stmt:=⇑39
noncomputable def st40:Stmt:=⇑40
noncomputable def st41:Stmt:=⇑41
noncomputable def st42:Stmt:=⇑42
noncomputable def st43:Stmt:=⇑43
noncomputable def st44:Stmt:=⇑44
noncomputable def st45:Stmt:=⇑45
noncomputable def st46:Stmt:=⇑46
noncomputable def st47:Stmt:=⇑47
noncomputable def st48:Stmt:=⇑48
noncomputable def st49:Stmt:=⇑49
noncomputable def st50:Stmt:=⇑50
noncomputable def st51:Stmt:=⇑51
noncomputable def st52:Stmt:=⇑52
noncomputable def st53:Stmt:=⇑53
noncomputable def st54:Stmt:=⇑54
noncomputable def st55:Stmt:=⇑55
noncomputable def st56:Stmt:=⇑56
noncomputable def st57:Stmt:=⇑57
noncomputable def st58:Stmt:=⇑58
noncomputable def scp:HN:=by refine'(?_:Tg (Fq.main.scope)->HN) .mk;walk_at "st"
noncomputable def fil:Str:=by refine'(?_:Tg (Fq.main.file)->Str) .mk;walk_at "st"
noncomputable def giv:Given:=by refine'(?_:Tg (Fq.given)->Given) .mk;walk_at "st"
noncomputable def pw2:F8:={ main:={ body:=[st0,st1,st2,st3,st4,st5,st6,st7,st8,st9,st10,st11,st12,st13,st14,st15,st16,st17,st18,st19,st20,st21,st22,st23,st24,st25,st26,st27,st28,st29,st30,st31,st32,st33,st34,st35,st36,st37,st38,st39,st40,st41,st42,st43,st44,st45,st46,st47,st48,st49,st50,st51,st52,st53,st54,st55,st56,st57,st58],scope:=scp,futureAnnotations:=false,file:=fil,more:=[] },modules:=[],parses:=[],absent:=[],harvested:=[],given:=giv }
noncomputable def vw:F8:={ pw2 with main:={ pw2.main with body:=[st1,st2,st4,st5,st6,st7,st8,st10,st11,st12,st13,st14,st15,st16,st17,st18,st19,st20,st22,st23,st24,st25,st27,st28,st29,st30,st31,st32,st33,st35,st36,st37,st38,st40,st42,st43,st44,st46,st47,st48,st49,st50,st51,st52,st53,st54,st55,st56,st57,st58] } }
noncomputable def sx0:List Stmt:=[st0,st1]
noncomputable def sx1:List Stmt:=[st2,st3,st4,st5,st6,st7,st8,st9]
noncomputable def sx2:List Stmt:=[st10,st11,st12,st13,st14,st15,st16,st17,st18,st19,st20,st21,st22]
noncomputable def sx3:List Stmt:=[st23,st24,st25,st26,st27,st28,st29,st30,st31,st32,st33,st34,st35,st36]
noncomputable def sx4:List Stmt:=[st37,st38,st39,st40,st41,st42,st43,st44,st45,st46,st47,st48,st49,st50,st51]
noncomputable def sx5:List Stmt:=[st52,st53,st54,st55,st56,st57,st58]
noncomputable def en3_0(P:Fz):List Gr:=[hE P "__doc__" 166 .none,hE P "__package__" 167 .none,hE P "__loader__" 168 (.builtin "__main__.__loader__#opaque"),hE P "__spec__" 169 .none,hE P "__annotations__" 170 (.ref 6),hE P "__builtins__" 171 (.ref 4),hE P "__file__" 173 (.str "/claim/cut.py" 172),hE P "__cached__" 174 .none]
noncomputable def en3_1(P:Fz):List Gr:=[hE P "SpotError" 206 (.ref 24),hE P "NoFraction" 222 (.ref 37),hE P "greatest_divisor" 232 (.ref 46),hE P "fraction" 241 (.ref 53),hE P "is_less" 249 (.ref 60),hE P "common_bottom" 258 (.ref 67),hE P "top_over" 266 (.ref 74),hE P "is_ahead" 276 (.ref 81)]
noncomputable def en3_2(P:Fz):List Gr:=[hE P "later_of" 284 (.ref 88),hE P "earlier_of" 292 (.ref 95),hE P "place_among" 303 (.ref 102),hE P "ahead_first" 312 (.ref 109),hE P "own_spot" 321 (.ref 116),hE P "own_wall" 328 (.ref 123),hE P "gap" 336 (.ref 130),hE P "lean" 354 (.ref 137)]
noncomputable def en3_3(P:Fz):List Gr:=[hE P "side_of" 363 (.ref 144),hE P "lies_on" 373 (.ref 151),hE P "spans" 383 (.ref 158),hE P "is_above" 395 (.ref 165),hE P "upper_of" 404 (.ref 172),hE P "upper_below" 410 (.ref 177),hE P "face_ends" 422 (.ref 184),hE P "faces_by_start" 431 (.ref 191)]
noncomputable def en3_4(P:Fz):List Gr:=[hE P "is_met_sooner" 443 (.ref 198),hE P "face_behind" 457 (.ref 205),hE P "ring_from" 468 (.ref 212),hE P "rings_of" 481 (.ref 219),hE P "twice_area" 487 (.ref 224),hE P "outer_and_inner" 499 (.ref 231),hE P "first_corner" 509 (.ref 238),hE P "land_about" 519 (.ref 245)]
noncomputable def en3_5(P:Fz):List Gr:=[hE P "lands_of_faces" 525 (.ref 250),hE P "corners_of" 537 (.ref 257),hE P "wall_below" 548 (.ref 264),hE P "look_plainly" 556 (.ref 271),hE P "look_with_lands" 569 (.ref 278),hE P "_law_cell_at" 579 (.ref 285),hE P "_law_take" 589 (.ref 292),hE P "_law_low" 599 (.ref 299)]
noncomputable def en3_6(P:Fz):List Gr:=[hE P "_law_scale" 609 (.ref 306),hE P "_law_spot" 621 (.ref 313),hE P "_law_made" 627 (.ref 318),hE P "_law_turn" 639 (.ref 325),hE P "_law_on" 647 (.ref 332),hE P "_law_fair" 653 (.ref 337),hE P "_law_shuts_here" 659 (.ref 342),hE P "_law_told" 665 (.ref 347)]
noncomputable def en3_7(P:Fz):List Gr:=[hE P "_law_real" 678 (.ref 354),hE P "law" 694 (.ref 361)]
noncomputable def en3(P:Fz):List Gr:=en3_0 P++(en3_1 P++(en3_2 P++(en3_3 P++(en3_4 P++(en3_5 P++(en3_6 P++(en3_7 P)))))))
noncomputable def fl12:List E1:=[(.int 2 0),(.int 0 0),(.ref 20),(.int 4 0),(.int 0 0),(.ref 33),(.int 7 0),(.int 0 0),(.ref 45),(.int 11 0),(.int 0 0),(.ref 52),(.int 18 0),(.int 0 0),(.ref 59),(.int 20 0),(.int 0 0),(.ref 66),(.int 25 0),(.int 0 0),(.ref 73),(.int 28 0),(.int 0 0),(.ref 80),(.int 32 0),(.int 0 0),(.ref 87),(.int 34 0),(.int 0 0),(.ref 94),(.int 36 0),(.int 0 0),(.ref 101),(.int 45 0),(.int 0 0),(.ref 108),(.int 50 0),(.int 0 0),(.ref 115),(.int 53 0),(.int 0 0),(.ref 122),(.int 55 0),(.int 0 0),(.ref 129),(.int 57 0),(.int 0 0),(.ref 136),(.int 63 0),(.int 0 0),(.ref 143),(.int 70 0),(.int 0 0),(.ref 150),(.int 74 0),(.int 0 0),(.ref 157),(.int 76 0),(.int 0 0),(.ref 164),(.int 84 0),(.int 0 0),(.ref 171),(.int 90 0),(.int 0 0),(.ref 176),(.int 94 0),(.int 0 0),(.ref 183),(.int 97 0),(.int 0 0),(.ref 190),(.int 102 0),(.int 0 0),(.ref 197),(.int 108 0),(.int 0 0),(.ref 204),(.int 116 0),(.int 0 0),(.ref 211),(.int 123 0),(.int 0 0),(.ref 218),(.int 134 0),(.int 0 0),(.ref 223),(.int 144 0),(.int 0 0),(.ref 230),(.int 152 0),(.int 0 0),(.ref 237),(.int 157 0),(.int 0 0),(.ref 244),(.int 160 0),(.int 0 0),(.ref 249),(.int 173 0),(.int 0 0),(.ref 256),(.int 180 0),(.int 0 0),(.ref 263),(.int 183 0),(.int 0 0),(.ref 270),(.int 185 0),(.int 0 0),(.ref 277),(.int 195 0),(.int 0 0),(.ref 284),(.int 199 0),(.int 0 0),(.ref 291),(.int 208 0),(.int 0 0),(.ref 298),(.int 216 0),(.int 0 0),(.ref 305),(.int 222 0),(.int 0 0),(.ref 312),(.int 225 0),(.int 0 0),(.ref 317),(.int 227 0),(.int 0 0),(.ref 324),(.int 232 0),(.int 0 0),(.ref 331),(.int 234 0),(.int 0 0),(.ref 336),(.int 244 0),(.int 0 0),(.ref 341),(.int 255 0),(.int 0 0),(.ref 346),(.int 266 0),(.int 0 0),(.ref 353),(.int 270 0),(.int 0 0),(.ref 360)]
noncomputable def hC(n:Str)(s0 s1 s2 s18 r8 r11 r13 r14 r15 i3 i4 i5 i6 i7 i10 i16 i17:Nat)(b9:Bool):Obj:={ cls:=.type "code",data:=.fields #[.str n s0,.str n s1,.str "/claim/cut.py" s2,.int (Iu i3) 0,.int (Iu i4) 0,.int (Iu i5) 0,.int (Iu i6) 0,.int (Iu i7) 0,.ref r8,.bool b9,.int (Iu i10) 0,.ref r11,.none,.ref r13,.ref r14,.ref r15,.int (Iu i16) 0,.int (Iu i17) 0,.str "/claim/cut.py" s18] }
noncomputable def hF(t:E1)(s:Stmt)(n:Str)(g:Nat)(m c:E1):Obj:={ cls:=t,data:=.func (kU s n n g m c) }
noncomputable def zzH(s:Stmt)(n:Str)(m:E1)(r:Nat):Obj:=hF (.type "function") s n 3 m (.ref r)
noncomputable def ob11:Obj:=kTu []
noncomputable def ob12:Obj:={ cls:=.none,data:=.fields (Gk (fl12.take 0)) }
noncomputable def ob13:Obj:=zzD "<module>" "<module>" 182 183 184 1 0 0 11 false 12 .none .none .none 185 186
noncomputable def ob14:Obj:={ cls:=(.type "frame"),slots:=#[(some (.ref 13)),(some (.ref 3)),(some (.ref 3)),none,(some (.str "__main__" 164)),none,(some (.ref 0))] }
noncomputable def ob15(P:Fz):Obj:=zzM 10 (hE P "__name__" 165 zzE::(en3 P).take 9)
noncomputable def ob16:Obj:={ cls:=.none,data:=.fields (Gk (fl12.take 3)) }
noncomputable def ob17:Obj:=kTu [(.type "ValueError")]
noncomputable def ob18:Obj:={ cls:=(.type "builtin_function_or_method"),data:=(.fields #[(.builtin "type.__prepare__"),(.type "type")]) }
noncomputable def ob19(P:Fz):Obj:=zzM 4 [hE P "__module__" 196 zzE,hE P "__qualname__" 198 (.str "SpotError" 197),hE P "__firstlineno__" 200 (.int 2 199),hE P "__static_attributes__" 201 (.ref 22)]
noncomputable def ob20:Obj:=zzD "SpotError" "SpotError" 191 192 193 2 0 0 18 false 19 .none .none .none 194 195
noncomputable def ob21:Obj:={ cls:=(.type "frame"),slots:=#[(some (.ref 20)),(some (.ref 3)),(some (.ref 17)),none,(some zzE),none,(some (.ref 0))] }
noncomputable def ob22(P:Fz):Obj:=zzM 3 [hE P "__module__" 196 zzE,hE P "__firstlineno__" 200 (.int 2 199),hE P "__static_attributes__" 201 (.ref 22),hE P "__weakref__" 203 (.ref 25),hE P "__doc__" 204 .none]
noncomputable def ob23:Obj:={ cls:=(.type "type"),data:=(.cls { name:="SpotError",bases:=[(.type "ValueError")],mro:=[(.ref 24),(.type "ValueError"),(.type "Exception"),(.type "BaseException"),(.type "object")],ns:=23,qualname:="SpotError",hasDict:=true,slotNames:=[],subclasses:=[],abstract:=false,collection:=none,hasDel:=false }),slots:=#[(some (.ref 15)),none,(some (.str "SpotError" 189)),(some (.str "SpotError" 197)),(some (.builtin "ValueError.__new__")),(some (.bool true))] }
noncomputable def ob24:Obj:={ cls:=(.type "getset_descriptor"),data:=(.fields #[(.str "__weakref__" 202),(.ref 24),(.builtin "ExceptionGroup.__weakref__"),.none]) }
noncomputable def ob25:Obj:={ cls:=(.type "super"),data:=(.fields #[(.ref 24),(.ref 24),(.ref 24)]) }
noncomputable def ob26:Obj:={ cls:=(.type "builtin_function_or_method"),data:=(.fields #[(.builtin "object.__init_subclass__"),(.ref 24)]) }
noncomputable def ob27(P:Fz):Obj:=zzM 16 (hE P "__name__" 165 (.str "spotlook.spots" 267)::(en3 P).take 15)
noncomputable def ob28:Obj:={ cls:=.none,data:=.fields (Gk (fl12.take 21)) }
noncomputable def ob29:Obj:={ cls:=(.type "type"),data:=(.cls { name:="SpotError",bases:=[(.type "ValueError")],mro:=[(.ref 24),(.type "ValueError"),(.type "Exception"),(.type "BaseException"),(.type "object")],ns:=23,qualname:="SpotError",hasDict:=true,slotNames:=[],subclasses:=[(.ref 37)],abstract:=false,collection:=none,hasDel:=false }),slots:=#[(some (.ref 15)),none,(some (.str "SpotError" 189)),(some (.str "SpotError" 197)),(some (.builtin "ValueError.__new__")),(some (.bool true))] }
noncomputable def ob30:Obj:=kTu [(.ref 24)]
noncomputable def ob31(P:Fz):Obj:=zzM 4 [hE P "__module__" 214 zzE,hE P "__qualname__" 216 (.str "NoFraction" 215),hE P "__firstlineno__" 218 (.int 4 217),hE P "__static_attributes__" 219 (.ref 35)]
noncomputable def ob32:Obj:=zzD "NoFraction" "NoFraction" 209 210 211 4 0 0 31 false 32 .none .none .none 212 213
noncomputable def ob33:Obj:={ cls:=(.type "frame"),slots:=#[(some (.ref 33)),(some (.ref 3)),(some (.ref 30)),none,(some zzE),none,(some (.ref 0))] }
noncomputable def ob34(P:Fz):Obj:=zzM 2 [hE P "__module__" 214 zzE,hE P "__firstlineno__" 218 (.int 4 217),hE P "__static_attributes__" 219 (.ref 35),hE P "__doc__" 220 .none]
noncomputable def ob35:Obj:=zzK "NoFraction" 37 36 28 207 215
noncomputable def ob36:Obj:={ cls:=(.type "super"),data:=(.fields #[(.ref 37),(.ref 37),(.ref 37)]) }
noncomputable def ob37:Obj:={ cls:=(.type "builtin_function_or_method"),data:=(.fields #[(.builtin "object.__init_subclass__"),(.ref 37)]) }
noncomputable def ob38:Obj:=kTu [(.str "one" 228),(.str "other" 229)]
noncomputable def ob39:Obj:=hF .none st4 "greatest_divisor" 0 .none .none
noncomputable def ob40:Obj:=hC "greatest_divisor" 225 226 227 231 40 41 42 43 44 7 2 0 0 3 181 230 7 true
noncomputable def ob41:Obj:=zzH st4 "greatest_divisor" (.str "spotlook.fractions" 223) 45
noncomputable def ob42:Obj:=kTu [(.str "top" 236),(.str "bottom" 237),(.str "divisor" 238)]
noncomputable def ob43:Obj:=hF .none st5 "fraction" 0 .none .none
noncomputable def ob44:Obj:=hC "fraction" 233 234 235 240 47 48 49 50 51 11 2 0 0 3 181 239 11 true
noncomputable def ob45:Obj:=zzH st5 "fraction" (.str "spotlook.fractions" 223) 52
noncomputable def ob46:Obj:=kTu [(.str "one" 245),(.str "other" 246)]
noncomputable def ob47:Obj:=hF .none st6 "is_less" 0 .none .none
noncomputable def ob48:Obj:=hC "is_less" 242 243 244 248 54 55 56 57 58 18 2 0 0 3 181 247 18 true
noncomputable def ob49:Obj:=zzH st6 "is_less" (.str "spotlook.fractions" 223) 59
noncomputable def ob50:Obj:=kTu [(.str "parts" 253),(.str "common" 254),(.str "part" 255)]
noncomputable def ob51:Obj:=hF .none st7 "common_bottom" 0 .none .none
noncomputable def ob52:Obj:=hC "common_bottom" 250 251 252 257 61 62 63 64 65 20 1 0 0 3 181 256 20 true
noncomputable def ob53:Obj:=zzH st7 "common_bottom" (.str "spotlook.fractions" 223) 66
noncomputable def ob54:Obj:=kTu [(.str "part" 262),(.str "bottom" 263)]
noncomputable def ob55:Obj:=hF .none st8 "top_over" 0 .none .none
noncomputable def ob56:Obj:=hC "top_over" 259 260 261 265 68 69 70 71 72 25 2 0 0 3 181 264 25 true
noncomputable def ob57:Obj:=zzH st8 "top_over" (.str "spotlook.fractions" 223) 73
noncomputable def ob58(P:Fz):Obj:=zzM 28 (hE P "__name__" 165 (.str "spotlook.above" 374)::(en3 P).take 27)
noncomputable def ob59:Obj:={ cls:=.none,data:=.fields (Gk (fl12.take 57)) }
noncomputable def ob60:Obj:=kTu [(.str "one" 272),(.str "other" 273)]
noncomputable def ob61:Obj:=hF .none st10 "is_ahead" 0 .none .none
noncomputable def ob62:Obj:=hC "is_ahead" 269 270 271 275 75 76 77 78 79 28 2 0 0 3 181 274 28 true
noncomputable def ob63:Obj:=zzH st10 "is_ahead" (.str "spotlook.spots" 267) 80
noncomputable def ob64:Obj:=kTu [(.str "one" 280),(.str "other" 281)]
noncomputable def ob65:Obj:=hF .none st11 "later_of" 0 .none .none
noncomputable def ob66:Obj:=hC "later_of" 277 278 279 283 82 83 84 85 86 32 2 0 0 3 181 282 32 true
noncomputable def ob67:Obj:=zzH st11 "later_of" (.str "spotlook.spots" 267) 87
noncomputable def ob68:Obj:=kTu [(.str "one" 288),(.str "other" 289)]
noncomputable def ob69:Obj:=hF .none st12 "earlier_of" 0 .none .none
noncomputable def ob70:Obj:=hC "earlier_of" 285 286 287 291 89 90 91 92 93 34 2 0 0 3 181 290 34 true
noncomputable def ob71:Obj:=zzH st12 "earlier_of" (.str "spotlook.spots" 267) 94
noncomputable def ob72:Obj:=kTu [(.str "row" 296),(.str "spot" 297),(.str "low" 298),(.str "high" 299),(.str "middle" 300)]
noncomputable def ob73:Obj:=hF .none st13 "place_among" 0 .none .none
noncomputable def ob74:Obj:=hC "place_among" 293 294 295 302 96 97 98 99 100 36 2 0 0 3 181 301 36 true
noncomputable def ob75:Obj:=zzH st13 "place_among" (.str "spotlook.spots" 267) 101
noncomputable def ob76:Obj:=kTu [(.str "spots" 307),(.str "row" 308),(.str "spot" 309)]
noncomputable def ob77:Obj:=hF .none st14 "ahead_first" 0 .none .none
noncomputable def ob78:Obj:=hC "ahead_first" 304 305 306 311 103 104 105 106 107 45 1 0 0 3 181 310 45 true
noncomputable def ob79:Obj:=zzH st14 "ahead_first" (.str "spotlook.spots" 267) 108
noncomputable def ob80:Obj:=kTu [(.str "spot" 316),(.str "x" 317),(.str "y" 318)]
noncomputable def ob81:Obj:=hF .none st15 "own_spot" 0 .none .none
noncomputable def ob82:Obj:=hC "own_spot" 313 314 315 320 110 111 112 113 114 50 1 0 0 3 181 319 50 true
noncomputable def ob83:Obj:=zzH st15 "own_spot" (.str "spotlook.spots" 267) 115
noncomputable def ob84:Obj:=kTu [(.str "wall" 325)]
noncomputable def ob85:Obj:=hF .none st16 "own_wall" 0 .none .none
noncomputable def ob86:Obj:=hC "own_wall" 322 323 324 327 117 118 119 120 121 53 1 0 0 3 181 326 53 true
noncomputable def ob87:Obj:=zzH st16 "own_wall" (.str "spotlook.spots" 267) 122
noncomputable def ob88:Obj:=kTu [(.str "one" 332),(.str "other" 333)]
noncomputable def ob89:Obj:=hF .none st17 "gap" 0 .none .none
noncomputable def ob90:Obj:=hC "gap" 329 330 331 335 124 125 126 127 128 55 2 0 0 3 181 334 55 true
noncomputable def ob91:Obj:=zzH st17 "gap" (.str "spotlook.spots" 267) 129
noncomputable def ob92:Obj:=kTu [(.str "wall" 340),(.str "spot" 341),(.str "a" 342),(.str "b" 343),(.str "c" 344),(.str "d" 345),(.str "x" 346),(.str "y" 347),(.str "across" 348),(.str "up" 349),(.str "along" 350),(.str "high" 351)]
noncomputable def ob93:Obj:=hF .none st18 "lean" 0 .none .none
noncomputable def ob94:Obj:=hC "lean" 337 338 339 353 131 132 133 134 135 57 2 0 0 3 181 352 57 true
noncomputable def ob95:Obj:=zzH st18 "lean" (.str "spotlook.spots" 267) 136
noncomputable def ob96:Obj:=kTu [(.str "wall" 358),(.str "spot" 359),(.str "top" 360)]
noncomputable def ob97:Obj:=hF .none st19 "side_of" 0 .none .none
noncomputable def ob98:Obj:=hC "side_of" 355 356 357 362 138 139 140 141 142 63 2 0 0 3 181 361 63 true
noncomputable def ob99:Obj:=zzH st19 "side_of" (.str "spotlook.spots" 267) 143
noncomputable def ob100:Obj:=kTu [(.str "wall" 367),(.str "spot" 368),(.str "first" 369),(.str "second" 370)]
noncomputable def ob101:Obj:=hF .none st20 "lies_on" 0 .none .none
noncomputable def ob102:Obj:=hC "lies_on" 364 365 366 372 145 146 147 148 149 70 2 0 0 3 181 371 70 true
noncomputable def ob103:Obj:=zzH st20 "lies_on" (.str "spotlook.spots" 267) 150
noncomputable def ob104:Obj:=kTu [(.str "wall" 379),(.str "spot" 380)]
noncomputable def ob105:Obj:=hF .none st22 "spans" 0 .none .none
noncomputable def ob106:Obj:=hC "spans" 376 377 378 382 152 153 154 155 156 74 2 0 0 3 181 381 74 true
noncomputable def ob107:Obj:=zzH st22 "spans" (.str "spotlook.above" 374) 157
noncomputable def ob108(P:Fz):Obj:=zzM 40 (hE P "__name__" 165 (.str "spotlook.lands" 488)::(en3 P).take 39)
noncomputable def ob109:Obj:={ cls:=.none,data:=.fields (Gk (fl12.take 93)) }
noncomputable def ob110:Obj:=kTu [(.str "one" 387),(.str "other" 388),(.str "start" 389),(.str "end" 390),(.str "place" 391),(.str "deciding" 392)]
noncomputable def ob111:Obj:=hF .none st23 "is_above" 0 .none .none
noncomputable def ob112:Obj:=hC "is_above" 384 385 386 394 159 160 161 162 163 76 2 0 0 3 181 393 76 true
noncomputable def ob113:Obj:=zzH st23 "is_above" (.str "spotlook.above" 374) 164
noncomputable def ob114:Obj:=kTu [(.str "walls" 399),(.str "upper" 400),(.str "wall" 401)]
noncomputable def ob115:Obj:=hF .none st24 "upper_of" 0 .none .none
noncomputable def ob116:Obj:=hC "upper_of" 396 397 398 403 166 167 168 169 170 84 1 0 0 3 181 402 84 true
noncomputable def ob117:Obj:=zzH st24 "upper_of" (.str "spotlook.above" 374) 171
noncomputable def ob118:Obj:=hF .none st25 "upper_below" 0 .none .none
noncomputable def ob119:Obj:=zzD "upper_below" "upper_below" 405 406 407 90 2 3 173 true 174 .none .none (.ref 175) 408 409
noncomputable def ob120:Obj:=zzH st25 "upper_below" (.str "spotlook.above" 374) 176
noncomputable def ob121:Obj:=kTu [(.str "plot" 416),(.str "face" 417),(.str "first" 418),(.str "second" 419)]
noncomputable def ob122:Obj:=hF .none st27 "face_ends" 0 .none .none
noncomputable def ob123:Obj:=hC "face_ends" 413 414 415 421 178 179 180 181 182 94 2 0 0 3 181 420 94 true
noncomputable def ob124:Obj:=zzH st27 "face_ends" (.str "spotlook.rings" 411) 183
noncomputable def ob125:Obj:=kTu [(.str "plot" 426),(.str "leaving" 427),(.str "face" 428)]
noncomputable def ob126:Obj:=hF .none st28 "faces_by_start" 0 .none .none
noncomputable def ob127:Obj:=hC "faces_by_start" 423 424 425 430 185 186 187 188 189 97 1 0 0 3 181 429 97 true
noncomputable def ob128:Obj:=zzH st28 "faces_by_start" (.str "spotlook.rings" 411) 190
noncomputable def ob129:Obj:=kTu [(.str "corner" 435),(.str "came_from" 436),(.str "one" 437),(.str "other" 438),(.str "turn" 439),(.str "other_turn" 440)]
noncomputable def ob130:Obj:=hF .none st29 "is_met_sooner" 0 .none .none
noncomputable def ob131:Obj:=hC "is_met_sooner" 432 433 434 442 192 193 194 195 196 102 4 0 0 3 181 441 102 true
noncomputable def ob132:Obj:=zzH st29 "is_met_sooner" (.str "spotlook.rings" 411) 197
noncomputable def ob133:Obj:=kTu [(.str "plot" 447),(.str "leaving" 448),(.str "face" 449),(.str "came_from" 450),(.str "corner" 451),(.str "back" 452),(.str "best" 453),(.str "rival" 454)]
noncomputable def ob134:Obj:=hF .none st30 "face_behind" 0 .none .none
noncomputable def ob135:Obj:=hC "face_behind" 444 445 446 456 199 200 201 202 203 108 3 0 0 3 181 455 108 true
noncomputable def ob136:Obj:=zzH st30 "face_behind" (.str "spotlook.rings" 411) 204
noncomputable def ob137:Obj:=kTu [(.str "plot" 461),(.str "leaving" 462),(.str "face" 463),(.str "ring" 464),(.str "at" 465)]
noncomputable def ob138:Obj:=hF .none st31 "ring_from" 0 .none .none
noncomputable def ob139:Obj:=hC "ring_from" 458 459 460 467 206 207 208 209 210 116 3 0 0 3 181 466 116 true
noncomputable def ob140:Obj:=zzH st31 "ring_from" (.str "spotlook.rings" 411) 211
noncomputable def ob141:Obj:=kTu [(.str "plot" 472),(.str "leaving" 473),(.str "rings" 474),(.str "gone_along" 475),(.str "face" 476),(.str "ring" 477),(.str "part" 478)]
noncomputable def ob142:Obj:=hF .none st32 "rings_of" 0 .none .none
noncomputable def ob143:Obj:=hC "rings_of" 469 470 471 480 213 214 215 216 217 123 1 0 0 3 181 479 123 true
noncomputable def ob144:Obj:=zzH st32 "rings_of" (.str "spotlook.rings" 411) 218
noncomputable def ob145:Obj:=hF .none st33 "twice_area" 0 .none .none
noncomputable def ob146:Obj:=zzD "twice_area" "twice_area" 482 483 484 134 2 3 220 true 221 .none .none (.ref 222) 485 486
noncomputable def ob147:Obj:=zzH st33 "twice_area" (.str "spotlook.rings" 411) 223
noncomputable def ob148:Obj:=kTu [(.str "plot" 493),(.str "outers" 494),(.str "inners" 495),(.str "ring" 496)]
noncomputable def ob149:Obj:=hF .none st35 "outer_and_inner" 0 .none .none
noncomputable def ob150:Obj:=hC "outer_and_inner" 490 491 492 498 225 226 227 228 229 144 1 0 0 3 181 497 144 true
noncomputable def ob151:Obj:=zzH st35 "outer_and_inner" (.str "spotlook.lands" 488) 230
noncomputable def ob152:Obj:=kTu [(.str "plot" 503),(.str "ring" 504),(.str "first" 505),(.str "face" 506)]
noncomputable def ob153:Obj:=hF .none st36 "first_corner" 0 .none .none
noncomputable def ob154:Obj:=hC "first_corner" 500 501 502 508 232 233 234 235 236 152 2 0 0 3 181 507 152 true
noncomputable def ob155:Obj:=zzH st36 "first_corner" (.str "spotlook.lands" 488) 237
noncomputable def ob156(P:Fz):Obj:=zzM 52 (hE P "__name__" 165 zzN::(en3 P).take 51)
noncomputable def ob157:Obj:={ cls:=.none,data:=.fields (Gk (fl12.take 129)) }
noncomputable def ob158:Obj:=kTu [(.str "plot" 513),(.str "lands" 514),(.str "corner" 515),(.str "wall" 516)]
noncomputable def ob159:Obj:=hF .none st37 "land_about" 0 .none .none
noncomputable def ob160:Obj:=hC "land_about" 510 511 512 518 239 240 241 242 243 157 3 0 0 3 181 517 157 true
noncomputable def ob161:Obj:=zzH st37 "land_about" (.str "spotlook.lands" 488) 244
noncomputable def ob162:Obj:=hF .none st38 "lands_of_faces" 0 .none .none
noncomputable def ob163:Obj:=zzD "lands_of_faces" "lands_of_faces" 520 521 522 160 1 3 246 true 247 .none .none (.ref 248) 523 524
noncomputable def ob164:Obj:=zzH st38 "lands_of_faces" (.str "spotlook.lands" 488) 249
noncomputable def ob165:Obj:=kTu [(.str "plot" 531),(.str "corners" 532),(.str "wall" 533),(.str "end" 534)]
noncomputable def ob166:Obj:=hF .none st40 "corners_of" 0 .none .none
noncomputable def ob167:Obj:=hC "corners_of" 528 529 530 536 251 252 253 254 255 173 1 0 0 3 181 535 173 true
noncomputable def ob168:Obj:=zzH st40 "corners_of" (.str "spotlook.plots" 526) 256
noncomputable def ob169:Obj:=kTu [(.str "plot" 543),(.str "spot" 544),(.str "wall" 545)]
noncomputable def ob170:Obj:=hF .none st42 "wall_below" 0 .none .none
noncomputable def ob171:Obj:=hC "wall_below" 540 541 542 547 258 259 260 261 262 180 2 0 0 3 181 546 180 true
noncomputable def ob172:Obj:=zzH st42 "wall_below" (.str "spotlook.plain" 538) 263
noncomputable def ob173:Obj:=kTu [(.str "plot" 552),(.str "spot" 553)]
noncomputable def ob174:Obj:=hF .none st43 "look_plainly" 0 .none .none
noncomputable def ob175:Obj:=hC "look_plainly" 549 550 551 555 265 266 267 268 269 183 2 0 0 3 181 554 183 true
noncomputable def ob176:Obj:=zzH st43 "look_plainly" (.str "spotlook.plain" 538) 270
noncomputable def ob177:Obj:=kTu [(.str "plot" 560),(.str "lands" 561),(.str "spot" 562),(.str "corners" 563),(.str "number" 564),(.str "wall" 565),(.str "below" 566)]
noncomputable def ob178:Obj:=hF .none st44 "look_with_lands" 0 .none .none
noncomputable def ob179:Obj:=hC "look_with_lands" 557 558 559 568 272 273 274 275 276 185 3 0 0 3 181 567 185 true
noncomputable def ob180:Obj:=zzH st44 "look_with_lands" (.str "spotlook.plain" 538) 277
noncomputable def ob181:Obj:=kTu [(.str "_law_script" 575),(.str "_law_k" 576)]
noncomputable def ob182:Obj:=hF .none st46 "_law_cell_at" 0 .none .none
noncomputable def ob183:Obj:=hC "_law_cell_at" 572 573 574 578 279 280 281 282 283 195 2 0 0 3 181 577 195 true
noncomputable def ob184:Obj:=zzH st46 "_law_cell_at" zzN 284
noncomputable def ob185:Obj:=kTu [(.str "_law_row" 583),(.str "_law_base" 584),(.str "_law_rest" 585),(.str "_law_number" 586)]
noncomputable def ob186:Obj:=hF .none st47 "_law_take" 0 .none .none
noncomputable def ob187:Obj:=hC "_law_take" 580 581 582 588 286 287 288 289 290 199 2 0 0 3 181 587 199 true
noncomputable def ob188:Obj:=zzH st47 "_law_take" zzN 291
noncomputable def ob189:Obj:=kTu [(.str "_law_top" 593),(.str "_law_bottom" 594),(.str "_law_one" 595),(.str "_law_other" 596)]
noncomputable def ob190:Obj:=hF .none st48 "_law_low" 0 .none .none
noncomputable def ob191:Obj:=hC "_law_low" 590 591 592 598 293 294 295 296 297 208 2 0 0 3 181 597 208 true
noncomputable def ob192:Obj:=zzH st48 "_law_low" zzN 298
noncomputable def ob193:Obj:=kTu [(.str "_law_row" 603),(.str "_law_top" 604),(.str "_law_bottom" 605),(.str "_law_far" 606)]
noncomputable def ob194:Obj:=hF .none st49 "_law_scale" 0 .none .none
noncomputable def ob195:Obj:=hC "_law_scale" 600 601 602 608 300 301 302 303 304 216 1 0 0 3 181 607 216 true
noncomputable def ob196:Obj:=zzH st49 "_law_scale" zzN 305
noncomputable def ob197:Obj:=kTu [(.str "_law_scale_here" 613),(.str "_law_unit" 614),(.str "_law_top" 615),(.str "_law_bottom" 616),(.str "_law_x" 617),(.str "_law_y" 618)]
noncomputable def ob198:Obj:=hF .none st50 "_law_spot" 0 .none .none
noncomputable def ob199:Obj:=hC "_law_spot" 610 611 612 620 307 308 309 310 311 222 2 0 0 3 181 619 222 true
noncomputable def ob200:Obj:=zzH st50 "_law_spot" zzN 312
noncomputable def ob201:Obj:=hF .none st51 "_law_made" 0 .none .none
noncomputable def ob202:Obj:=zzD "_law_made" "_law_made" 622 623 624 225 2 3 314 true 315 .none .none (.ref 316) 625 626
noncomputable def ob203:Obj:=zzH st51 "_law_made" zzN 317
noncomputable def ob204(P:Fz):Obj:=zzM 59 (hE P "__name__" 165 zzN::(en3 P).take 58)
noncomputable def ob205:Obj:={ cls:=.none,data:=.fields (Gk (fl12.take 150)) }
noncomputable def ob206:Obj:=kTu [(.str "_law_one" 631),(.str "_law_two" 632),(.str "_law_three" 633),(.str "_law_far" 634),(.str "_law_beside" 635),(.str "_law_found" 636)]
noncomputable def ob207:Obj:=hF .none st52 "_law_turn" 0 .none .none
noncomputable def ob208:Obj:=hC "_law_turn" 628 629 630 638 319 320 321 322 323 227 3 0 0 3 181 637 227 true
noncomputable def ob209:Obj:=zzH st52 "_law_turn" zzN 324
noncomputable def ob210:Obj:=kTu [(.str "_law_shut" 643),(.str "_law_spot_here" 644)]
noncomputable def ob211:Obj:=hF .none st53 "_law_on" 0 .none .none
noncomputable def ob212:Obj:=hC "_law_on" 640 641 642 646 326 327 328 329 330 232 2 0 0 3 181 645 232 true
noncomputable def ob213:Obj:=zzH st53 "_law_on" zzN 331
noncomputable def ob214:Obj:=hF .none st54 "_law_fair" 0 .none .none
noncomputable def ob215:Obj:=zzD "_law_fair" "_law_fair" 648 649 650 234 2 3 333 true 334 .none .none (.ref 335) 651 652
noncomputable def ob216:Obj:=zzH st54 "_law_fair" zzN 336
noncomputable def ob217:Obj:=hF .none st55 "_law_shuts_here" 0 .none .none
noncomputable def ob218:Obj:=zzD "_law_shuts_here" "_law_shuts_here" 654 655 656 244 3 3 338 true 339 .none .none (.ref 340) 657 658
noncomputable def ob219:Obj:=zzH st55 "_law_shuts_here" zzN 341
noncomputable def ob220:Obj:=hF .none st56 "_law_told" 0 .none .none
noncomputable def ob221:Obj:=zzD "_law_told" "_law_told" 660 661 662 255 2 3 343 true 344 .none .none (.ref 345) 663 664
noncomputable def ob222:Obj:=zzH st56 "_law_told" zzN 346
noncomputable def ob223:Obj:=kTu [(.str "_law_scale_here" 669),(.str "_law_told_here" 670),(.str "_law_top" 671),(.str "_law_bottom" 672),(.str "_law_x" 673),(.str "_law_y" 674),(.str "_law_many" 675)]
noncomputable def ob224:Obj:=hF .none st57 "_law_real" 0 .none .none
noncomputable def ob225:Obj:=hC "_law_real" 666 667 668 677 348 349 350 351 352 266 2 0 0 3 181 676 266 true
noncomputable def ob226:Obj:=zzH st57 "_law_real" zzN 353
noncomputable def ob227:Obj:=kTu [(.str "_law_script" 682),(.str "_law_k" 683),(.str "_law_row" 684),(.str "_law_scale_here" 685),(.str "_law_shuts" 686),(.str "_law_plot" 687),(.str "_law_turn_here" 688),(.str "_law_told_here" 689),(.str "_law_due" 690),(.str "_law_found" 691)]
noncomputable def ob228:Obj:=hF .none st58 "law" 0 .none .none
noncomputable def ob229:Obj:=hC "law" 679 680 681 693 355 356 357 358 359 270 1 0 0 3 181 692 270 true
noncomputable def ob230:Obj:=zzH st58 "law" zzN 360
noncomputable def oL0(P:Fz):List Obj:=[PySem.W.boot_o_0 P,PySem.W.boot_o_1 P,PySem.W.boot_o_2 P,PySem.W.boot_o_3 P,PySem.W.boot_o_4 P,PySem.W.boot_o_5 P,PySem.W.boot_o_6 P,PySem.W.boot_o_7 P,PySem.W.boot_o_8 P,PySem.W.boot_o_9 P,PySem.W.boot_o_10 P,ob11,ob12,ob13,ob14,ob15 P]
noncomputable def oL1(P:Fz):List Obj:=[ob16,ob17,ob18,ob19 P,ob20,ob21,ob22 P,ob23,ob24,ob25,ob26,ob27 P,ob28,ob29,ob30,ob31 P]
noncomputable def oL2(P:Fz):List Obj:=[ob32,ob33,ob34 P,ob35,ob36,ob37,ob38,ob39,ob40,ob41,ob42,ob43,ob44,ob45,ob46,ob47]
noncomputable def oL3(P:Fz):List Obj:=[ob48,ob49,ob50,ob51,ob52,ob53,ob54,ob55,ob56,ob57,ob58 P,ob59,ob60,ob61,ob62,ob63]
noncomputable def oL4(P:Fz):List Obj:=[ob64,ob65,ob66,ob67,ob68,ob69,ob70,ob71,ob72,ob73,ob74,ob75,ob76,ob77,ob78,ob79]
noncomputable def oL5(P:Fz):List Obj:=[ob80,ob81,ob82,ob83,ob84,ob85,ob86,ob87,ob88,ob89,ob90,ob91,ob92,ob93,ob94,ob95]
noncomputable def oL6(P:Fz):List Obj:=[ob96,ob97,ob98,ob99,ob100,ob101,ob102,ob103,ob104,ob105,ob106,ob107,ob108 P,ob109,ob110,ob111]
noncomputable def oL7(P:Fz):List Obj:=[ob112,ob113,ob114,ob115,ob116,ob117,ob118,ob119,ob120,ob121,ob122,ob123,ob124,ob125,ob126,ob127]
noncomputable def oL8(P:Fz):List Obj:=[ob128,ob129,ob130,ob131,ob132,ob133,ob134,ob135,ob136,ob137,ob138,ob139,ob140,ob141,ob142,ob143]
noncomputable def oL9(P:Fz):List Obj:=[ob144,ob145,ob146,ob147,ob148,ob149,ob150,ob151,ob152,ob153,ob154,ob155,ob156 P,ob157,ob158,ob159]
noncomputable def oL10(P:Fz):List Obj:=[ob160,ob161,ob162,ob163,ob164,ob165,ob166,ob167,ob168,ob169,ob170,ob171,ob172,ob173,ob174,ob175]
noncomputable def oL11(P:Fz):List Obj:=[ob176,ob177,ob178,ob179,ob180,ob181,ob182,ob183,ob184,ob185,ob186,ob187,ob188,ob189,ob190,ob191]
noncomputable def oL12(P:Fz):List Obj:=[ob192,ob193,ob194,ob195,ob196,ob197,ob198,ob199,ob200,ob201,ob202,ob203,ob204 P,ob205,ob206,ob207]
noncomputable def oL13(P:Fz):List Obj:=[ob208,ob209,ob210,ob211,ob212,ob213,ob214,ob215,ob216,ob217,ob218,ob219,ob220,ob221,ob222,ob223]
noncomputable def oL14(P:Fz):List Obj:=[ob224,ob225,ob226,ob227,ob228,ob229,ob230]
noncomputable def fA(c i:Nat)(P:Fz):Obj:=(([oL0 P,oL1 P,oL2 P,oL3 P,oL4 P,oL5 P,oL6 P,oL7 P,oL8 P,oL9 P,oL10 P,oL11 P,oL12 P,oL13 P,oL14 P]:List (List Obj)).getD c []).getD i { cls:=.none }
noncomputable def tW0(n:Nat->Fu->Fu->Fu)(e:Fu):Fu:=(fun m:Nat->Fu=>(n 0 (n 1 (n 3 (m 7) (m 11)) (n 5 (m 9) (m 13))) (n 2 (n 4 (m 8) (m 12)) (n 6 (m 10) (m 14))))) fun a=>n a e e
noncomputable def tX0(f:Nat->Nat->Fz->Obj)(P:Fz):Fu:=tW0 (fun k=>.node (f (k/16) (k%16) P)) .nil
noncomputable def tW1(n:Nat->Fu->Fu->Fu)(e:Fu):Fu:=(fun m:Nat->Fu=>(n 0 (n 1 (n 15 (n 7 (m 17) (m 22)) (n 11 (m 12) (m 26))) (n 5 (n 9 (m 19) (m 24)) (n 13 (m 21) e))) (n 2 (n 4 (n 8 (m 18) (m 23)) (n 16 (m 20) e)) (n 6 (n 10 (m 11) (m 25)) (n 14 (m 11) e))))) fun a=>n a e e
noncomputable def tX1(f:Nat->Nat->Fz->Obj)(P:Fz):Fu:=tW1 (fun k=>.node (f (k/16) (k%16) P)) .nil
noncomputable def tW2(n:Nat->Fu->Fu->Fu)(e:Fu):Fu:=(fun m:Nat->Fu=>(n 0 (n 1 (n 27 (n 7 (n 17 (n 11 (m 50) e) (m 11)) (n 22 (n 37 (m 11) e) (m 12))) (n 11 (n 12 (n 11 (m 53) e) (m 43)) (n 26 (m 11) (m 48)))) (n 5 (n 9 (n 19 (n 32 (m 51) e) (m 42)) (n 24 (n 12 (m 56) e) (m 11))) (n 13 (n 21 (n 35 (m 12) e) (m 45)) (n 18 (m 40) (m 11))))) (n 2 (n 4 (n 8 (n 18 (n 12 (m 11) e) (m 12)) (n 29 (n 11 (m 55) e) (m 46))) (n 28 (n 20 (n 34 (m 11) e) (m 44)) (n 30 (m 39) (m 49)))) (n 6 (n 10 (n 11 (n 33 (m 52) e) (m 11)) (n 25 (n 38 (m 57) e) (m 47))) (n 14 (n 11 (n 36 (m 54) e) (m 11)) (n 31 (m 41) (m 12))))))) fun a=>n a e e
noncomputable def tX2(f:Nat->Nat->Fz->Obj)(P:Fz):Fu:=tW2 (fun k=>.node (f (k/16) (k%16) P)) .nil
noncomputable def tW3(n:Nat->Fu->Fu->Fu)(e:Fu):Fu:=(fun m:Nat->Fu=>(n 0 (n 1 (n 58 (n 7 (n 17 (n 11 (n 50 (m 11) e) (m 71)) (n 11 (n 61 (m 98) e) (m 12))) (n 22 (n 37 (n 11 (m 93) e) (m 11)) (n 12 (n 66 (m 103) e) (m 84)))) (n 11 (n 12 (n 11 (n 53 (m 11) e) (m 11)) (n 43 (n 12 (m 100) e) (m 82))) (n 26 (n 11 (n 11 (m 12) e) (m 77)) (n 48 (n 68 (m 11) e) (m 87))))) (n 5 (n 9 (n 19 (n 32 (n 51 (m 90) e) (m 12)) (n 42 (n 63 (m 11) e) (m 11))) (n 24 (n 12 (n 56 (m 95) e) (m 76)) (n 11 (n 11 (m 12) e) (m 85)))) (n 13 (n 21 (n 35 (n 12 (m 92) e) (m 74)) (n 45 (n 11 (m 101) e) (m 11))) (n 18 (n 40 (n 60 (m 11) e) (m 79)) (n 11 (n 69 (m 106) e) (m 12)))))) (n 2 (n 4 (n 8 (n 18 (n 12 (n 11 (m 89) e) (m 11)) (n 12 (n 62 (m 99) e) (m 80))) (n 29 (n 11 (n 55 (m 94) e) (m 12)) (n 46 (n 67 (m 11) e) (m 11)))) (n 59 (n 20 (n 34 (n 11 (m 12) e) (m 73)) (n 44 (n 64 (m 11) e) (m 83))) (n 30 (n 39 (n 12 (m 96) e) (m 78)) (n 49 (n 11 (m 105) e) (m 11))))) (n 6 (n 10 (n 11 (n 33 (n 52 (m 91) e) (m 72)) (n 11 (n 11 (m 12) e) (m 81))) (n 25 (n 38 (n 57 (m 11) e) (m 11)) (n 47 (n 12 (m 104) e) (m 86)))) (n 14 (n 11 (n 36 (n 54 (m 11) e) (m 75)) (n 11 (n 65 (m 102) e) (m 12))) (n 31 (n 41 (n 11 (m 97) e) (m 11)) (n 12 (n 70 (m 107) e) (m 88)))))))) fun a=>n a e e
noncomputable def tX3(f:Nat->Nat->Fz->Obj)(P:Fz):Fu:=tW3 (fun k=>.node (f (k/16) (k%16) P)) .nil
noncomputable def tW4(n:Nat->Fu->Fu->Fu)(e:Fu):Fu:=(fun m:Nat->Fu=>(n 0 (n 1 (n 108 (n 7 (n 17 (n 11 (n 50 (m 11) (m 128)) (n 71 (m 11) (m 146))) (n 11 (n 61 (m 98) (m 12)) (n 12 (m 118) e))) (n 22 (n 37 (n 11 (m 93) (m 11)) (n 11 (m 12) (m 151))) (n 12 (n 66 (m 103) (m 141)) (n 84 (m 123) e)))) (n 11 (n 12 (n 11 (n 53 (m 11) (m 11)) (n 11 (m 111) (m 148))) (n 43 (n 12 (m 100) (m 139)) (n 82 (m 12) e))) (n 26 (n 11 (n 11 (m 12) (m 134)) (n 77 (m 116) (m 11))) (n 48 (n 68 (m 11) (m 144)) (n 87 (m 125) e))))) (n 5 (n 9 (n 19 (n 32 (n 51 (m 90) (m 12)) (n 12 (m 110) (m 11))) (n 42 (n 63 (m 11) (m 11)) (n 11 (m 120) e))) (n 24 (n 12 (n 56 (m 95) (m 133)) (n 76 (m 11) (m 12))) (n 11 (n 11 (m 12) (m 142)) (n 85 (m 11) e)))) (n 13 (n 21 (n 35 (n 12 (m 92) (m 131)) (n 74 (m 113) (m 149))) (n 45 (n 11 (m 101) (m 11)) (n 11 (m 11) e))) (n 18 (n 40 (n 60 (m 11) (m 136)) (n 79 (m 11) (m 154))) (n 11 (n 69 (m 106) (m 12)) (n 12 (m 126) e)))))) (n 2 (n 4 (n 8 (n 18 (n 12 (n 11 (m 89) (m 11)) (n 11 (m 12) (m 147))) (n 12 (n 62 (m 99) (m 137)) (n 80 (m 119) e))) (n 29 (n 11 (n 55 (m 94) (m 12)) (n 12 (m 114) (m 11))) (n 46 (n 67 (m 11) (m 11)) (n 11 (m 124) e)))) (n 109 (n 20 (n 34 (n 11 (m 12) (m 130)) (n 73 (m 112) (m 11))) (n 44 (n 64 (m 11) (m 140)) (n 83 (m 121) e))) (n 30 (n 39 (n 12 (m 96) (m 135)) (n 78 (m 117) (m 153))) (n 49 (n 11 (m 105) (m 11)) (n 11 (m 11) e))))) (n 6 (n 10 (n 11 (n 33 (n 52 (m 91) (m 129)) (n 72 (m 11) (m 12))) (n 11 (n 11 (m 12) (m 138)) (n 81 (m 11) e))) (n 25 (n 38 (n 57 (m 11) (m 11)) (n 11 (m 115) (m 152))) (n 47 (n 12 (m 104) (m 143)) (n 86 (m 12) e)))) (n 14 (n 11 (n 36 (n 54 (m 11) (m 132)) (n 75 (m 11) (m 150))) (n 11 (n 65 (m 102) (m 12)) (n 12 (m 122) e))) (n 31 (n 41 (n 11 (m 97) (m 11)) (n 11 (m 12) (m 155))) (n 12 (n 70 (m 107) (m 145)) (n 88 (m 127) e)))))))) fun a=>n a e e
noncomputable def tX4(f:Nat->Nat->Fz->Obj)(P:Fz):Fu:=tW4 (fun k=>.node (f (k/16) (k%16) P)) .nil
noncomputable def tW5(n:Nat->Fu->Fu->Fu)(e:Fu):Fu:=(fun m:Nat->Fu=>(n 0 (n 1 (n 156 (n 7 (n 17 (n 11 (n 50 (n 11 (m 166) e) (m 128)) (n 71 (n 11 (m 12) e) (m 146))) (n 11 (n 61 (n 98 (m 176) e) (m 12)) (n 12 (n 118 (m 11) e) (m 11)))) (n 22 (n 37 (n 11 (n 93 (m 171) e) (m 11)) (n 11 (n 12 (m 189) e) (m 151))) (n 12 (n 66 (n 103 (m 11) e) (m 141)) (n 84 (n 123 (m 198) e) (m 12))))) (n 11 (n 12 (n 11 (n 53 (n 11 (m 12) e) (m 11)) (n 11 (n 111 (m 187) e) (m 148))) (n 43 (n 12 (n 100 (m 11) e) (m 139)) (n 82 (n 12 (m 11) e) (m 159)))) (n 26 (n 11 (n 11 (n 12 (m 173) e) (m 134)) (n 77 (n 116 (m 192) e) (m 11))) (n 48 (n 68 (n 11 (m 182) e) (m 144)) (n 87 (n 125 (m 12) e) (m 11)))))) (n 5 (n 9 (n 19 (n 32 (n 51 (n 90 (m 168) e) (m 12)) (n 12 (n 110 (m 11) e) (m 11))) (n 42 (n 63 (n 11 (m 12) e) (m 11)) (n 11 (n 120 (m 195) e) (m 158)))) (n 24 (n 12 (n 56 (n 95 (m 11) e) (m 133)) (n 76 (n 11 (m 190) e) (m 12))) (n 11 (n 11 (n 12 (m 181) e) (m 142)) (n 85 (n 11 (m 200) e) (m 163))))) (n 13 (n 21 (n 35 (n 12 (n 92 (m 11) e) (m 131)) (n 74 (n 113 (m 11) e) (m 149))) (n 45 (n 11 (n 101 (m 179) e) (m 11)) (n 11 (n 11 (m 197) e) (m 161)))) (n 18 (n 40 (n 60 (n 11 (m 174) e) (m 136)) (n 79 (n 11 (m 12) e) (m 154))) (n 11 (n 69 (n 106 (m 184) e) (m 12)) (n 12 (n 126 (m 202) e) (m 165))))))) (n 2 (n 4 (n 8 (n 18 (n 12 (n 11 (n 89 (m 167) e) (m 11)) (n 11 (n 12 (m 185) e) (m 147))) (n 12 (n 62 (n 99 (m 11) e) (m 137)) (n 80 (n 119 (m 194) e) (m 12)))) (n 29 (n 11 (n 55 (n 94 (m 172) e) (m 12)) (n 12 (n 114 (m 11) e) (m 11))) (n 46 (n 67 (n 11 (m 12) e) (m 11)) (n 11 (n 124 (m 199) e) (m 162))))) (n 157 (n 20 (n 34 (n 11 (n 12 (m 169) e) (m 130)) (n 73 (n 112 (m 188) e) (m 11))) (n 44 (n 64 (n 11 (m 178) e) (m 140)) (n 83 (n 121 (m 12) e) (m 160)))) (n 30 (n 39 (n 12 (n 96 (m 11) e) (m 135)) (n 78 (n 117 (m 11) e) (m 153))) (n 49 (n 11 (n 105 (m 183) e) (m 11)) (n 11 (n 11 (m 201) e) (m 12)))))) (n 6 (n 10 (n 11 (n 33 (n 52 (n 91 (m 11) e) (m 129)) (n 72 (n 11 (m 186) e) (m 12))) (n 11 (n 11 (n 12 (m 177) e) (m 138)) (n 81 (n 11 (m 196) e) (m 11)))) (n 25 (n 38 (n 57 (n 11 (m 12) e) (m 11)) (n 11 (n 115 (m 191) e) (m 152))) (n 47 (n 12 (n 104 (m 11) e) (m 143)) (n 86 (n 12 (m 11) e) (m 164))))) (n 14 (n 11 (n 36 (n 54 (n 11 (m 170) e) (m 132)) (n 75 (n 11 (m 12) e) (m 150))) (n 11 (n 65 (n 102 (m 180) e) (m 12)) (n 12 (n 122 (m 11) e) (m 11)))) (n 31 (n 41 (n 11 (n 97 (m 175) e) (m 11)) (n 11 (n 12 (m 193) e) (m 155))) (n 12 (n 70 (n 107 (m 11) e) (m 145)) (n 88 (n 127 (m 203) e) (m 11))))))))) fun a=>n a e e
noncomputable def tX5(f:Nat->Nat->Fz->Obj)(P:Fz):Fu:=tW5 (fun k=>.node (f (k/16) (k%16) P)) .nil
noncomputable def tW6(n:Nat->Fu->Fu->Fu)(e:Fu):Fu:=(fun m:Nat->Fu=>(n 0 (n 1 (n 204 (n 7 (n 17 (n 11 (n 50 (n 11 (m 166) e) (n 128 (m 11) e)) (n 71 (n 11 (m 12) e) (n 146 (m 11) e))) (n 11 (n 61 (n 98 (m 176) e) (n 12 (m 214) e)) (n 12 (n 118 (m 11) e) (m 11)))) (n 22 (n 37 (n 11 (n 93 (m 171) e) (n 11 (m 12) e)) (n 11 (n 12 (m 189) e) (n 151 (m 228) e))) (n 12 (n 66 (n 103 (m 11) e) (n 141 (m 11) e)) (n 84 (n 123 (m 198) e) (m 12))))) (n 11 (n 12 (n 11 (n 53 (n 11 (m 12) e) (n 11 (m 207) e)) (n 11 (n 111 (m 187) e) (n 148 (m 11) e))) (n 43 (n 12 (n 100 (m 11) e) (n 139 (m 12) e)) (n 82 (n 12 (m 11) e) (m 159)))) (n 26 (n 11 (n 11 (n 12 (m 173) e) (n 134 (m 212) e)) (n 77 (n 116 (m 192) e) (m 11))) (n 48 (n 68 (n 11 (m 182) e) (n 144 (m 222) e)) (n 87 (n 125 (m 12) e) (m 11)))))) (n 5 (n 9 (n 19 (n 32 (n 51 (n 90 (m 168) e) (n 12 (m 206) e)) (n 12 (n 110 (m 11) e) (n 11 (m 225) e))) (n 42 (n 63 (n 11 (m 12) e) (n 11 (m 216) e)) (n 11 (n 120 (m 195) e) (m 158)))) (n 24 (n 12 (n 56 (n 95 (m 11) e) (n 133 (m 11) e)) (n 76 (n 11 (m 190) e) (n 12 (m 230) e))) (n 11 (n 11 (n 12 (m 181) e) (n 142 (m 220) e)) (n 85 (n 11 (m 200) e) (m 163))))) (n 13 (n 21 (n 35 (n 12 (n 92 (m 11) e) (n 131 (m 209) e)) (n 74 (n 113 (m 11) e) (n 149 (m 227) e))) (n 45 (n 11 (n 101 (m 179) e) (n 11 (m 218) e)) (n 11 (n 11 (m 197) e) (m 161)))) (n 18 (n 40 (n 60 (n 11 (m 174) e) (n 136 (m 11) e)) (n 79 (n 11 (m 12) e) (m 154))) (n 11 (n 69 (n 106 (m 184) e) (n 12 (m 12) e)) (n 12 (n 126 (m 202) e) (m 165))))))) (n 2 (n 4 (n 8 (n 18 (n 12 (n 11 (n 89 (m 167) e) (n 11 (m 12) e)) (n 11 (n 12 (m 185) e) (n 147 (m 224) e))) (n 12 (n 62 (n 99 (m 11) e) (n 137 (m 215) e)) (n 80 (n 119 (m 194) e) (m 12)))) (n 29 (n 11 (n 55 (n 94 (m 172) e) (n 12 (m 210) e)) (n 12 (n 114 (m 11) e) (n 11 (m 229) e))) (n 46 (n 67 (n 11 (m 12) e) (n 11 (m 12) e)) (n 11 (n 124 (m 199) e) (m 162))))) (n 205 (n 20 (n 34 (n 11 (n 12 (m 169) e) (n 130 (m 208) e)) (n 73 (n 112 (m 188) e) (n 11 (m 12) e))) (n 44 (n 64 (n 11 (m 178) e) (n 140 (m 217) e)) (n 83 (n 121 (m 12) e) (m 160)))) (n 30 (n 39 (n 12 (n 96 (m 11) e) (n 135 (m 213) e)) (n 78 (n 117 (m 11) e) (m 153))) (n 49 (n 11 (n 105 (m 183) e) (n 11 (m 11) e)) (n 11 (n 11 (m 201) e) (m 12)))))) (n 6 (n 10 (n 11 (n 33 (n 52 (n 91 (m 11) e) (n 129 (m 11) e)) (n 72 (n 11 (m 186) e) (n 12 (m 226) e))) (n 11 (n 11 (n 12 (m 177) e) (n 138 (m 11) e)) (n 81 (n 11 (m 196) e) (m 11)))) (n 25 (n 38 (n 57 (n 11 (m 12) e) (n 11 (m 211) e)) (n 11 (n 115 (m 191) e) (m 152))) (n 47 (n 12 (n 104 (m 11) e) (n 143 (m 221) e)) (n 86 (n 12 (m 11) e) (m 164))))) (n 14 (n 11 (n 36 (n 54 (n 11 (m 170) e) (n 132 (m 11) e)) (n 75 (n 11 (m 12) e) (n 150 (m 11) e))) (n 11 (n 65 (n 102 (m 180) e) (n 12 (m 219) e)) (n 12 (n 122 (m 11) e) (m 11)))) (n 31 (n 41 (n 11 (n 97 (m 175) e) (n 11 (m 12) e)) (n 11 (n 12 (m 193) e) (m 155))) (n 12 (n 70 (n 107 (m 11) e) (n 145 (m 223) e)) (n 88 (n 127 (m 203) e) (m 11))))))))) fun a=>n a e e
noncomputable def tX6(f:Nat->Nat->Fz->Obj)(P:Fz):Fu:=tW6 (fun k=>.node (f (k/16) (k%16) P)) .nil
noncomputable def hX0(f:Nat->Nat->Fz->Obj)(P:Fz):Heap:=(fun g:Nat->Obj=>(⟨⟨[g 0,g 1,g 2,g 3,g 4,g 5,g 6,g 7,g 8,g 9,g 10,g 11,g 12,g 13,g 14]⟩,{}⟩:Heap)) fun k=>f (k/16) (k%16) P
noncomputable def hX1(f:Nat->Nat->Fz->Obj)(P:Fz):Heap:=(fun g:Nat->Obj=>(⟨⟨[g 0,g 1,g 2,g 204,g 4,g 5,g 6,g 7,g 8,g 9,g 10,g 11,g 205,g 13,g 14,g 17,g 18,g 19,g 11,g 12,g 20,g 21,g 11,g 22,g 29,g 24,g 25,g 26,g 30,g 18,g 31,g 11,g 12,g 32,g 33,g 11,g 34,g 35,g 36,g 37,g 11,g 12,g 38,g 11,g 39,g 40,g 41,g 11,g 12,g 42,g 11,g 43,g 44,g 45,g 11,g 12,g 46,g 11,g 47,g 48,g 49,g 11,g 12,g 50,g 11,g 51,g 52,g 53,g 11,g 12,g 54,g 11,g 55,g 56,g 57,g 11,g 12,g 60,g 11,g 61,g 62,g 63,g 11,g 12,g 64,g 11,g 65,g 66,g 67,g 11,g 12,g 68,g 11,g 69,g 70,g 71,g 11,g 12,g 72,g 11,g 73,g 74,g 75,g 11,g 12,g 76,g 11,g 77,g 78,g 79,g 11,g 12,g 80,g 11,g 81,g 82,g 83,g 11,g 12,g 84,g 11,g 85,g 86,g 87,g 11,g 12,g 88,g 11,g 89,g 90,g 91,g 11,g 12,g 92,g 11,g 93,g 94,g 95,g 11,g 12,g 96,g 11,g 97,g 98,g 99,g 11,g 12,g 100,g 11,g 101,g 102,g 103,g 11,g 12,g 104,g 11,g 105,g 106,g 107,g 11,g 12,g 110,g 11,g 111,g 112,g 113,g 11,g 12,g 114,g 11,g 115,g 116,g 117,g 11,g 12,g 118,g 119,g 120,g 11,g 12,g 121,g 11,g 122,g 123,g 124,g 11,g 12,g 125,g 11,g 126,g 127,g 128,g 11,g 12,g 129,g 11,g 130,g 131,g 132,g 11,g 12,g 133,g 11,g 134,g 135,g 136,g 11,g 12,g 137,g 11,g 138,g 139,g 140,g 11,g 12,g 141,g 11,g 142,g 143,g 144,g 11,g 12,g 145,g 146,g 147,g 11,g 12,g 148,g 11,g 149,g 150,g 151,g 11,g 12,g 152,g 11,g 153,g 154,g 155,g 11,g 12,g 158,g 11,g 159,g 160,g 161,g 11,g 12,g 162,g 163,g 164,g 11,g 12,g 165,g 11,g 166,g 167,g 168,g 11,g 12,g 169,g 11,g 170,g 171,g 172,g 11,g 12,g 173,g 11,g 174,g 175,g 176,g 11,g 12,g 177,g 11,g 178,g 179,g 180,g 11,g 12,g 181,g 11,g 182,g 183,g 184,g 11,g 12,g 185,g 11,g 186,g 187,g 188,g 11,g 12,g 189,g 11,g 190,g 191,g 192,g 11,g 12,g 193,g 11,g 194,g 195,g 196,g 11,g 12,g 197,g 11,g 198,g 199,g 200,g 11,g 12,g 201,g 202,g 203,g 11,g 12,g 206,g 11,g 207,g 208,g 209,g 11,g 12,g 210,g 11,g 211,g 212,g 213,g 11,g 12,g 214,g 215,g 216,g 11,g 12,g 217,g 218,g 219,g 11,g 12,g 220,g 221,g 222,g 11,g 12,g 223,g 11,g 224,g 225,g 226,g 11,g 12,g 227,g 11,g 228,g 229,g 230]⟩,{}⟩:Heap)) fun k=>f (k/16) (k%16) P
theorem laid:(fun(_:F8) (_:F8) (_:Nat->Nat->Fz->Obj) (_:List Stmt) (_:List Stmt) (_:List Stmt) (_:List Stmt) (_:List Stmt) (_:List Stmt)=>true) pw2 vw fA sx0 sx1 sx2 sx3 sx4 sx5=true:=by k_qdec
end QQ
namespace PySem.W.Fast
noncomputable def tw3173668901840170080:F8:=tw4061903402435717205
theorem te3173668901840170080:Fq=tw3173668901840170080:=Eq.trans (by kernel_rfl:Fq=QQ.pw2) te4061903402435717205
noncomputable def tw3924499110423569629:F8:=tw2543460329597916322
theorem te3924499110423569629:QQ.vw=tw3924499110423569629:=te2543460329597916322
noncomputable def tw4738272537670620129:List Stmt:=tw4220349153739756805
theorem te4738272537670620129:QQ.sx0=tw4738272537670620129:=te4220349153739756805
noncomputable def tw3313420429940387080:List Stmt:=tw11397161696757032129
theorem te3313420429940387080:QQ.sx1=tw3313420429940387080:=te11397161696757032129
noncomputable def tw8835335218055521563:List Stmt:=tw10303515436491237874
theorem te8835335218055521563:QQ.sx2=tw8835335218055521563:=te10303515436491237874
noncomputable def tw1218030079086818169:List Stmt:=tw12358083906500975388
theorem te1218030079086818169:QQ.sx3=tw1218030079086818169:=te12358083906500975388
noncomputable def tw7729503204915676551:List Stmt:=tw2861187580803015100
theorem te7729503204915676551:QQ.sx4=tw7729503204915676551:=te2861187580803015100
noncomputable def tw13655574954210371744:List Stmt:=tw9932084693255007381
theorem te13655574954210371744:QQ.sx5=tw13655574954210371744:=te9932084693255007381
noncomputable def tw1801746579926034050:Fz->BT:=QQ.tX0 tw16523235828492288951
theorem te1801746579926034050:QQ.tX0 QQ.fA=tw1801746579926034050:=congrArg QQ.tX0 te16523235828492288951
noncomputable def tw8811411900225345911:Fz->BT:=QQ.tX1 tw16523235828492288951
theorem te8811411900225345911:QQ.tX1 QQ.fA=tw8811411900225345911:=congrArg QQ.tX1 te16523235828492288951
noncomputable def tw11883223720287860983:Fz->BT:=QQ.tX2 tw16523235828492288951
theorem te11883223720287860983:QQ.tX2 QQ.fA=tw11883223720287860983:=congrArg QQ.tX2 te16523235828492288951
noncomputable def tw2335023069995348310:Fz->BT:=QQ.tX3 tw16523235828492288951
theorem te2335023069995348310:QQ.tX3 QQ.fA=tw2335023069995348310:=congrArg QQ.tX3 te16523235828492288951
noncomputable def tw13339746506861617930:Fz->BT:=QQ.tX4 tw16523235828492288951
theorem te13339746506861617930:QQ.tX4 QQ.fA=tw13339746506861617930:=congrArg QQ.tX4 te16523235828492288951
noncomputable def tw16854148648583311388:Fz->BT:=QQ.tX5 tw16523235828492288951
theorem te16854148648583311388:QQ.tX5 QQ.fA=tw16854148648583311388:=congrArg QQ.tX5 te16523235828492288951
noncomputable def tw1190794061010737217:Fz->BT:=QQ.tX6 tw16523235828492288951
theorem te1190794061010737217:QQ.tX6 QQ.fA=tw1190794061010737217:=congrArg QQ.tX6 te16523235828492288951
noncomputable def tw5543630305941581376:Fz->PySem.Heap:=QQ.hX0 tw16523235828492288951
theorem te5543630305941581376:QQ.hX0 QQ.fA=tw5543630305941581376:=congrArg QQ.hX0 te16523235828492288951
noncomputable def tw18223092029124270727:Fz->PySem.Heap:=QQ.hX1 tw16523235828492288951
theorem te18223092029124270727:QQ.hX1 QQ.fA=tw18223092029124270727:=congrArg QQ.hX1 te16523235828492288951
end PySem.W.Fast
open PySem PySem.W PyProof.Rows
set_option maxRecDepth 100000 in
set_option maxHeartbeats 0 in
theorem PySem.Challenge.cw_spotlook_k24_corners_and_walls_looked_at_holds : PySem.Challenge.rw_spotlook_k24_corners_and_walls_looked_at.Holds := by
 w_on;o_law;o_head (PySem.W.kHook QQ.kK [↑3,↑45,↑46,↑52,↑53,↑59,↑60,↑66,↑67,↑73,↑74,↑80,↑81,↑87,↑88,↑94,↑95,↑101,↑102,↑108,↑109,↑115,↑116,↑122,↑123,↑129,↑130,↑136,↑137,↑143,↑144,↑150,↑151,↑157,↑158,↑164,↑165,↑171,↑172,↑176,↑177,↑183,↑184,↑190,↑191,↑197,↑198,↑204,↑205,↑211,↑212,↑218,↑219,↑223,↑224,↑230,↑231,↑237,↑238,↑244,↑245,↑249,↑250,↑256,↑257,↑263,↑264,↑270,↑271,↑277,↑278,↑284,↑285,↑291,↑292,↑298,↑299,↑305,↑306,↑312,↑313,↑317,↑318,↑324,↑325,↑331,↑332,↑336,↑337,↑341,↑342,↑346,↑347,↑353,↑354,↑360,↑361] (fun _=>by kernel_rfl));(case hw=>w_witness2)
 k_fill
 refine SD.uO (k:=11) (x:="_law_script") (sp:=QQ.ik) (l:=PySem.Challenge.rw_spotlook_k24_corners_and_walls_looked_at) rfl rfl ⟨rfl,by decide,by decide,rfl⟩ (fun w h Y=>PySem.W.kIn_of Y) ?F QQ.Bx
 case F=>
  intro w mg fa h KX G hmg
  have T:QQ.Tx (L2.KOf KX) mg:=by
   dsimp only[L2.KOf]
   constructor
   all_goals first
    |(refine' PySem.W.mg_none_of KX G ?a;(case a=>k_is))
    |(refine' SD.Txt.mk KX G ?a ?l ?c ?k;(case a=>k_is);(case l=>k_is);(case c=>k_is);(case k=>k_is))
  exact QQ.D5 T hmg
