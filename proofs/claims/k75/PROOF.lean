import PyProof.Rows.All
import Wide.All
import OpenK.AllK
import Wide.FinOn
import Lean
import PyProof.EqAt
import PyProof.EqKinds
import PyProof.TupleCall
import PySem.Challenge.RW_spotlook_k75_wrong_rows_together
open Array renaming all_eq_true_iff_forall_mem->IZ,length_toList->Jo
open Bool renaming false_ne_true->G6,and_eq_true->Hl,eq_iff_iff->Hy,not_eq_true'->Il,or_eq_true->JG
open False renaming elim->IU
open Int renaming sign_eq_neg_one_of_neg->Ht,sign->HC,sign_eq_one_of_pos->HI,lt_trichotomy->Ij,mul_pos->II,mul_le_mul_of_nonneg_left->Jf,eq_ofNat_of_zero_le->Jk,mul_eq_zero->Jm,ofNat->JP
open List renaming length_map->G4,getElem?_map->G9,mem_cons_of_mem->GZ,toArray->Ha,size_toArray->Hg,mem_of_getElem?->Hh,getElem?_eq_some_iff->Hj,map_cons->Ho,mem_cons->Hr,mem_singleton->Hu,mem_append->Hv,length_cons->Hw,mem_cons_self->Hx,range->HF,getElem?_eq_getElem->HG,getElem?_append_right->HZ,mem_append_right->Ib,getElem?_append_left->Ig,map_append->Ik,getElem?_eq_none->Ip,map->Ir,mem_map->IB,length_nil->IC,length_append->ID,lookup_cons->IH,zip_cons_cons->IP,all_eq_true->IS,append_nil->J0,mem_filterMap->J3,any_cons->J7,filterMap_cons->Jn,map_map->Jr,lookup->Js,not_mem_nil->Jw,replicate->Jx
open Nat renaming lt_of_lt_of_le->G8,le_refl->GY,le_trans->He,ne_of_lt->HJ,lt_irrefl->IX,zero_le->Jb
open Option renaming bind_some->HD
open PyProof.Rows renaming IntsAre->IE
open PySem renaming Value->G0,wpAny_bind->G2,Shared->G3,Params->GW,sizeLine->GX,starEach->Hc,wpAny_pure->Hd,wpAny->Hf,Program->Hi,model->Hm,compareOp->Hn,mainGlobals->HK,World->HL,Around->HM,mem_of_lookup->HQ,wpAny_mono->HS,bootBuiltins->HX,assignEach->Im,wpAny_truthy_bool->Iv,DictEntry->Iz,wpAny_loadPart'->IF,wpAny_holding->IG,wpAny_newObj_type->IJ,foldedSetIterable->IK,backTo->IV,cellsFrom->IW,Spec->IY,binaryOp->J2,attributeBase->J5,FuncData->Jc,wpAny_pyNext_tuple_item->Jh,wpAny_getItem_str_slice->Jj,NameKind->Jp,typeIs_str->Jy,wpAny_tryCatch->JA,wpAny_passesOwn->JC,codeAny_builtin->JE,Scope->JH,cLine->JI,codeAny_call_builtin->JJ,wpAny_standAt->JL,plainId_quiet->JM,PyData->JO
open PySem.Around renaming under_plainId->Je
open PySem.Builtin.ObjectAttr renaming storeInDict->J4
open PySem.Builtin.Tuple renaming tupleCompareSizes->J1
open PySem.Challenge renaming pw_spotlook_k75_wrong_rows_together->HE
open PySem.EntryCells renaming newEntry->Jq
open PySem.F renaming slot_str_getitem->Ja,plain_max_loop->Ju,plain_min_loop->Jv
open PySem.Heap renaming get?_push_of_some->G5,lt_size->Hb,get?_push_size->Hk,get?_update_other->Hs,get?_update_self->IA,size_push->Jz
open PySem.NameKind renaming free->Jt
open PySem.PassesOwn renaming never->Ie
open PySem.PyData renaming eqvAll->Hq,eqv->Hz,canLayAll0->HH,depthAll->HR,canLay0->Iw,strOk->J6
open PySem.Sem renaming wp_bind'->Ii
open PySem.SeqAt renaming shaped->Ia
open PySem.Str renaming ofString->G1,join->HP,empty->IL
open PySem.StrLaws renaming join_split->JB
open PySem.Txt renaming split->HN,partition->Iy,slice->IT,startswith->Jg,slice_le->JK
open PySem.Value renaming ref->Iq,none->Iu,bool->IM,builtin->J9
open PySem.W renaming Frag->cc,BT->G7,subIn->HY,nsIn->Ih,kitOne->Io,fnOf->IQ,keepIn->Jd,hasDictIn->Ji,kia_one->JD,excIn->JN
open Rat renaming num_divInt_den->Ic,intCast_mul->Jl,intCast_sub->JF
local macro_rules | `(↑$n:num) => `(nat_lit $n)
set_option Elab.async false
set_option linter.all false
set_option maxRecDepth 100000
set_option maxHeartbeats 4000000
theorem nbL{n m:Nat}(h:Nat.ble n m=true):n<=m:=Nat.le_of_ble_eq_true h
namespace L2
open PySem PySem.Spec PyProof.Rows
abbrev Key:=Sum Int Str
def Bx:Key->G0->Bool
 |.inl k,v=>Value.isInt k v
 |.inr x,v=>Value.isStrOf x v
def GS(w:HL):Key->Int
 |.inl k=>hashInt k
 |.inr x=>hashStr w x
theorem bW:∀{k:Key} {v:G0},Bx k v=true->(∃i t,k=Sum.inl i/\v=Value.int i t)\/(∃x t,k=Sum.inr x/\v=Value.str x t)
 |.inl i,v,h=>by
  obtain⟨t,e⟩:=Value.isInt_shape (k:=i) (v:=v) h
  exact .inl ⟨i,t,rfl,e⟩
 |.inr x,v,h=>by
  obtain⟨t,e⟩:=Value.isStrOf_shape (x:=x) (v:=v) h
  exact .inr ⟨x,t,rfl,e⟩
theorem CK(a b:Int):decide ((Sum.inl a:Key)=Sum.inl b)=(a==b):=by
 by_cases e:a=b
 ·subst e;simp
 ·have h:¬(Sum.inl a:Key)=Sum.inl b:=fun q=>e (Sum.inl.inj q);rw[decide_eq_false h];exact(beq_eq_false_iff_ne.mpr e).symm
theorem Cn(a b:Str):decide ((Sum.inr a:Key)=Sum.inr b)=decide (a=b):=by
 by_cases e:a=b
 ·subst e;simp
 ·have h:¬(Sum.inr a:Key)=Sum.inr b:=fun q=>e (Sum.inr.inj q);rw[decide_eq_false h,decide_eq_false e]
theorem Dz(a:Int)(b:Str):decide ((Sum.inl a:Key)=Sum.inr b)=false:=decide_eq_false (fun q=>nomatch q)
theorem DH(a:Str)(b:Int):decide ((Sum.inr a:Key)=Sum.inl b)=false:=decide_eq_false (fun q=>nomatch q)
def p8(prog:Hi)(w:HL):PySem.KeyKind prog w Key where
 is:=Bx
 hash:=GS w
 inj:=fun v a b ha hb=>by
  rcases bW ha with⟨i,t,rfl,rfl⟩|⟨x,t,rfl,rfl⟩
  ·rcases bW hb with⟨j,u,rfl,e⟩|⟨y,u,rfl,e⟩
   ·injection e with e1 _;rw[e1]
   ·exact nomatch e
  ·rcases bW hb with⟨j,u,rfl,e⟩|⟨y,u,rfl,e⟩
   ·exact nomatch e
   ·injection e with e1 _;rw[e1]
 byValue:=fun k v h=>by
  rcases bW h with⟨i,t,rfl,rfl⟩|⟨x,t,rfl,rfl⟩<;>rfl
 pyHash:=fun hv h=>by
  rcases bW hv with⟨i,t,rfl,rfl⟩|⟨x,t,rfl,rfl⟩
  ·exact wpAny_pyHash_int h
  ·exact wpAny_pyHash_str h
 eqBool:=fun hu hv h=>by
  rcases bW hu with⟨i,t,rfl,rfl⟩|⟨x,t,rfl,rfl⟩
  ·rcases bW hv with⟨j,u,rfl,rfl⟩|⟨y,u,rfl,rfl⟩
   ·rw[CK]at h;exact wpAny_eqBool_int h
   ·rw[Dz]at h;exact SeqAt.EqAt.int_str i t y u _ _ _ _ h
  ·rcases bW hv with⟨j,u,rfl,rfl⟩|⟨y,u,rfl,rfl⟩
   ·rw[DH]at h;exact SeqAt.EqAt.str_int x t j u _ _ _ _ h
   ·rw[Cn]at h;exact wpAny_eqBool_str h
 «strs»:=fun k x t v h=>by
  rcases bW h with⟨i,u,rfl,e⟩|⟨y,u,rfl,e⟩
  ·exact nomatch e
  ·injection e with e1 _
   subst e1
   cases v<;>rfl
inductive V where
 |non|bl (b:Bool)|int (i:Int)|str (x:Str)|byt (b:Array UInt8)|flt (b:UInt64)|ref (a:Addr)|ty (n:String)
 deriving DecidableEq
def RelV:V->G0->Prop
 |.non,u=>u=Iu
 |.bl b,u=>u=IM b
 |.int i,u=>∃t,u=Value.int i t
 |.str x,u=>∃t,u=Value.str x t
 |.byt b,u=>∃t,u=Value.bytes b t
 |.flt b,u=>∃t,u=Value.float b t
 |.ref a,u=>u=Iq a
 |.ty n,u=>u=Value.type n
abbrev Vals:List V->List G0->Prop:=Paired RelV
theorem Vals.length{xs:List V}{us:List G0}(r:Vals xs us):xs.length=us.length:=Paired.length r
theorem Vals.get:∀{xs:List V} {us:List G0} {i:Nat} {x:V},Vals xs us->xs[i]?=some x->∃u,us[i]?=some u/\RelV x u
 |_,_,_,_,.nil,e=>by simp at e
 |_,_,0,_,.cons r _,e=>by simp at e;subst e;exact⟨_,rfl,r⟩
 |_,_,i+1,x,.cons _ t,e=>by
  obtain⟨u,h1,h2⟩:=Vals.get (i:=i) (x:=x) t (by simpa using e)
  exact⟨u,by simpa using h1,h2⟩
theorem Vals.set{x:V}{u:G0}(r:RelV x u):∀{xs:List V} {us:List G0} (i:Nat),Vals xs us->Vals (xs.set i x) (us.set i u)
 |_,_,_,.nil=>.nil
 |_,_,0,.cons _ t=>.cons r t
 |_,_,i+1,.cons q t=>.cons q (Vals.set r i t)
theorem Vals.append:∀{xs ys:List V} {us ws:List G0},Vals xs us->Vals ys ws->Vals (xs++ys) (us++ws)
 |_,_,_,_,.nil,s=>s
 |_,_,_,_,.cons r t,s=>.cons r (Vals.append t s)
theorem Vals.take:∀{xs:List V} {us:List G0} (n:Nat),Vals xs us->Vals (xs.take n) (us.take n)
 |_,_,0,_=>.nil
 |_,_,_+1,.nil=>.nil
 |_,_,n+1,.cons r t=>.cons r (Vals.take n t)
theorem Vals.drop:∀{xs:List V} {us:List G0} (n:Nat),Vals xs us->Vals (xs.drop n) (us.drop n)
 |_,_,0,r=>r
 |_,_,_+1,.nil=>.nil
 |_,_,n+1,.cons _ t=>Vals.drop n t
def qN:Option V->Option G0->Prop
 |some v,some u=>RelV v u
 |none,none=>True
 |_,_=>False
def KV{κ:Type}:List (κ×V)->List (κ×G0)->Prop:=Paired fun(p:κ×V) (q:κ×G0)=>p.1=q.1/\RelV p.2 q.2
def kV:Key->V
 |.inl i=>.int i
 |.inr x=>.str x
inductive HO where
 |lst (xs:List V)
 |tup (xs:List V)
 |dK (kvs:List (Key×V))|dT (kvs:List (List Key×V))
 |set (S:Int->Bool) (n:Nat)
 |ins (C dx:Addr) (fs:List (Str×V))
 |own (x:Addr)
 |xd (fs:List (Str×V))
 |met (f x:Addr)
 |rng (lo hi:Int)
 |frz (o:Obj) (u:HO)
 |tbl (ps:Array G0)
 |ext (φ:Heap->Prop)
abbrev Hp:=Addr->Option HO
def upd(H:Hp)(a:Addr)(o:HO):Hp:=fun b=>if b=a then some o else H b
theorem aY{H:Hp}{a:Addr}{o:HO}:upd H a o a=some o:=by unfold upd;rw[if_pos rfl]
theorem aR{H:Hp}{a b:Addr}{o:HO}(h:b≠a):upd H a o b=H b:=by unfold upd;rw[if_neg h]
theorem z5{H:Hp}{a:Addr}{o u:HO}:upd (upd H a o) a u=upd H a u:=by funext b;unfold upd;split<;>rfl
theorem eJ{H:Hp}{a b:Addr}{o:HO}(h:H a=some o)(h':H b=none):a≠b:=by intro e;subst e;rw[h]at h';cases h'
section
variable(P:Hi)(w:HL)
def cY(H:Hp)(h:Heap)(a:Addr):HO->Prop
 |.lst xs=>xs.length<=GX/\∃(its:List G0) (n:Nat),Vals xs its/\h.get? a=some { cls:=.type "list",data:=.seq its.toArray n }
 |.tup xs=>xs.length<=GX/\∃its:List G0,Vals xs its/\IsTup h a its.toArray
 |.dK kvs=>kvs.length<=GX/\(a==sysModules)=false/\∃vs,KV kvs vs/\h.DictOf (p8 P w) a vs
 |.dT kvs=>kvs.length<=GX/\(a==sysModules)=false/\∃xs:List (List Key×Addr×G0),
  Paired (fun(p:List Key×V) (q:List Key×Addr×G0)=>p.1=q.1/\H q.2.1=some (.tup (p.1.map kV))/\RelV p.2 q.2.2) kvs xs/\
  ∃o es ep,h.get? a=some o/\o.ExactDict/\o.data=.dict es ep/\es.toList=xs.map (entryOfKey (tupleKind (p8 P w)))/\(xs.map (·.1)).Nodup
 |.set S n=>h.SetOf (intKind P w) a S n
 |.ins C dx fs=>H dx=some (.own a)/\fs.length<=1000/\dx≠a/\h.get? a=some (PySem.W.instObj C dx)/\
  ∃mA,h.Ns1 dx mA/\(∀f,qN (fs.lookup f) (mA f))/\PySem.Within mA (fs.map (·.1))
 |.own _=>∃o,h.get? a=some o
 |.xd fs=>∃mA,h.Ns1 a mA/\∀f,qN (fs.lookup f) (mA f)
 |.rng lo hi=>∃t u v,h.get? a=some { cls:=.type "range",data:=.fields #[.int lo t,.int hi u,.int 1 v] }
 |.frz o u=>h.get? a=some o/\cY H h a u
 |.tbl ps=>h.get? a=some { cls:=.none,data:=.fields ps }
 |.met f x=>h.get? a=some (PySem.W.methodObj (.ref f) (.ref x))
 |.ext φ=>φ h/\(∃o,h.get? a=some o)/\∀h1 h2:Heap,φ h1->(∀o,h1.get? a=some o->h2.get? a=some o)->φ h2
def HOk(H:Hp)(h:Heap):Prop:=∀a o,H a=some o->cY P w H h a o
end
section
variable{P:Hi}{w:HL}{H H':Hp}{h h':Heap}{a:Addr}{o:HO}
theorem cY.lt(x:cY P w H h a o):a<h.objs.size:=by
 cases o with
 |lst xs=>obtain⟨_,_,_,_,e⟩:=x;exact Hb e
 |tup xs=>obtain⟨_,_,_,p⟩:=x;exact p.lt
 |dK kvs=>obtain⟨_,_,_,_,o,_,_,e,_⟩:=x;exact Hb e
 |dT kvs=>obtain⟨_,_,_,_,o,_,_,e,_⟩:=x;exact Hb e
 |set S n=>obtain⟨o,_,_,_,e,_⟩:=x;exact Hb e
 |ins C dx fs=>obtain⟨_,_,_,e,_⟩:=x;exact Hb e
 |own y=>obtain⟨_,e⟩:=x;exact Hb e
 |xd fs=>obtain⟨_,⟨_,_,_,e,_⟩,_⟩:=x;exact Hb e
 |rng lo hi=>obtain⟨_,_,_,e⟩:=x;exact Hb e
 |frz ob u=>obtain⟨e,_⟩:=x;exact Hb e
 |tbl ps=>exact Hb (show h.get? a=some _ from x)
 |met f y=>exact Hb (show h.get? a=some _ from x)
 |ext φ=>obtain⟨_,⟨_,e⟩,_⟩:=x;exact Hb e
theorem Paired.Fx{α β:Type}{F G:α->β->Prop}:∀{l₁:List α} {l₂:List β},Paired F l₁ l₂->(∀a b,F a b->G a b)->Paired G l₁ l₂
 |_,_,.nil,_=>.nil
 |_,_,.cons r t,f=>.cons (f _ _ r) (Paired.Fx t f)
theorem cY.gw(x:cY P w H h a o)(k:∀b u,(b=a\/H b=some (.own a))->h.get? b=some u->h'.get? b=some u) (ho:∀b,H b=some (.own a)->H' b=some (.own a)) (ht:∀b xs,H b=some (.tup xs)->H' b=some (.tup xs)):cY P w H' h' a o:=by
 induction o with
 |lst xs=>obtain⟨z,its,n,r,e⟩:=x;exact⟨z,its,n,r,k _ _ (.inl rfl) e⟩
 |tup xs=>obtain⟨z,its,r,ob,e,c⟩:=x;exact⟨z,its,r,ob,k _ _ (.inl rfl) e,c⟩
 |dK kvs=>obtain⟨z,y,vs,r,ob,es,ep,e,c⟩:=x;exact⟨z,y,vs,r,ob,es,ep,k _ _ (.inl rfl) e,c⟩
 |dT kvs=>
  obtain⟨z,y,xs,r,ob,es,ep,e,c⟩:=x
  exact⟨z,y,xs,Paired.Fx r fun p q z=>⟨z.1,ht _ _ z.2.1,z.2.2⟩,ob,es,ep,k _ _ (.inl rfl) e,c⟩
 |set S n=>obtain⟨ob,es,ep,t,e,c⟩:=x;exact⟨ob,es,ep,t,k _ _ (.inl rfl) e,c⟩
 |ins C dx fs=>
  obtain⟨d,z,ne,e,mA,⟨od,es,ep,e2,c⟩,r⟩:=x
  exact⟨ho _ d,z,ne,k _ _ (.inl rfl) e,mA,⟨od,es,ep,k _ _ (.inr d) e2,c⟩,r⟩
 |own y=>obtain⟨ob,e⟩:=x;exact⟨ob,k _ _ (.inl rfl) e⟩
 |xd fs=>obtain⟨mA,⟨od,es,ep,e,c⟩,r⟩:=x;exact⟨mA,⟨od,es,ep,k _ _ (.inl rfl) e,c⟩,r⟩
 |rng lo hi=>obtain⟨t,u,v,e⟩:=x;exact⟨t,u,v,k _ _ (.inl rfl) e⟩
 |frz ob u ih=>obtain⟨e,q⟩:=x;exact⟨k _ _ (.inl rfl) e,ih q⟩
 |tbl ps=>
  have e:h.get? a=some { cls:=.none,data:=.fields ps }:=x
  show h'.get? a=some { cls:=.none,data:=.fields ps }
  exact k a _ (.inl rfl) e
 |met f y=>
  have e:h.get? a=some (PySem.W.methodObj (.ref f) (.ref y)):=x
  show h'.get? a=some (PySem.W.methodObj (.ref f) (.ref y))
  exact k a _ (.inl rfl) e
 |ext φ=>obtain⟨p,⟨o,e⟩,st⟩:=x;exact⟨st _ _ p fun o q=>k _ _ (.inl rfl) q,⟨o,k _ _ (.inl rfl) e⟩,st⟩
theorem HOk.lt(x:HOk P w H h)(e:H a=some o):a<h.objs.size:=(x a o e).lt
theorem HOk.fresh(x:HOk P w H h)(e:h.objs.size<=a):H a=none:=by
 cases q:H a with
 |none=>rfl
 |some u=>exact absurd (G8 (x.lt q) e) (IX _)
theorem HOk.kept(x:HOk P w H h)(k:∀b u,h.get? b=some u->h'.get? b=some u):HOk P w H h':=fun a o e=>(x a o e).gw (fun b u _ q=>k b u q) (fun _ q=>q) fun _ _ q=>q
theorem HOk.laid(x:HOk P w H h)(k:∀b u,h.get? b=some u->h'.get? b=some u)(hp:h.objs.size<=a)(new:cY P w (upd H a o) h' a o):HOk P w (upd H a o) h':=fun b u e=>by
 have hn:=x.fresh hp;by_cases hb:b=a
 ·subst hb;rw[aY]at e;cases e;exact new
 ·rw[aR hb]at e;exact(x b u e).gw (fun c v _ q=>k c v q) (fun c q=>by rw[aR (eJ q hn)];exact q) fun c xs q=>by rw[aR (eJ q hn)];exact q
end
def Rd(H:Hp)(a:Addr)(u:HO):Prop:=H a=some u\/∃o,H a=some (.frz o u)
theorem Rd.ok{P:Hi}{w:HL}{H:Hp}{h:Heap}{a:Addr}{u:HO}(r:Rd H a u)(x:HOk P w H h):cY P w H h a u:=by
 rcases r with r|⟨o,r⟩
 ·exact x a u r
 ·obtain⟨_,q⟩:=x a _ r;exact q
def Mut:Option HO->Prop
 |some (.lst _)=>True
 |some (.dK _)=>True
 |some (.dT _)=>True
 |some (.set _ _)=>True
 |some (.ins _ _ _)=>True
 |some (.ext _)=>True
 |_=>False
section
variable{P:Hi}{w:HL}{H:Hp}{h h':Heap}{x e:Addr}{o':HO}
theorem HOk.write(ok:HOk P w H h)(mu:Mut (H x))(he:e=x\/H e=some (.own x))(k:∀b u,b≠e->h.get? b=some u->h'.get? b=some u)(heo:∃u,h'.get? e=some u)
 (new:cY P w (upd H x o') h' x o'):HOk P w (upd H x o') h':=fun b u q=>by
 have nown:∀c y,H c=some (.own y)->c≠x:=fun c y r z=>by subst z;rw[r]at mu;exact mu
 have ntup:∀c xs,H c=some (.tup xs)->c≠x:=fun c xs r z=>by subst z;rw[r]at mu;exact mu
 by_cases hb:b=x
 ·subst hb;rw[aY]at q;cases q;exact new
 ·rw[aR hb]at q
  by_cases hbe:b=e
  ·have q':H b=some (.own x):=by
    rcases he with z|z
    ·exact absurd (hbe.trans z) hb
    ·rw[hbe];exact z
   rw[q]at q';cases q'
   obtain⟨v,hv⟩:=heo
   exact⟨v,by rw[hbe];exact hv⟩
  ·refine(ok b u q).gw (fun c v hc r=>k c v ?_ r) (fun c r=>by rw[aR (nown c b r)];exact r) fun c xs r=>by rw[aR (ntup c xs r)];exact r
   rcases hc with rfl|hc
   ·exact hbe
   ·rintro rfl
    rcases he with z|z
    ·exact nown c b hc z
    ·rw[hc]at z;cases z;exact hb rfl
end
structure Un(fs ex:List Addr)(H H':Hp)(h h':Heap):Prop where
 keep:∀b o,h.get? b=some o->H b=none->b∉fs->b∉ex->h'.get? b=some o
 slot:∀b o,h.get? b=some o->H b=none->b∈fs->b∉ex->∃sl,h'.get? b=some { o with slots:=sl }
 free:∀b o,h.get? b=some o->H b=none->b∉ex->H' b=none
 there:∀b o,h.get? b=some o->b∉ex->∃o',h'.get? b=some o'
 tups:∀b xs,H b=some (.tup xs)->H' b=some (.tup xs)
 frzs:∀b o u,H b=some (.frz o u)->H' b=some (.frz o u)
 tbls:∀b ps,H b=some (.tbl ps)->∃more,H' b=some (.tbl (ps++more))
section
variable{fs fs' ex ex':List Addr}{H H1 H2:Hp}{h h1 h2 h':Heap}{a x e:Addr}{o:HO}
theorem Un.any(u:Un fs ex H H1 h h1){b:Addr}{ob:Obj}(q:h.get? b=some ob)(n:H b=none)(hx:b∉ex):∃sl,h1.get? b=some { ob with slots:=sl }:=by
 by_cases hb:b∈fs
 ·exact u.slot b ob q n hb hx
 ·exact⟨ob.slots,u.keep b ob q n hb hx⟩
theorem Un.kept(k:∀b u,h.get? b=some u->h'.get? b=some u):Un fs ex H H h h':=⟨fun b ob q _ _ _=>k b ob q,fun b ob q _ _ _=>⟨ob.slots,k b ob q⟩,fun _ _ _ n _=>n,fun b ob q _=>⟨ob,k b ob q⟩,fun _ _ q=>q,fun _ _ _ q=>q,fun _ ps q=>⟨#[],by rw[q];simp⟩⟩
theorem Un.refl:Un fs ex H H h h:=Un.kept fun _ _ q=>q
theorem Un.laid(k:∀b u,h.get? b=some u->h'.get? b=some u)(hp:h.objs.size<=a)(hn:H a=none):Un fs ex H (upd H a o) h h' where
 keep:=fun b u q _ _ _=>k b u q
 slot:=fun b u q _ _ _=>⟨u.slots,k b u q⟩
 free:=fun b u q n _=>by rw[aR (HJ (G8 (Hb q) hp))];exact n
 there:=fun b u q _=>⟨u,k b u q⟩
 tups:=fun b xs q=>by rw[aR (eJ q hn)];exact q
 frzs:=fun b u xs q=>by rw[aR (eJ q hn)];exact q
 tbls:=fun b ps q=>⟨#[],by rw[aR (eJ q hn),q];simp⟩
theorem Un.write(mu:Mut (H x))(he:e=x\/H e=some (.own x))(k:∀b u,b≠e->h.get? b=some u->h'.get? b=some u)(heo:∃u,h'.get? e=some u):Un fs ex H (upd H x o) h h':=by
 have hx:∀b,H b=none->b≠x:=fun b n z=>by subst z;rw[n]at mu;exact mu
 have hb:∀b,H b=none->b≠e:=fun b n z=>by
  subst z;rcases he with r|r
  ·exact hx b n r
  ·rw[n]at r;cases r
 have hm:∀b u,H b=some u->¬Mut (some u)->b≠x:=fun b u q nm z=>by subst z;rw[q]at mu;exact nm mu
 refine⟨fun b u q n _ _=>k b u (hb b n) q,fun b u q n _ _=>⟨u.slots,k b u (hb b n) q⟩,fun b u q n _=>by rw[aR (hx b n)];exact n,fun b u q _=>?_,fun b xs q=>by rw[aR (hm b _ q fun z=>z)];exact q,fun b u xs q=>by rw[aR (hm b _ q fun z=>z)];exact q,fun b ps q=>⟨#[],by rw[aR (hm b _ q fun z=>z),q];simp⟩⟩;by_cases hbe:b=e
 ·subst hbe;exact heo
 ·exact⟨u,k b u hbe q⟩
end
def trk(h:Heap)(H:Hp):List Addr:=(HF h.objs.size).filter fun a=>(H a).isSome
def qc(h:Heap)(H:Hp):Heap:=PySem.W.hideAll h (trk h H)
theorem wL(h:Heap)(H:Hp):(qc h H).objs.size=h.objs.size:=PySem.W.hideAll_size _ _
theorem xy{h:Heap}{H:Hp}{b:Addr}{o:Obj}(e:h.get? b=some o)(n:H b=none):(qc h H).get? b=some o:=
 PySem.W.hideAll_get _ e fun hm=>by
  have q:(H b).isSome=true:=(List.mem_filter.mp hm).2
  rw[n]at q;simp at q
theorem Bm{h:Heap}{H:Hp}{b:Addr}{o:Obj}(e:(qc h H).get? b=some o):h.get? b=some o/\H b=none:=by
 have e':h.get? b=some o:=PySem.W.of_hideAll (trk h H) e;refine⟨e',?_⟩;cases q:H b with
 |none=>rfl
 |some x=>
  have hm:b∈trk h H:=List.mem_filter.mpr ⟨List.mem_range.mpr (Hb e'),by simp[q]⟩
  have z:(qc h H).get? b=none:=PySem.W.hideAll_none (trk h H) hm
  rw[z]at e;cases e
structure Mod(K:cc)(mg:Str->Option G0)(base:Heap):Prop where
 kin:K.In base
 glob:base.Ns HK mg
 blt:∃mb,base.Ns builtinsNs mb/\∀x:Str,x≠"__name__"->mb x=HX x
 nolimit:base.NoLimit
structure Cx where
 prog:Hi
 w:HL
 K:cc
 mg:Str->Option G0
 base:Heap
 A:HM
 N:List Str
 s₀:G3
 H₀:Hp
 env:Env
 outer:List Env
 stack:List Env
 ex:List Addr
 fn:Str->Bool
 calm:Bool
 pn:List (Addr×Obj)
 xe:G0->G3->Prop
def frs(l:List Env):List Addr:=l.filterMap (·.frame)
abbrev Cx.fs(X:Cx):List Addr:=frs X.outer
def Vis(sc:JH)(x:Str):Prop:=sc.names.lookup x=some .local\/sc.names.lookup x=some .cell\/sc.names.lookup x=some .free
def Loc(sc:JH)(x:Str):Prop:=sc.names.lookup x=some .local\/sc.names.lookup x=some .cell
def Look(env:Env)(h:Heap)(m:Str->Option G0)(x:Str)(u:G0):Prop:=
 (env.kindOf x=some .local/\m x=some u)\/((env.kindOf x=some .cell\/env.kindOf x=some .free)/\∃c,env.cells.lookup x=some c/\h.IsCell c (some u))
structure Cx.Ok(X:Cx):Prop where
 mod:Mod X.K X.mg X.base
 kind:X.env.scope.kind=.function
 glob:X.env.globals=HK
 blt:X.env.builtins=builtinsNs
 above:X.s₀.heap.objs.size<=X.env.locals
 inj:∀x y c,X.env.cells.lookup x=some c->X.env.cells.lookup y=some c->x=y
 has:∀x,(X.env.kindOf x=some .cell\/X.env.kindOf x=some .free)->∃c,X.env.cells.lookup x=some c
 cab:∀x c,X.fn x=true->X.env.cells.lookup x=some c->X.s₀.heap.objs.size<=c
 hd:X.calm=true->X.A.handled=none
 frames:X.A.frames=some X.stack
 stk:X.stack=X.outer\/(X.stack=X.env::X.outer/\X.env.frame=some X.env.locals)
 exf:∀b∈X.ex,b≠X.env.locals/\∀x c,X.env.cells.lookup x=some c->c≠b
 bs:∀b o,X.base.get? b=some o->X.s₀.heap.get? b=some o/\X.H₀ b=none
 bsz:X.base.objs.size<=X.s₀.heap.objs.size
 noex:∀b o,X.base.get? b=some o->b∉X.ex
 exfs:∀b∈X.ex,b∉X.fs
 jc:X.s₀.heap.FunFrames X.base X.outer
 frf:∀b∈X.fs,X.H₀ b=none
structure Inv(X:Cx)(pins:List (Addr×Obj))(σ:List (Option V))(H:Hp)(s:G3):Prop where
 ok:X.Ok
 os:s.os=X.s₀.os
 bare:AllBare s.gens
 base:Un X.fs X.ex X.H₀ H X.s₀.heap s.heap
 loc:∃m,s.heap.Ns X.env.locals m/\∀(i:Nat) (x:Str) (v:V),X.N[i]?=some x->σ[i]?=some (some v)->Vis X.env.scope x->∃u,RelV v u/\Look X.env s.heap m x u
 cell:∀x c,X.env.cells.lookup x=some c->∃v,s.heap.IsCell c v
 free:H X.env.locals=none
 freeC:∀x c,X.env.cells.lookup x=some c->H c=none
 pin:∀p∈X.pn++pins,s.heap.get? p.1=some p.2/\H p.1=none/\p.1≠X.env.locals/\p.1∉X.fs/\∀v,p.2.data≠.cell v
 hok:HOk X.prog X.w H s.heap
 len:σ.length=X.N.length
section
variable{X:Cx}{pins:List (Addr×Obj)}{σ:List (Option V)}{H H':Hp}{s:G3}{h':Heap}
theorem Cx.Ok.FY(ok:X.Ok){b:Addr}{o:Obj}(e:X.base.get? b=some o):b∉X.fs:=fun hb=>by have:=(ok.jc.mem hb).1;rw[e]at this;cases this
theorem Inv.bs(I:Inv X pins σ H s):∀b o,X.base.get? b=some o->s.heap.get? b=some o/\H b=none:=fun b o e=>⟨I.base.keep b o (I.ok.bs b o e).1 (I.ok.bs b o e).2 (I.ok.FY e) (I.ok.noex b o e),I.base.free b o (I.ok.bs b o e).1 (I.ok.bs b o e).2 (I.ok.noex b o e)⟩
theorem Inv.bk(I:Inv X pins σ H s):∀b o,X.base.get? b=some o->s.heap.get? b=some o:=fun b o e=>(I.bs b o e).1
theorem Inv.mod(I:Inv X pins σ H s):Mod X.K X.mg X.base:=I.ok.mod
theorem Inv.kIn(I:Inv X pins σ H s):X.K.In s.heap:=I.ok.mod.kin.keeps I.bk
theorem Inv.lt(I:Inv X pins σ H s):X.env.locals<s.heap.objs.size:=let⟨_,hn,_⟩:=I.loc;hn.lt
theorem Inv.sz(I:Inv X pins σ H s):X.s₀.heap.objs.size<=s.heap.objs.size:=He I.ok.above (Nat.le_of_lt I.lt)
theorem Inv.F2(I:Inv X pins σ H s){a:Addr}(h:s.heap.objs.size<=a):a∉X.fs:=fun hb=>by obtain⟨_,o,ho,_⟩:=I.ok.jc.mem hb;exact absurd (G8 (Hb ho) (He I.sz h)) (IX _)
theorem Inv.cne(I:Inv X pins σ H s):∀x c,X.env.cells.lookup x=some c->c≠X.env.locals:=fun x c e z=>by obtain⟨v,o,ho,hd⟩:=I.cell x c e;obtain⟨m,⟨o',es,ep,ho',hd',_⟩,_⟩:=I.loc;rw[z,ho']at ho;cases ho;rw[hd']at hd;cases hd
theorem Inv.jc(I:Inv X pins σ H s):s.heap.FunFrames X.base X.outer:=by
 have all:∀(l:List Env),(∀b∈frs l,b∈X.fs)->X.s₀.heap.FunFrames X.base l->s.heap.FunFrames X.base l:=by
  intro l
  induction l with
  |nil=>intro _ _;trivial
  |cons env r ih=>
   intro hs hl
   obtain⟨hk,⟨L,o,hf,hn,ho,hd⟩,hr⟩:=hl
   have hL:L∈X.fs:=hs L (by unfold frs;rw[Jn,hf];exact Hx)
   obtain⟨sl,e⟩:=I.base.slot L o ho (I.ok.frf L hL) hL fun z=>I.ok.exfs L z hL
   exact⟨hk,⟨L,_,hf,hn,e,hd⟩,ih (fun b hb=>hs b (by unfold frs;rw[Jn,hf];exact GZ _ hb)) hr⟩
 exact all X.outer (fun _ hb=>hb) I.ok.jc
theorem Inv.stack(I:Inv X pins σ H s):s.heap.FunFrames X.base X.stack:=by
 rcases I.ok.stk with e|⟨e,hf⟩
 ·rw[e];exact I.jc
 ·rw[e];obtain⟨m,hn,_⟩:=I.loc;refine .cons (by rw[I.ok.kind];decide) hf hn ?_ I.jc;exact Heap.get?_none_of_le (He I.ok.bsz I.ok.above)
theorem Inv.sX(I:Inv X pins σ H s):∀b∈frs X.stack,b∈X.env.locals::X.fs:=fun b hb=>by
 rcases I.ok.stk with e|⟨e,hf⟩
 ·rw[e]at hb;exact GZ _ hb
 ·rw[e]at hb;unfold frs at hb;rw[Jn,hf]at hb;exact hb
theorem Inv.iB(I:Inv X pins σ H s):∀b∈frs X.stack,H b=none:=fun b hb=>by
 rcases Hr.mp (I.sX b hb)with e|hb
 ·rw[e];exact I.free
 ·obtain⟨_,o,ho,_⟩:=I.ok.jc.mem hb;exact I.base.free b o ho (I.ok.frf b hb) fun z=>I.ok.exfs b z hb
theorem Inv.step{g':Array GenState}{t':Nat}{d':Drawn}{ch:List Addr}(I:Inv X pins σ H s)
 (hch:∀b∈ch,(b∈X.ex\/X.s₀.heap.objs.size<=b)/\b≠X.env.locals/\(∀x c,X.env.cells.lookup x=some c->c≠b)/\∀p∈X.pn++pins,p.1≠b)
 (keep:∀b o,b≠X.env.locals->b∉X.fs->b∉ch->s.heap.get? b=some o->H b=none->h'.get? b=some o)
 (slot:∀b o,b≠X.env.locals->b∈X.fs->b∉ch->s.heap.get? b=some o->H b=none->∃sl,h'.get? b=some { o with slots:=sl }) (free:∀b o,b∉ch->s.heap.get? b=some o->H b=none->H' b=none)
 (there:∀b o,b∉ch->s.heap.get? b=some o->∃o',h'.get? b=some o')
 (tups:∀b xs,H b=some (.tup xs)->H' b=some (.tup xs)) (frzs:∀b o u,H b=some (.frz o u)->H' b=some (.frz o u)) (tbls:∀b ps,H b=some (.tbl ps)->∃more,H' b=some (.tbl (ps++more)))
 (ns:∀m,s.heap.Ns X.env.locals m->h'.Ns X.env.locals m) (hok:HOk X.prog X.w H' h') (hg:AllBare g') :
 Inv X pins σ H' { s with heap:=h',gens:=g',drawn:=d',toks:=t' }:=by
 have neL:∀b o,X.s₀.heap.get? b=some o->b≠X.env.locals:=fun b o e=>HJ (G8 (Hb e) I.ok.above)
 have neC:∀b o,X.s₀.heap.get? b=some o->b∉X.ex->b∉ch:=fun b o e hx hb=>by
  rcases(hch b hb).1 with z|z
  ·exact hx z
  ·exact absurd (G8 (Hb e) z) (IX _)
 have cellK:∀x c,X.env.cells.lookup x=some c->∀v,s.heap.IsCell c v->h'.IsCell c v:=fun x c e v zz1_0=>by
  obtain⟨o,ho,hd⟩:=zz1_0
  have nch:c∉ch:=fun z=>(hch c z).2.2.1 x c e rfl
  by_cases hc:c∈X.fs
  ·obtain⟨sl,q⟩:=slot c o (I.cne x c e) hc nch ho (I.freeC x c e)
   exact⟨_,q,hd⟩
  ·exact⟨o,keep c o (I.cne x c e) hc nch ho (I.freeC x c e),hd⟩
 refine⟨I.ok,I.os,hg,⟨fun b o e n hb hx=>?_,fun b o e n hb hx=>?_,fun b o e n hx=>?_,fun b o e hx=>?_,fun b xs e=>tups b xs (I.base.tups b xs e),fun b o xs e=>frzs b o xs (I.base.frzs b o xs e),fun b ps e=>?_⟩,?_,fun x c e=>?_,?_,fun x c e=>?_,fun p hp=>?_,hok,I.len⟩
 ·exact keep b o (neL b o e) hb (neC b o e hx) (I.base.keep b o e n hb hx) (I.base.free b o e n hx)
 ·obtain⟨sl,e1⟩:=I.base.slot b o e n hb hx
  obtain⟨sl',e2⟩:=slot b _ (neL b o e) hb (neC b o e hx) e1 (I.base.free b o e n hx)
  exact⟨sl',e2⟩
 ·obtain⟨o',e1⟩:=I.base.there b o e hx
  exact free b o' (neC b o e hx) e1 (I.base.free b o e n hx)
 ·obtain⟨o',e1⟩:=I.base.there b o e hx
  exact there b o' (neC b o e hx) e1
 ·obtain⟨m1,e1⟩:=I.base.tbls b ps e
  obtain⟨m2,e2⟩:=tbls b _ e1
  exact⟨m1++m2,by rw[e2,Array.append_assoc]⟩
 ·obtain⟨m,hn,hl⟩:=I.loc
  refine⟨m,ns m hn,fun i x v e1 e2 e3=>?_⟩
  obtain⟨u,r,l⟩:=hl i x v e1 e2 e3
  refine⟨u,r,?_⟩
  rcases l with l|⟨k,c,e,z⟩
  ·exact .inl l
  ·exact .inr ⟨k,c,e,cellK x c e _ z⟩
 ·obtain⟨v,z⟩:=I.cell x c e
  exact⟨v,cellK x c e v z⟩
 ·obtain⟨m,⟨o,_,_,ho,_⟩,_⟩:=I.loc
  exact free _ o (fun z=>(hch _ z).2.1 rfl) ho I.free
 ·obtain⟨v,o,ho,hd⟩:=I.cell x c e
  exact free c o (fun z=>(hch c z).2.2.1 x c e rfl) ho (I.freeC x c e)
 ·obtain⟨e,n,ne,nf,d⟩:=I.pin p hp
  have nch:p.1∉ch:=fun z=>(hch p.1 z).2.2.2 p hp rfl
  exact⟨keep p.1 p.2 ne nf nch e n,free p.1 p.2 nch e n,ne,nf,d⟩
theorem Inv.un{t':Nat}(I:Inv X pins σ H s)(u:Un X.fs [] H H' s.heap h')(hok:HOk X.prog X.w H' h'):Inv X pins σ H' { s with heap:=h',toks:=t' }:=by
 obtain⟨m,⟨o,es,ep,ho,r⟩,_⟩:=id I.loc;obtain⟨sl,hL⟩:=u.any ho I.free (by simp)
 exact I.step (g':=s.gens) (d':=s.drawn) (ch:=[]) (fun _ z=>nomatch z) (fun b o _ hb _ e n=>u.keep b o e n hb (by simp)) (fun b o _ hb _ e n=>u.slot b o e n hb (by simp)) (fun b o _ e n=>u.free b o e n (by simp)) (fun b o _ e=>u.there b o e (by simp)) u.tups u.frzs u.tbls (fun m' hm=>by
  obtain⟨o',es',ep',ho',r'⟩:=hm
  rw[ho]at ho';cases ho'
  exact⟨_,es',ep',hL,r'⟩) hok I.bare
theorem Inv.call{g':Array GenState}{t':Nat}{d':Drawn}{ch:List Addr}(I:Inv X pins σ H s)(u:Un (frs X.stack) ch H H' s.heap h')(hok:HOk X.prog X.w H' h')(hg:AllBare g') (hch:∀b∈ch,(b∈X.ex\/X.s₀.heap.objs.size<=b)/\b≠X.env.locals/\(∀x c,X.env.cells.lookup x=some c->c≠b)/\∀p∈X.pn++pins,p.1≠b) : Inv X pins σ H' { s with heap:=h',gens:=g',drawn:=d',toks:=t' }:=by
 obtain⟨m,⟨o,es,ep,ho,r⟩,_⟩:=id I.loc;obtain⟨sl,hL⟩:=u.any ho I.free fun z=>(hch _ z).2.1 rfl
 exact I.step (ch:=ch) hch (fun b o hL hb hc e n=>u.keep b o e n (fun z=>(Hr.mp (I.sX b z)).elim hL hb) hc) (fun b o _ _ hc e n=>u.any e n hc) (fun b o hc e n=>u.free b o e n hc) (fun b o hc e=>u.there b o e hc) u.tups u.frzs u.tbls (fun m' hm=>by
  obtain⟨o',es',ep',ho',r'⟩:=hm
  rw[ho]at ho';cases ho'
  exact⟨_,es',ep',hL,r'⟩) hok hg
theorem Inv.turned{t':Nat}{it:Addr}(I:Inv X pins σ H s)(k:∀b o,b≠it->s.heap.get? b=some o->h'.get? b=some o)(hn:H it=none)(hL:it≠X.env.locals)
 (h1:it∈X.ex\/X.s₀.heap.objs.size<=it) (h2:∀x c,X.env.cells.lookup x=some c->c≠it) (h3:∀p∈X.pn++pins,p.1≠it):Inv X pins σ H { s with heap:=h',toks:=t' }:=by
 have nit:∀b u,H b=some u->b≠it:=fun b u e z=>by rw[z,hn]at e;cases e
 refine I.step (g':=s.gens) (d':=s.drawn) (ch:=[it]) (fun b hb=>?_) (fun b o _ _ hc e _=>k b o (fun z=>hc (by simp[z])) e) (fun b o _ _ hc e _=>⟨o.slots,k b o (fun z=>hc (by simp[z])) e⟩) (fun _ _ _ _ n=>n)
  (fun b o hc e=>⟨o,k b o (fun z=>hc (by simp[z])) e⟩) (fun _ _ e=>e) (fun _ _ _ e=>e) (fun b ps e=>⟨#[],by rw[e];simp⟩) (fun m hm=>?_) (fun b u e=>?_) I.bare
 ·have e:b=it:=by simpa using hb
  subst e
  exact⟨h1,hL,h2,h3⟩
 ·obtain⟨o,es,ep,ho,r⟩:=hm
  exact⟨o,es,ep,k _ o (Ne.symm hL) ho,r⟩
 ·refine(I.hok b u e).gw (fun c v hc q=>k c v ?_ q) (fun _ q=>q) fun _ _ q=>q
  rcases hc with z|z
  ·rw[z];exact nit b u e
  ·exact nit c _ z
theorem Inv.tok(I:Inv X pins σ H s)(t:Nat):Inv X pins σ H { s with toks:=t }:=I.un (h':=s.heap) (t':=t) Un.refl I.hok
theorem Inv.kept{t':Nat}(I:Inv X pins σ H s)(k:∀b u,s.heap.get? b=some u->h'.get? b=some u):Inv X pins σ H { s with heap:=h',toks:=t' }:=I.un (Un.kept k) (I.hok.kept k)
theorem Inv.laid{a:Addr}{o:HO}{t':Nat}(I:Inv X pins σ H s)(k:∀b u,s.heap.get? b=some u->h'.get? b=some u)(hp:s.heap.objs.size<=a)(new:cY X.prog X.w (upd H a o) h' a o) : Inv X pins σ (upd H a o) { s with heap:=h',toks:=t' }:=I.un (Un.laid k hp (I.hok.fresh hp)) (I.hok.laid k hp new)
theorem Inv.write{x e:Addr}{o:HO}{t':Nat}(I:Inv X pins σ H s)(mu:Mut (H x))(he:e=x\/H e=some (.own x))(k:∀b u,b≠e->s.heap.get? b=some u->h'.get? b=some u)(heo:∃u,h'.get? e=some u) (new:cY X.prog X.w (upd H x o) h' x o):Inv X pins σ (upd H x o) { s with heap:=h',toks:=t' }:=I.un (Un.write mu he k heo) (I.hok.write mu he k heo new)
theorem Inv.uT{pins':List (Addr×Obj)}(I:Inv X pins σ H s)(h:∀p∈pins',s.heap.get? p.1=some p.2/\H p.1=none/\p.1≠X.env.locals/\p.1∉X.fs/\∀v,p.2.data≠.cell v):Inv X pins' σ H s:=⟨I.ok,I.os,I.bare,I.base,I.loc,I.cell,I.free,I.freeC,fun p hp=>(Hv.mp hp).elim (fun z=>I.pin p (List.mem_append_left _ z)) (h p),I.hok,I.len⟩
theorem my{N:List Str}(hN:N.Nodup){i j:Nat}{x:Str}(a:N[i]?=some x)(b:N[j]?=some x):i=j:=by obtain⟨h1,e1⟩:=Hj.mp a;obtain⟨h2,e2⟩:=Hj.mp b;exact(List.getElem_inj hN).mp (e1.trans e2.symm)
theorem nS{M:Model}{A:HM}{E:G0->G3->Prop}{i:Nat}{x:Str}{v:V}{u:G0}{Q:Unit->G3->Prop}(I:Inv X pins σ H s)(hN:X.N.Nodup)(hi:X.N[i]?=some x)(hx:Loc X.env.scope x)(r:RelV v u)
 (h:∀s',Inv X pins (σ.set i (some v)) H s'->(∃a,Heap.SameBut a s.heap s'.heap/\(a=X.env.locals\/X.env.cells.lookup x=some a))->Q () s') (hf:X.fn x=true\/X.env.scope.names.lookup x=some .local:=by first|exact .inl rfl|exact .inr rfl|assumption):Hf M A (storeName X.env x u) Q E s:=by
 obtain⟨m,hn,hl⟩:=id I.loc
 have hcls:(X.env.scope.kind==.class||(X.env.scope.kind==.module&&X.env.locals != X.env.globals))=false:=by rw[I.ok.kind];rfl
 have hiσ:i<σ.length:=by rw[I.len];exact(Hj.mp hi).1
 have cne:=I.cne
 have tracked:∀{a:Addr} {h':Heap},(∃o,s.heap.get? a=some o/\H a=none)->Heap.SameBut a s.heap h'->HOk X.prog X.w H h':=fun{a h'} ha hs b ob e=>by
  obtain⟨_,_,hfree⟩:=ha
  refine(I.hok b ob e).gw (fun c w' hc q=>(hs.2 c ?_).trans q) (fun _ q=>q) fun _ _ q=>q
  rintro rfl
  rcases hc with rfl|hc
  ·rw[hfree]at e;cases e
  ·rw[hfree]at hc;cases hc
 rcases hx with hk|hk
 ·refine wpAny_storeName_local hk hn (fun h' hn' hs=>?_) hcls
  obtain⟨oL,_,_,hoL,_⟩:=id hn
  refine h _ ⟨I.ok,I.os,I.bare,⟨fun b o e n hb hx=>?_,fun b o e n hb hx=>?_,I.base.free,fun b o e hx=>?_,I.base.tups,I.base.frzs,I.base.tbls⟩,⟨_,hn',fun j y v' e1 e2 e3=>?_⟩,fun y c e=>?_,I.free,I.freeC,fun p hp=>?_,tracked ⟨oL,hoL,I.free⟩ hs,by simpa using I.len⟩ ⟨_,hs,.inl rfl⟩
  ·exact(hs.2 b (HJ (G8 (Hb e) I.ok.above))).trans (I.base.keep b o e n hb hx)
  ·obtain⟨sl,e1⟩:=I.base.slot b o e n hb hx
   exact⟨sl,(hs.2 b (HJ (G8 (Hb e) I.ok.above))).trans e1⟩
  ·obtain⟨o',e1⟩:=I.base.there b o e hx
   exact⟨o',(hs.2 b (HJ (G8 (Hb e) I.ok.above))).trans e1⟩
  ·by_cases hj:j=i
   ·subst hj
    rw[hi]at e1;cases e1
    rw[List.getElem?_set_self hiσ]at e2
    cases e2
    exact⟨u,r,.inl ⟨hk,by simp⟩⟩
   ·rw[List.getElem?_set_ne (Ne.symm hj)]at e2
    obtain⟨u',r',q⟩:=hl j y v' e1 e2 e3
    refine⟨u',r',?_⟩
    rcases q with⟨k,e⟩|⟨k,c,e,z⟩
    ·refine .inl ⟨k,?_⟩
     have:y≠x:=fun e=>hj (my hN e1 (e▸hi))
     simp[this,e]
    ·exact .inr ⟨k,c,e,z.sameBut hs (cne y c e)⟩
  ·obtain⟨w',z⟩:=I.cell y c e
   exact⟨w',z.sameBut hs (cne y c e)⟩
  ·obtain⟨e,n,ne,nf,d⟩:=I.pin p hp
   exact⟨(hs.2 p.1 ne).trans e,n,ne,nf,d⟩
 ·have hfn:X.fn x=true:=by
   rcases hf with z|z
   ·exact z
   ·rw[z]at hk;cases hk
  obtain⟨c,hc⟩:=I.ok.has x (.inl hk)
  obtain⟨w',z⟩:=I.cell x c hc
  refine wpAny_storeName_cell I.ok.kind hk hc z (fun h' hc' hs=>?_)
  obtain⟨oc,hoc,hocd⟩:=id z
  refine h { s with heap:=h' } ⟨I.ok,I.os,I.bare,⟨fun b o e n hb hx=>?_,fun b o e n hb hx=>?_,I.base.free,fun b o e hx=>?_,I.base.tups,I.base.frzs,I.base.tbls⟩,⟨m,hn.sameBut hs (Ne.symm (cne x c hc)),fun j y v' e1 e2 e3=>?_⟩,fun y c' e=>?_,I.free,I.freeC,fun p hp=>?_,tracked ⟨oc,hoc,I.freeC x c hc⟩ hs,by simpa using I.len⟩ ⟨c,hs,.inr hc⟩
  ·exact(hs.2 b (HJ (G8 (Hb e) (I.ok.cab x c hfn hc)))).trans (I.base.keep b o e n hb hx)
  ·obtain⟨sl,e1⟩:=I.base.slot b o e n hb hx
   exact⟨sl,(hs.2 b (HJ (G8 (Hb e) (I.ok.cab x c hfn hc)))).trans e1⟩
  ·obtain⟨o',e1⟩:=I.base.there b o e hx
   exact⟨o',(hs.2 b (HJ (G8 (Hb e) (I.ok.cab x c hfn hc)))).trans e1⟩
  ·by_cases hj:j=i
   ·subst hj
    rw[hi]at e1;cases e1
    rw[List.getElem?_set_self hiσ]at e2
    cases e2
    exact⟨u,r,.inr ⟨.inl hk,c,hc,hc'⟩⟩
   ·rw[List.getElem?_set_ne (Ne.symm hj)]at e2
    obtain⟨u',r',q⟩:=hl j y v' e1 e2 e3
    refine⟨u',r',?_⟩
    rcases q with q|⟨k,c',e,z'⟩
    ·exact .inl q
    ·refine .inr ⟨k,c',e,z'.sameBut hs ?_⟩
     rintro rfl
     exact hj (my hN e1 (I.ok.inj _ _ _ e hc▸hi))
  ·by_cases hcc:c'=c
   ·subst hcc;exact⟨_,hc'⟩
   ·obtain⟨w2,z2⟩:=I.cell y c' e
    exact⟨w2,z2.sameBut hs hcc⟩
  ·obtain⟨e,n,ne,nf,d⟩:=I.pin p hp
   refine⟨(hs.2 p.1 ?_).trans e,n,ne,nf,d⟩
   intro q
   rw[q,hoc]at e
   have q':oc=p.2:=Option.some.inj e
   exact d w' (by rw[<-q'];exact hocd)
theorem gO{M:Model}{A:HM}{E:G0->G3->Prop}{i:Nat}{x:Str}{v:V}{u:G0}{Q:Unit->G3->Prop}(I:Inv X pins σ H s)(hN:X.N.Nodup)(hi:X.N[i]?=some x)(hx:Loc X.env.scope x)(r:RelV v u) (h:∀s',Inv X pins (σ.set i (some v)) H s'->Q () s') (hf:X.fn x=true\/X.env.scope.names.lookup x=some .local:=by first|exact .inl rfl|exact .inr rfl|assumption):Hf M A (storeName X.env x u) Q E s:=nS I hN hi hx r (fun s' I' _=>h s' I') hf
theorem Inv.zt{s':G3}{ch:List Addr}(I:Inv X pins σ H s)(ho:s'.os=s.os)(u:Un (frs X.stack) ch H H' s.heap s'.heap)(hok:HOk X.prog X.w H' s'.heap)(hg:AllBare s'.gens)
 (hch:∀b∈ch,(b∈X.ex\/X.s₀.heap.objs.size<=b)/\b≠X.env.locals/\(∀x c,X.env.cells.lookup x=some c->c≠b)/\∀p∈X.pn++pins,p.1≠b):Inv X pins σ H' s':=by
 obtain⟨h',g',d',t',o'⟩:=s'
 have e:o'=s.os:=ho
 subst e
 exact I.call (g':=g') (t':=t') (d':=d') u hok hg hch
end
abbrev XK:=G0->Option Addr->Hp->Prop
abbrev St:=List (Option V)
abbrev VK:=V->Hp->Prop
abbrev TE:=St->Hp->VK->Prop
abbrev TT:=St->Hp->(Bool->Hp->Prop)->Prop
abbrev TA:=St->Hp->(List V->Hp->Prop)->Prop
structure Ends where
 nx:St->Hp->Prop
 rt:VK
 bk:St->Hp->Prop:=fun _ _=>False
 ct:St->Hp->Prop:=fun _ _=>False
abbrev TS:=Ends->St->Hp->Prop
def EP(X:Cx)(pins:List (Addr×Obj))(σ:St)(Q:VK)(u:G0)(s':G3):Prop:=∃v H',Inv X pins σ H' s'/\RelV v u/\Q v H'
def TP(X:Cx)(pins:List (Addr×Obj))(σ:St)(Q:Bool->Hp->Prop)(b:Bool)(s':G3):Prop:=∃H',Inv X pins σ H' s'/\Q b H'
def AP(X:Cx)(pins:List (Addr×Obj))(σ:St)(Q:List V->Hp->Prop)(us:List G0)(s':G3):Prop:=∃vs H',Inv X pins σ H' s'/\Vals vs us/\Q vs H'
def SP(X:Cx)(pins:List (Addr×Obj))(D:Ends)(f:Flow)(s':G3):Prop:=
 match f with
 |.next=>∃σ' H',Inv X pins σ' H' s'/\D.nx σ' H'
 |.brk=>∃σ' H',Inv X pins σ' H' s'/\D.bk σ' H'
 |.cont=>∃σ' H',Inv X pins σ' H' s'/\D.ct σ' H'
 |.ret u=>∃v σ' H',Inv X pins σ' H' s'/\RelV v u/\D.rt v H'
def PE(X:Cx)(e:Expr)(t:TE):Prop:=
 ∀(pins:List (Addr×Obj)) (s:G3) (σ:St) (H:Hp) (Q:VK),Inv X pins σ H s->t σ H Q->Hf (Hm X.prog X.w) X.A (eval e X.env) (EP X pins σ Q) X.xe s
def PT(X:Cx)(e:Expr)(t:TT):Prop:=
 ∀(pins:List (Addr×Obj)) (s:G3) (σ:St) (H:Hp) (Q:Bool->Hp->Prop),Inv X pins σ H s->t σ H Q->Hf (Hm X.prog X.w) X.A (isTrue e X.env (eval e X.env)) (TP X pins σ Q) X.xe s
def PW(X:Cx)(e:Expr)(t:TT):Prop:=
 ∀(whole:Sem G0) (pins:List (Addr×Obj)) (s:G3) (σ:St) (H:Hp) (Q:Bool->Hp->Prop),Inv X pins σ H s->t σ H Q->Hf (Hm X.prog X.w) X.A (isTrue e X.env whole) (TP X pins σ Q) X.xe s
theorem PW.pt{X:Cx}{e:Expr}{t:TT}(h:PW X e t):PT X e t:=h _
def PA(X:Cx)(es:List Expr)(t:TA):Prop:=
 ∀(pos:Pos) (pins:List (Addr×Obj)) (s:G3) (σ:St) (H:Hp) (Q:List V->Hp->Prop),Inv X pins σ H s->t σ H Q->Hf (Hm X.prog X.w) X.A (spliced (IV pos (Hc es X.env))) (AP X pins σ Q) X.xe s
def PS(X:Cx)(st:Stmt)(t:TS):Prop:=
 ∀(pins:List (Addr×Obj)) (s:G3) (σ:St) (H:Hp) (D:Ends),Inv X pins σ H s->t D σ H->Hf (Hm X.prog X.w) X.A (exec st X.env) (SP X pins D) X.xe s
def PSs(X:Cx)(st:List Stmt)(t:TS):Prop:=
 ∀(pins:List (Addr×Obj)) (s:G3) (σ:St) (H:Hp) (D:Ends),Inv X pins σ H s->t D σ H->Hf (Hm X.prog X.w) X.A (execs st X.env) (SP X pins D) X.xe s
theorem thn{α:Type}{t:Sem α}{Q Q':α->G3->Prop}{M:Model}{A:HM}{E:G0->G3->Prop}{s:G3}(h:Hf M A t Q E s)(hQ:∀a s,Q a s->Q' a s):Hf M A t Q' E s:=HS h hQ fun _ _ x=>x
section
variable{X:Cx}
def yj(i:Nat):TE:=fun σ H Q=>∃v,σ[i]?=some (some v)/\Q v H
def tC(v:V):TE:=fun _ H Q=>Q v H
theorem zy{i:Nat}{x:Str}{pos:Pos}(hN:X.N[i]?=some x)(hv:Vis X.env.scope x)(hd:(x==("__debug__":Str))=false:=by decide)(hcd:(x==("__classdict__":Str))=false:=by decide):PE X (.Name x pos) (yj i):=by
 intro pins s σ H Q I h;obtain⟨v,e,h⟩:=h;obtain⟨m,hn,hl⟩:=I.loc;obtain⟨u,r,l⟩:=hl i x v hN e hv;have fin:EP X pins σ Q u s:=⟨v,H,I,r,h⟩;rcases l with⟨hk,hm⟩|⟨hk,c,hc,hcell⟩
 ·exact wpAny_Name (wpAny_loadName_local I.ok.kind hk hn hm fin) hd
 ·rcases hk with hk|hk
  ·exact wpAny_Name (wpAny_loadName_cell I.ok.kind hk hc hcell fin) hd
  ·exact wpAny_Name (wpAny_loadName_free I.ok.kind hk hc hcell fin hcd) hd
theorem CU{i j pos}:PE X (.Constant (.int i) j pos) (tC (.int i)):=fun _ _ _ H _ I h=>wpAny_Constant_int ⟨.int i,H,I.tok _,⟨_,rfl⟩,h⟩
theorem Ed{b j pos}:PE X (.Constant (.bool b) j pos) (tC (.bl b)):=fun _ _ _ H _ I h=>Constant_bool ⟨.bl b,H,I,rfl,h⟩
theorem De{j pos}:PE X (.Constant .none j pos) (tC .non):=fun _ _ _ H _ I h=>Constant_none ⟨.non,H,I,rfl,h⟩
theorem D1{x j pos}:PE X (.Constant (.str x) j pos) (tC (.str x)):=fun _ _ _ H _ I h=>Calls.Constant_str ⟨.str x,H,I.tok _,⟨_,rfl⟩,h⟩
def Gl(X:Cx)(x:Str):Prop:=X.env.kindOf x=some .globalImplicit
theorem ig{E:G0->G3->Prop}{pins:List (Addr×Obj)}{s:G3}{σ:St}{H:Hp}{x:Str}{u:G0}{pos:Pos}{Q:G0->G3->Prop}(I:Inv X pins σ H s)(hg:Gl X x)(hm:X.mg x=some u)(h:Q u s) (hd:(x==("__debug__":Str))=false:=by decide):Hf (Hm X.prog X.w) X.A (eval (.Name x pos) X.env) Q E s:=Calls.Name_function_global I.ok.kind hg (Calls.loadGlobal_global (by rw[I.ok.glob];exact I.mod.glob.keeps I.bk) hm h) hd
theorem mM{E:G0->G3->Prop}{pins:List (Addr×Obj)}{s:G3}{σ:St}{H:Hp}{x:Str}{u:G0}{pos:Pos}{Q:G0->G3->Prop}(I:Inv X pins σ H s)(hg:Gl X x)(hm:X.mg x=none)(hv:HX x=some u)(h:Q u s) (hn:x≠"__name__":=by decide) (hd:(x==("__debug__":Str))=false:=by decide):Hf (Hm X.prog X.w) X.A (eval (.Name x pos) X.env) Q E s:=by obtain⟨mb,h1,h2⟩:=I.mod.blt;exact Calls.Name_function_global I.ok.kind hg (Calls.loadGlobal_builtin (by rw[I.ok.glob];exact I.mod.glob.keeps I.bk) hm (by rw[I.ok.blt];exact h1.keeps I.bk) ((h2 x hn).trans hv) h) hd
theorem u7{x:Str}{v:V}{u:G0}{pos:Pos}(hg:Gl X x)(hm:X.mg x=some u)(r:RelV v u)(hd:(x==("__debug__":Str))=false:=by decide):PE X (.Name x pos) (tC v):=fun _ _ _ H _ I h=>ig I hg hm ⟨v,H,I,r,h⟩ hd
theorem zK{x:Str}{v:V}{u:G0}{pos:Pos}(hg:Gl X x)(hm:X.mg x=none)(hv:HX x=some u)(r:RelV v u)(hn:x≠"__name__":=by decide)(hd:(x==("__debug__":Str))=false:=by decide):PE X (.Name x pos) (tC v):=fun _ _ _ H _ I h=>mM I hg hm hv ⟨v,H,I,r,h⟩ hn hd
variable{a b:Expr}{ta tb:TE}{pos:Pos}
def tB(t:TE):TT:=fun σ H Q=>t σ H fun x H1=>∃c,x=.bl c/\Q c H1
theorem Ea{e:Expr}{t:TE}(h:PE X e t)(he:∀whole,isTrue e X.env whole=(do let v <-whole;standAt e.pos;holding [v] (truthy v)):=by intro _;rfl):PT X e (tB t):=by intro pins s σ H Q I hw;refine isTrue_plain (thn (h pins s σ H _ I hw) fun v s1 zz7_0=>?_) (he _);obtain⟨x,H1,I1,r1,q1⟩:=zz7_0;obtain⟨d,rfl,q⟩:=q1;cases r1;exact Iv ⟨H1,I1,q⟩
variable{tA tB':TT}{rest:List Expr}
def Gy(t u:TT):TT:=fun σ H Q=>t σ H fun c H1=>if c=true then u σ H1 Q else Q false H1
def tOr(t u:TT):TT:=fun σ H Q=>t σ H fun c H1=>if c=true then Q true H1 else u σ H1 Q
def GC(t:TT):TT:=fun σ H Q=>t σ H fun c H1=>Q (!c) H1
theorem Bi(ha:PT X a tA):PW X (.BoolOp .And [a] pos) tA:=by
 intro wh pins s σ H Q I h;refine isTrue_and (thn (ha pins s σ H Q I h) fun c s1 e=>?_);cases c with
 |true=>exact isTrue_and_nil e
 |false=>exact e
theorem Dj(ha:PT X a tA):PW X (.BoolOp .Or [a] pos) tA:=by
 intro wh pins s σ H Q I h;refine isTrue_or (thn (ha pins s σ H Q I h) fun c s1 e=>?_);cases c with
 |false=>exact isTrue_or_nil e
 |true=>exact e
theorem D2(ha:PT X a tA)(hb:PW X (.BoolOp .And (b::rest) pos) tB'):PW X (.BoolOp .And (a::b::rest) pos) (Gy tA tB'):=by
 intro wh pins s σ H Q I h;refine isTrue_and (thn (ha pins s σ H _ I h) fun c s1 zz8_0=>?_);obtain⟨H1,I1,q1⟩:=zz8_0;cases c with
 |true=>exact hb wh pins s1 σ H1 Q I1 q1
 |false=>exact⟨H1,I1,q1⟩
theorem EH(ha:PT X a tA)(hb:PW X (.BoolOp .Or (b::rest) pos) tB'):PW X (.BoolOp .Or (a::b::rest) pos) (tOr tA tB'):=by
 intro wh pins s σ H Q I h;refine isTrue_or (thn (ha pins s σ H _ I h) fun c s1 zz9_0=>?_);obtain⟨H1,I1,q1⟩:=zz9_0;cases c with
 |true=>exact⟨H1,I1,q1⟩
 |false=>exact hb wh pins s1 σ H1 Q I1 q1
theorem CD(ha:PT X a tA):PT X (.UnaryOp .Not a pos) (GC tA):=by intro pins s σ H Q I h;exact isTrue_not (ha pins s σ H (fun c H1=>Q (!c) H1) I h)
def FE(ta tb:TE):TE:=fun σ H Q=>ta σ H fun x H1=>∃c,x=.bl c/\if c=true then tb σ H1 Q else Q (.bl false) H1
def Gx(ta tb:TE):TE:=fun σ H Q=>ta σ H fun x H1=>∃c,x=.bl c/\if c=true then Q (.bl true) H1 else tb σ H1 Q
theorem DU{op}{t:TE}(h:PE X a t):PE X (.BoolOp op [a] pos) t:=fun pins s σ H Q I hw=>BoolOp_one (h pins s σ H Q I hw)
theorem C7(ha:PE X a ta)(hb:PE X (.BoolOp .And (b::rest) pos) tb):PE X (.BoolOp .And (a::b::rest) pos) (FE ta tb):=by
 intro pins s σ H Q I h;refine BoolOp_and (thn (ha pins s σ H _ I h) fun v s1 zz10_0=>?_);obtain⟨x,H1,I1,r1,q1⟩:=zz10_0;obtain⟨c,rfl,q1⟩:=q1;cases r1;refine Iv ?_;cases c with
 |true=>exact hb pins s1 σ H1 Q I1 q1
 |false=>exact⟨.bl false,H1,I1,rfl,q1⟩
theorem Fw(ha:PE X a ta)(hb:PE X (.BoolOp .Or (b::rest) pos) tb):PE X (.BoolOp .Or (a::b::rest) pos) (Gx ta tb):=by
 intro pins s σ H Q I h;refine BoolOp_or (thn (ha pins s σ H _ I h) fun v s1 zz11_0=>?_);obtain⟨x,H1,I1,r1,q1⟩:=zz11_0;obtain⟨c,rfl,q1⟩:=q1;cases r1;refine Iv ?_;cases c with
 |false=>exact hb pins s1 σ H1 Q I1 q1
 |true=>exact⟨.bl true,H1,I1,rfl,q1⟩
def tIf(t:TT)(ta tb:TE):TE:=fun σ H Q=>t σ H fun c H1=>if c=true then ta σ H1 Q else tb σ H1 Q
theorem yu{c:Expr}(hc:PT X c tA)(ha:PE X a ta)(hb:PE X b tb):PE X (.IfExp c a b pos) (tIf tA ta tb):=by
 intro pins s σ H Q I h;refine wpAny_IfExp (thn (hc pins s σ H _ I h) fun d s1 zz13_0=>?_);obtain⟨H1,I1,q1⟩:=zz13_0;cases d with
 |true=>exact ha pins s1 σ H1 Q I1 q1
 |false=>exact hb pins s1 σ H1 Q I1 q1
end
def SqL(K:cc)(H:Hp)(a:Addr)(xs:List V):Prop:=
 Rd H a (.lst xs)\/
  ∃(o:Obj) (its:Array G0) (n:Nat),K.lookup a=some o/\o.cls=.type "list"/\o.dict=none/\o.data=.seq its n/\its.size<=GX/\Vals xs its.toList
def SqT(K:cc)(H:Hp)(a:Addr)(xs:List V):Prop:=
 Rd H a (.tup xs)\/
  ∃(o:Obj) (its:Array G0) (n:Nat),K.lookup a=some o/\o.cls=.type "tuple"/\o.data=.seq its n/\its.size<=GX/\Vals xs its.toList
def GA:G0->Option V
 |.none=>some .non
 |.bool b=>some (.bl b)
 |.int i _=>some (.int i)
 |.str x _=>some (.str x)
 |.bytes b _=>some (.byt b)
 |.float b _=>some (.flt b)
 |.ref a=>some (.ref a)
 |.type n=>some (.ty n)
 |_=>none
theorem RelV.abs{x:V}{u:G0}(r:RelV x u):GA u=some x:=by
 cases x with
 |non=>cases r;rfl
 |bl _=>cases r;rfl
 |int _=>obtain⟨t,rfl⟩:=r;rfl
 |str _=>obtain⟨t,rfl⟩:=r;rfl
 |byt _=>obtain⟨t,rfl⟩:=r;rfl
 |flt _=>obtain⟨t,rfl⟩:=r;rfl
 |ref _=>cases r;rfl
 |ty _=>cases r;rfl
theorem RelV.inj{x y:V}{u:G0}(r:RelV x u)(q:RelV y u):x=y:=Option.some.inj (r.abs.symm.trans q.abs)
theorem Vals.inj:∀{xs ys:List V} {us:List G0},Vals xs us->Vals ys us->xs=ys
 |_,_,_,.nil,.nil=>rfl
 |_,_,_,.cons r t,.cons r' t'=>by rw[r.inj r',Vals.inj t t']
section
variable{X:Cx}{pins:List (Addr×Obj)}{σ:St}{H:Hp}{s:G3}{a:Addr}{xs ys:List V}
theorem SqL.of{K:cc}(h:H a=some (.lst xs)):SqL K H a xs:=.inl (.inl h)
theorem SqT.of{K:cc}(h:H a=some (.tup xs)):SqT K H a xs:=.inl (.inl h)
theorem Inv.list(I:Inv X pins σ H s)(h:SqL X.K H a xs):∃its:List G0,Vals xs its/\PlainL s.heap a its.toArray/\xs.length<=GX:=by
 rcases h with h|⟨o,its,n,hk,hc,hd,hs,hz,r⟩
 ·obtain⟨z,its,n,r,e⟩:=h.ok I.hok;exact⟨its,r,⟨_,n,e,rfl,rfl,rfl⟩,z⟩
 ·refine⟨its.toList,r,⟨o,n,I.kIn a o hk,hc,hd,by simpa using hs⟩,?_⟩;have e:=r.length;simp only[Jo]at e;omega
theorem Inv.tuple(I:Inv X pins σ H s)(h:SqT X.K H a xs):∃its:List G0,Vals xs its/\IsTup s.heap a its.toArray/\xs.length<=GX:=by
 rcases h with h|⟨o,its,n,hk,hc,hs,hz,r⟩
 ·obtain⟨z,its,r,p⟩:=h.ok I.hok;exact⟨its,r,p,z⟩
 ·refine⟨its.toList,r,⟨o,I.kIn a o hk,hc,n,by simpa using hs⟩,?_⟩;have e:=r.length;simp only[Jo]at e;omega
theorem Inv.qJ(I:Inv X pins σ H s)(h:SqL X.K H a xs)(h':SqL X.K H a ys):xs=ys:=by
 obtain⟨its,r,⟨o,n,e,_,_,d⟩,_⟩:=I.list h;obtain⟨its',r',⟨o',n',e',_,_,d'⟩,_⟩:=I.list h';rw[e]at e';cases e';rw[d]at d';injection d' with d1 _;have:its=its':=by simpa using congrArg Array.toList d1
 subst this;exact r.inj r'
theorem Inv.w4(I:Inv X pins σ H s)(h:SqT X.K H a xs)(h':SqT X.K H a ys):xs=ys:=by
 obtain⟨its,r,⟨o,e,_,n,d⟩,_⟩:=I.tuple h;obtain⟨its',r',⟨o',e',_,n',d'⟩,_⟩:=I.tuple h';rw[e]at e';cases e';rw[d]at d';injection d' with d1 _;have:its=its':=by simpa using congrArg Array.toList d1
 subst this;exact r.inj r'
end
abbrev Cx.mR(X:Cx)(E:G0->G3->Prop):Cx:={ X with xe:=E }
abbrev Cx.nox(X:Cx):Cx:=X.mR fun _ _=>False
theorem Cx.Ok.mR{X:Cx}(ok:X.Ok)(E:G0->G3->Prop):(X.mR E).Ok:=⟨ok.mod,ok.kind,ok.glob,ok.blt,ok.above,ok.inj,ok.has,ok.cab,ok.hd,ok.frames,ok.stk,ok.exf,ok.bs,ok.bsz,ok.noex,ok.exfs,ok.jc,ok.frf⟩
theorem Cx.Ok.gB{X:Cx}{E:G0->G3->Prop}(ok:(X.mR E).Ok):X.Ok:=⟨ok.mod,ok.kind,ok.glob,ok.blt,ok.above,ok.inj,ok.has,ok.cab,ok.hd,ok.frames,ok.stk,ok.exf,ok.bs,ok.bsz,ok.noex,ok.exfs,ok.jc,ok.frf⟩
section
variable{X:Cx}{pins:List (Addr×Obj)}{σ:St}{H:Hp}{s:G3}{E:G0->G3->Prop}
theorem Inv.mR(I:Inv X pins σ H s)(E:G0->G3->Prop):Inv (X.mR E) pins σ H s:=⟨I.ok.mR E,I.os,I.bare,I.base,I.loc,I.cell,I.free,I.freeC,I.pin,I.hok,I.len⟩
theorem Inv.gB(I:Inv (X.mR E) pins σ H s):Inv X pins σ H s:=⟨I.ok.gB,I.os,I.bare,I.base,I.loc,I.cell,I.free,I.freeC,I.pin,I.hok,I.len⟩
theorem SP.gB{D:Ends}{f:Flow}{s':G3}(h:SP (X.mR E) pins D f s'):SP X pins D f s':=by
 cases f with
 |next=>obtain⟨σ',H',I,q⟩:=h;exact⟨σ',H',I.gB,q⟩
 |brk=>obtain⟨σ',H',I,q⟩:=h;exact⟨σ',H',I.gB,q⟩
 |cont=>obtain⟨σ',H',I,q⟩:=h;exact⟨σ',H',I.gB,q⟩
 |ret u=>obtain⟨v,σ',H',I,r,q⟩:=h;exact⟨v,σ',H',I.gB,r,q⟩
theorem PSs.nox{st:List Stmt}{t:TS}(h:PSs X.nox st t):PSs X st t:=fun pins s σ H D I hw=>HS (h pins s σ H D (I.mR _) hw) (fun _ _ q=>q.gB) fun _ _ z=>IU z
end
section
variable{X:Cx}{st:Stmt}{rest:List Stmt}{t u:TS}{e:Expr}{te:TE}{pos:Pos}
def FP:TS:=fun D σ H=>D.nx σ H
def El(t u:TS):TS:=fun D σ H=>t { D with nx:=u D } σ H
theorem Aq:PSs X [] FP:=fun _ _ σ H _ I h=>wpAny_execs_nil ⟨σ,H,I,h⟩
theorem rF(h1:PS X st t)(h2:PSs X rest u):PSs X (st::rest) (El t u):=by
 intro pins s σ H D I h;refine wpAny_execs_cons (thn (h1 pins s σ H { D with nx:=u D } I h) fun f s1 q=>?_);cases f with
 |next=>
  obtain⟨σ',H',I',q⟩:=q
  exact h2 pins s1 σ' H' D I' q
 |ret v=>exact q
 |brk=>exact q
 |cont=>exact q
theorem uJ(h1:PS X st t):PSs X [st] t:=by
 intro pins s σ H D I h;refine wpAny_execs_cons (thn (h1 pins s σ H D I h) fun f s1 q=>?_);cases f with
 |next=>exact wpAny_execs_nil q
 |ret v=>exact q
 |brk=>exact q
 |cont=>exact q
theorem Inv.quiet{pins:List (Addr×Obj)}{σ:St}{H:Hp}{s:G3}(I:Inv X pins σ H s):interactive X.env=false:=by simp[interactive,I.ok.kind]
def BY(te:TE):TS:=fun D σ H=>te σ H fun _ H1=>D.nx σ H1
theorem vB(he:PE X e te)(hs:swapsWith e none pos.line X.env=pure false:=by rfl):PS X (.Expr e pos) (BY te):=by intro pins s σ H D I h;exact wpAny_Expr_any (thn (he pins s σ H _ I h) fun v s1 zz16_0=>by obtain⟨x,H1,I1,r1,q1⟩:=zz16_0;exact(⟨σ,H1,I1,q1⟩)) I.quiet hs
def F0(te:TE):TS:=fun D σ H=>te σ H D.rt
theorem Dq(he:PE X e te):PS X (.Return (some e) pos) (F0 te):=by intro pins s σ H D I h;exact wpAny_Return_some (thn (he pins s σ H _ I h) fun v s1 zz17_0=>by obtain⟨x,H1,I1,r1,q1⟩:=zz17_0;exact(⟨x,σ,H1,I1,r1,q1⟩))
def Gu(c:TT)(t u:TS):TS:=fun D σ H=>c σ H fun b H1=>if b=true then t D σ H1 else u D σ H1
theorem Eo{c:Expr}{a b:List Stmt}{tc:TT}(hc:PT X c tc)(ha:PSs X a t)(hb:PSs X b u):PS X (.If c a b pos) (Gu tc t u):=by
 intro pins s σ H D I h;refine wpAny_If (thn (hc pins s σ H _ I h) fun d s1 zz18_0=>?_);obtain⟨H1,I1,q1⟩:=zz18_0;cases d with
 |true=>exact ha pins s1 σ H1 D I1 q1
 |false=>exact hb pins s1 σ H1 D I1 q1
def xx:TS:=fun _ _ _=>False
theorem yE:PS X st xx:=fun _ _ _ _ _ _ h=>h.elim
theorem wo{sts:List Stmt}:PSs X sts xx:=fun _ _ _ _ _ _ h=>h.elim
end
abbrev TG:=V->St->Hp->(St->Hp->Prop)->Prop
abbrev TGs:=List V->St->Hp->(St->Hp->Prop)->Prop
def PG(X:Cx)(target:Expr)(t:TG):Prop:=
 ∀(pins:List (Addr×Obj)) (s:G3) (σ:St) (H:Hp) (v:V) (u:G0) (Q:St->Hp->Prop),Inv X pins σ H s->RelV v u->t v σ H Q->
  Hf (Hm X.prog X.w) X.A (assign target X.env u) (fun _ s'=>∃σ' H',Inv X pins σ' H' s'/\Q σ' H') X.xe s
def PGs(X:Cx)(ts:List Expr)(t:TGs):Prop:=
 ∀(pins:List (Addr×Obj)) (s:G3) (σ:St) (H:Hp) (vs:List V) (us:List G0) (Q:St->Hp->Prop),Inv X pins σ H s->Vals vs us->t vs σ H Q->
  Hf (Hm X.prog X.w) X.A (assignInOrder ((Im ts X.env).map (·.2)) us) (fun _ s'=>∃σ' H',Inv X pins σ' H' s'/\Q σ' H') X.xe s
abbrev CH:=V->V->V->Hp->(Hp->Prop)->Prop
def Em(X:Cx)(t:CH):Prop:=
 ∀(pins:List (Addr×Obj)) (s:G3) (σ:St) (H:Hp) (o i v:V) (ov iv u:G0) (Q:Hp->Prop),Inv X pins σ H s->RelV o ov->RelV i iv->RelV v u->t o i v H Q->
  Hf (Hm X.prog X.w) X.A (setItem ov iv u) (fun _ s'=>∃H',Inv X pins σ H' s'/\Q H') X.xe s
section
variable{X:Cx}{pos:Pos}
def jd(i:Nat):TG:=fun v σ H Q=>Q (σ.set i (some v)) H
theorem vk{i:Nat}{x:Str}(hN:X.N.Nodup)(hi:X.N[i]?=some x)(hx:Loc X.env.scope x)(hf:X.fn x=true\/X.env.scope.names.lookup x=some .local:=by first|exact .inl rfl|exact .inr rfl|assumption):PG X (.Name x pos) (jd i):=by intro pins s σ H v u Q I r h;exact wpAny_assign_Name (gO I hN hi hx r (fun s' I'=>⟨_,H,I',h⟩) hf)
def DZ:TGs:=fun vs σ H Q=>vs=[]/\Q σ H
def rh(t:TG)(u:TGs):TGs:=fun vs σ H Q=>∃v r,vs=v::r/\t v σ H fun σ' H'=>u r σ' H' Q
theorem vA:PGs X [] DZ:=by intro pins s σ H vs us Q I r h;obtain⟨e,h⟩:=h;subst e;cases r;exact assignInOrder_nil ⟨σ,H,I,h⟩
theorem lh{e:Expr}{es:List Expr}{t:TG}{u:TGs}(h1:PG X e t)(h2:PGs X es u) (hs:(Im (e::es) X.env).map (·.2)=assign e X.env::(Im es X.env).map (·.2):=by rfl):PGs X (e::es) (rh t u):=by
 intro pins s σ H vs us Q I r h;obtain⟨v,vr,e1,h⟩:=h;subst e1;cases r with
 |cons r rr=>
  rw[hs]
  refine assignInOrder_cons (thn (h1 pins s σ H _ _ _ I r h) fun _ s1 zz19_0=>?_)
  obtain⟨σ1,H1,I1,q1⟩:=zz19_0
  exact h2 pins s1 σ1 H1 _ _ Q I1 rr q1
def Dg(K:cc)(n:Nat)(t:TGs):TG:=fun v σ H Q=>∃a xs,v=.ref a/\SqT K H a xs/\xs.length=n/\t xs σ H Q
theorem y8{es:List Expr}{k:Nat}{t:TGs}{n:Nat}(hc:X.calm=true)(h:PGs X es t)
 (hn:(Im es X.env).length=n:=by rfl) (hst:(Im es X.env).findIdx? (·.1)=none:=by rfl):PG X (.Tuple es k pos) (Dg X.K n t):=by
 intro pins s σ H v u Q I r hw
 obtain⟨a,xs,e1,hq,hl,hw⟩:=hw
 subst e1
 cases r
 obtain⟨its,rv,ht,hz⟩:=I.tuple hq
 refine assign_Tuple_tuple (I.ok.hd hc) ht (by simp[hn,<-hl,rv.length]) hst fun h' hx=>?_
 have I1:Inv X pins σ H { s with heap:=h' }:=I.kept (t':=s.toks) fun b o e=>hx b o (HJ (Hb e)) e
 exact h pins _ σ H xs _ Q I1 (by simpa using rv) hw
def GI(to ti:TE)(t:CH):TG:=fun v σ H Q=>to σ H fun o H1=>ti σ H1 fun i H2=>t o i v H2 fun H3=>Q σ H3
theorem Cg{o i:Expr}{to ti:TE}{t:CH}(ho:PE X o to)(hi:PE X i ti)(hs:Em X t)
 (ha:∀v,assign (.Subscript o i pos) X.env v=(do
  let ov <-holding [v] (eval o X.env)
  let iv <-holding [v,ov] (eval i X.env)
  standAt pos
  holding [v,ov,iv] (setItem ov iv v)
  release [v,ov,iv] []):=by intro _;rfl):PG X (.Subscript o i pos) (GI to ti t):=by
 intro pins s σ H v u Q I r h
 rw[ha]
 refine G2 (IG (thn (ho pins s σ H _ I h) fun ov s1 zz20_0=>?_))
 obtain⟨x,H1,I1,r1,q1⟩:=zz20_0
 refine G2 (IG (thn (hi pins s1 σ H1 _ I1 q1) fun iv s2 zz21_0=>?_))
 obtain⟨y,H2,I2,r2,q2⟩:=zz21_0
 refine G2 (JL (G2 (IG (thn (hs pins s2 σ H2 x y v ov iv u _ I2 r1 r2 r q2) fun _ s3 zz22_0=>?_))))
 obtain⟨H3,I3,q3⟩:=zz22_0
 exact wpAny_release ⟨σ,H3,I3,q3⟩
def CW(te:TE)(g:TG):TS:=fun D σ H=>te σ H fun x H1=>g x σ H1 D.nx
theorem Eb{tg e:Expr}{te:TE}{g:TG}(he:PE X e te)(hg:PG X tg g)(hs:swapsWithSole [tg] e pos.line X.env=pure false:=by rfl)(hw:swappedStores [tg] e X.env=pure none:=by rfl) (h1:(Im [tg] X.env).map (·.2)=[assign tg X.env]:=by rfl):PS X (.Assign [tg] e pos) (CW te g):=by intro pins s σ H D I h;refine wpAny_Assign_stores (thn (he pins s σ H _ I h) fun v s1 zz23_0=>?_) hs hw;obtain⟨x,H1,I1,r1,q1⟩:=zz23_0;rw[h1];exact thn (hg pins s1 σ H1 x v _ I1 r1 q1) fun _ s2 q=>q
theorem D4{i:Nat}{x:Str}{e:Expr}{te:TE}{pos':Pos}(hN:X.N.Nodup)(hi:X.N[i]?=some x)(hx:Loc X.env.scope x)(he:PE X e te)(hs:swapsWith e (some (.Name x pos')) pos.line X.env=pure false:=by rfl)(hf:X.fn x=true\/X.env.scope.names.lookup x=some .local:=by first|exact .inl rfl|exact .inr rfl|assumption) : PS X (.Assign [.Name x pos'] e pos) (CW te (jd i)):=by intro pins s σ H D I h;refine wpAny_Assign_Name (thn (he pins s σ H _ I h) fun v s1 zz24_0=>?_) hs;obtain⟨y,H1,I1,r1,q1⟩:=zz24_0;exact gO I1 hN hi hx r1 (fun s2 I2=>⟨_,H1,I2,q1⟩) hf
def Gj(i j:Nat)(ta:TA):TS:=fun D σ H=>ta σ H fun vs H1=>∃v w,vs=[v,w]/\D.nx ((σ.set i (some v)).set j (some w)) H1
theorem Dm{i j:Nat}{x y:Str}{a b:Expr}{ta:TA}{px py pt:Pos}{kt k2 pt2}(hc:X.calm=true)(hN:X.N.Nodup)(hi:X.N[i]?=some x)(hj:X.N[j]?=some y)(hij:i≠j)
 (hx:X.env.scope.names.lookup x=some .local) (hy:X.env.scope.names.lookup y=some .local) (ha:PA X [a,b] ta)
 (hw:swappedStores [.Tuple [.Name x px,.Name y py] kt pt] (.Tuple [a,b] k2 pt2) X.env=pure (some [x,y]))
 (hs:swapsWithSole [.Tuple [.Name x px,.Name y py] kt pt] (.Tuple [a,b] k2 pt2) pos.line X.env=pure false:=by rfl) :
 PS X (.Assign [.Tuple [.Name x px,.Name y py] kt pt] (.Tuple [a,b] k2 pt2) pos) (Gj i j ta):=by
 intro pins s σ H D I h
 rw[exec_Assign_arm]
 refine G2 (JL ?_)
 rw[hs]
 refine G2 (Hd ?_)
 rw[if_neg (by decide)]
 refine G2 (Tuple_ (thn (ha _ pins s σ H _ I h) fun us s1 zz25_0=>?_))
 obtain⟨vs,H1,I1,r1,q1⟩:=zz25_0
 obtain⟨v,w,e1,q1⟩:=q1
 subst e1
 obtain⟨u1,u2,rfl,rv,rw'⟩:∃u1 u2,us=[u1,u2]/\RelV v u1/\RelV w u2:=by
  cases r1 with
  |cons p q=>
   cases q with
   |cons p' q'=>
    cases q'
    exact⟨_,_,rfl,p,p'⟩
 refine IJ ?_ (by show 2<=GX;decide)
 have I2:Inv X pins σ H1 { s1 with heap:=s1.heap.push { cls:=.type "tuple",data:=.seq [u1,u2].toArray } }:=I1.kept (t':=s1.toks) fun b o e=>G5 _ e
 rw[hw]
 refine G2 (Hd ?_)
 show Hf (Hm X.prog X.w) X.A (do rule "assign.swapped-stores";let items <-unpackItems (.ref s1.heap.objs.size) 2 none;assignInOrder [fun v=>bindName X.env y v,fun v=>bindName X.env x v] items.reverse;pure Flow.next) _ _ _
 refine G2 (wpAny_rule (G2 (unpackItems_tuple (items:=#[u1,u2]) (I.ok.hd hc) (IsTup.new s1.heap _) fun h' hx'=>?_)))
 have I3:=I2.kept (h':=h') (t':=s1.toks) fun b o e=>hx' b o (HJ (Hb e)) e
 show Hf _ _ (assignInOrder [fun v=>bindName X.env y v,fun v=>bindName X.env x v] [u2,u1] >>= fun _=>pure Flow.next) _ _ _
 refine G2 (assignInOrder_cons (wpAny_bindName (gO I3 hN hj (.inl hy) rw' (fun s2 I4=>?_) (.inr hy))))
 refine assignInOrder_cons (wpAny_bindName (gO I4 hN hi (.inl hx) rv (fun s3 I5=>assignInOrder_nil (Hd ?_)) (.inr hx)))
 rw[List.set_comm _ _ (Ne.symm hij)]at I5
 exact⟨_,H1,I5,q1⟩
end
section
variable{X:Cx}{pos:Pos}
def Dp(c:TT)(tb:TS):TS:=fun D σ H=>∃W:Nat->St->Hp->Prop,(∃m,W m σ H)/\∀m σ H,W m σ H->
 c σ H fun b H1=>if b=true then ∃N:St->Hp->Prop,(∀σ' H',N σ' H'->∃m',m'<m/\W m' σ' H')/\tb { D with nx:=N,ct:=N,bk:=D.nx } σ H1 else D.nx σ H1
theorem xl{c:Expr}{body:List Stmt}{tc:TT}{tb:TS}(hp:PassesOwn (Hm X.prog X.w) X.A X.env X.xe)(hc:PT X c tc)(hb:PSs X body tb):PS X (.While c body [] pos) (Dp tc tb):=by
 intro pins s σ H D I h;obtain⟨W,⟨m0,w0⟩,turn⟩:=h;refine wpAny_While (codeAny_whileLoop (fun n s'=>∃σ' H',Inv X pins σ' H' s'/\W n σ' H') ?_ m0 ⟨σ,H,I,w0⟩);rintro n s1 ⟨σ1,H1,I1,w1⟩;refine JC hp (thn (hc pins s1 σ1 H1 _ I1 (turn n σ1 H1 w1)) fun b s2 zz34_0=>?_);obtain⟨H2,I2,q2⟩:=zz34_0;cases b with
 |true=>
  obtain⟨N,hN,q2⟩:=q2
  rw[if_pos rfl]
  refine JC hp (thn (hb pins s2 σ1 H2 _ I2 q2) fun f s3 q3=>?_)
  cases f with
  |next=>
   obtain⟨σ3,H3,I3,n3⟩:=q3
   obtain⟨m',hm,w3⟩:=hN σ3 H3 n3
   exact⟨m',hm,σ3,H3,I3,w3⟩
  |cont=>
   obtain⟨σ3,H3,I3,n3⟩:=q3
   obtain⟨m',hm,w3⟩:=hN σ3 H3 n3
   exact⟨m',hm,σ3,H3,I3,w3⟩
  |brk=>exact q3
  |ret v=>exact q3
 |false=>
  rw[if_neg G6]
  exact wpAny_execs_nil ⟨σ1,H2,I2,q2⟩
end
structure It where
 go:Nat->Hp->Prop
 yld:Nat->Hp->V->Hp->Prop
 stop:Nat->Hp->Prop
def gE(X:Cx)(pins:List (Addr×Obj))(H:Hp)(b:Addr):Prop:=
 H b=none/\b≠X.env.locals/\b∉X.fs/\(b∈X.ex\/X.s₀.heap.objs.size<=b)/\(∀x c,X.env.cells.lookup x=some c->c≠b)/\∀p∈X.pn++pins,p.1≠b
theorem Inv.zc{X:Cx}{pins:List (Addr×Obj)}{σ:St}{H H':Hp}{s:G3}{b:Addr}(I:Inv X pins σ H s)(hb:s.heap.objs.size<=b)(hn:H' b=none):gE X pins H' b:=by
 refine⟨hn,Nat.ne_of_gt (G8 I.lt hb),I.F2 hb,.inr (He I.sz hb),fun x c e z=>?_,fun p hp z=>?_⟩
 ·obtain⟨v,q⟩:=I.cell x c e;exact absurd (G8 q.lt (by rw[z];exact hb)) (IX _)
 ·exact absurd (G8 (Hb (I.pin p hp).1) (by rw[z];exact hb)) (IX _)
structure Turn(P:Hi)(w:HL)(K:cc)(tg:Expr)(J:It)(fp:List Addr)(it:Addr)(tn:Nat->Heap->Prop):Prop where
 mem:it∈fp
 obj:∀i h,tn i h->∀b∈fp,∃o,h.get? b=some o/\∀v,o.data≠.cell v
 keep:∀i h h',tn i h->(∀b∈fp,∀o,h.get? b=some o->h'.get? b=some o)->tn i h'
 item:∀(X:Cx),X.prog=P->X.w=w->X.K=K->X.calm=true->∀(i:Nat) (pins:List (Addr×Obj)) (s:G3) (σ:St) (H:Hp) (E:G0->G3->Prop),Inv X pins σ H s->(∀b∈fp,gE X pins H b)->tn i s.heap->J.go i H->
  Hf (Hm P w) X.A (pyNext (.ref it)) (fun r s1=>∃u,r=some u/\
   Hf (Hm P w) X.A (letOwnedTupleGo tg (.ref it) u) (fun _ s2=>∃x H',Inv X pins σ H' s2/\RelV x u/\J.yld i H x H'/\tn (i+1) s2.heap/\∀b∈fp,H' b=none) E s1) E s
 done:∀(X:Cx),X.prog=P->X.w=w->X.K=K->X.calm=true->∀(i:Nat) (pins:List (Addr×Obj)) (s:G3) (σ:St) (H:Hp) (E:G0->G3->Prop),Inv X pins σ H s->(∀b∈fp,gE X pins H b)->tn i s.heap->J.stop i H->
  Hf (Hm P w) X.A (pyNext (.ref it)) (fun r s1=>r=none/\Inv X pins σ H s1) E s
 self:∀(A:HM) (i:Nat) (s:G3) (Q:G0->G3->Prop) (E:G0->G3->Prop),tn i s.heap->Q (.ref it) s->Hf (Hm P w) A (pyIter (.ref it)) Q E s
abbrev TI:=St->Hp->(It->Hp->Prop)->Prop
def PIE(X:Cx)(pins:List (Addr×Obj))(σ:St)(tg:Expr)(R:It->Hp->Prop)(itv:G0)(s2:G3):Prop:=
 ∃(it:Addr) (fp:List Addr) (tn:Nat->Heap->Prop) (J:It) (H':Hp),itv=.ref it/\Inv X pins σ H' s2/\Turn X.prog X.w X.K tg J fp it tn/\tn 0 s2.heap/\(∀b∈fp,gE X pins H' b)/\R J H'
def PI(X:Cx)(tg iter:Expr)(wi:TI):Prop:=
 ∀(pins:List (Addr×Obj)) (s:G3) (σ:St) (H:Hp) (R:It->Hp->Prop),Inv X pins σ H s->wi σ H R->
  Hf (Hm X.prog X.w) X.A (eval iter X.env) (fun v s1=>Hf (Hm X.prog X.w) X.A (pyIter v) (PIE X pins σ tg R) X.xe s1) X.xe s
theorem uD{M:Model}{A:HM}{E:G0->G3->Prop}{s:G3}{tg:Expr}{it:Addr}{u:G0}{o:Obj}{n:String}{vs:Array G0}{Q:Unit->G3->Prop}(ho:s.heap.get? it=some o)(hc:o.cls=.type n)(hd:o.data=.fields vs) (hn:["enumerate","zip","dict_itemiterator","dict_reverseitemiterator","odict_iterator","itertools.zip_longest","itertools.pairwise"].contains n=false) (hQ:Q () s):Hf M A (letOwnedTupleGo tg (.ref it) u) Q E s:=by
 unfold letOwnedTupleGo
 cases tg<;>first
  |exact Hd hQ
  |(cases u<;>first
   |exact Hd hQ
   |(refine G2 (wpAny_load ho ?_)
     rw[hc,hd]
     show Hf M A (if(["enumerate","zip","dict_itemiterator","dict_reverseitemiterator","odict_iterator","itertools.zip_longest","itertools.pairwise"].contains n&&vs[0]?==some (rawInt _))=true then _ else _) Q E s
     rw[if_neg (by intro h;rw[hn,Bool.false_and]at h;cases h)]
     exact Hd hQ))
def Itl(K:cc)(a:Addr):It:=
 ⟨fun i H=>∃xs x,SqL K H a xs/\xs[i]?=some x,fun i H x H'=>H'=H/\∀xs,SqL K H a xs->xs[i]?=some x,fun i H=>∃xs,SqL K H a xs/\xs.length<=i⟩
def Itt(K:cc)(a:Addr):It:=
 ⟨fun i H=>∃xs x,SqT K H a xs/\xs[i]?=some x,fun i H x H'=>H'=H/\∀xs,SqT K H a xs->xs[i]?=some x,fun i H=>∃xs,SqT K H a xs/\xs.length<=i⟩
def Itr(lo:Int)(n:Nat):It:=⟨fun i _=>i<n,fun i H x H'=>H'=H/\x=.int (lo+i),fun i _=>n<=i⟩
theorem vL{P:Hi}{w:HL}{K:cc}{tg:Expr}(a it:Addr):Turn P w K tg (Itl K a) [it] it (fun i h=>h.IsListIter it a i) where
 mem:=by simp
 obj:=fun i h st b hb=>by
  have e:b=it:=by simpa using hb
  subst e
  obtain⟨o,e,c,d⟩:=st
  exact⟨o,e,fun v z=>by rw[d]at z;cases z⟩
 keep:=fun i h h' st k=>st.at fun o e=>k it (by simp) o e
 item:=by
  intro X hP hw hK hc i pins s σ H E I hf st hg
  subst hP hw hK
  obtain⟨xs,x,hq,hx⟩:=hg
  obtain⟨its,rv,p,hz⟩:=I.list hq
  obtain⟨u,hu,ru⟩:=rv.get hx
  obtain⟨f0,f1,f2,f3,f4,f5⟩:=hf it (by simp)
  refine wpAny_pyNext_list_item st p.isList (x:=u) (by simpa using hu) fun h' st' sb=>?_
  have I1:Inv X pins σ H { s with heap:=h' }:=I.turned (t':=s.toks) (fun b o hb e=>(sb.2 b hb).trans e) f0 f1 f3 f4 f5
  obtain⟨o,e,c,d⟩:=id st'
  exact⟨u,rfl,uD (s:={ s with heap:=h' }) e c d (by decide) ⟨x,H,I1,ru,⟨rfl,fun ys hy=>by rw[I.qJ hy hq];exact hx⟩,st',fun b hb=>(hf b hb).1⟩⟩
 done:=by
  intro X hP hw hK hc i pins s σ H E I hf st hg
  subst hP hw hK
  obtain⟨xs,hq,hx⟩:=hg
  obtain⟨its,rv,p,hz⟩:=I.list hq
  obtain⟨f0,f1,f2,f3,f4,f5⟩:=hf it (by simp)
  have hl:=rv.length
  exact wpAny_pyNext_list_end (I.ok.hd hc) st p.isList (by simp;omega) fun h' eb=>⟨rfl,I.turned (t':=s.toks) (fun b o hb e=>eb b o hb e) f0 f1 f3 f4 f5⟩
 self:=fun _ _ _ _ _ st h=>wpAny_pyIter_listiter st h
theorem sI{P:Hi}{w:HL}{K:cc}{tg:Expr}(a it:Addr):Turn P w K tg (Itt K a) [it] it (fun i h=>h.IsTupleIter it a i) where
 mem:=by simp
 obj:=fun i h st b hb=>by
  have e:b=it:=by simpa using hb
  subst e
  obtain⟨o,e,c,d⟩:=st
  exact⟨o,e,fun v z=>by rw[d]at z;cases z⟩
 keep:=fun i h h' st k=>st.at fun o e=>k it (by simp) o e
 item:=by
  intro X hP hw hK hc i pins s σ H E I hf st hg
  subst hP hw hK
  obtain⟨xs,x,hq,hx⟩:=hg
  obtain⟨its,rv,p,hz⟩:=I.tuple hq
  obtain⟨u,hu,ru⟩:=rv.get hx
  obtain⟨f0,f1,f2,f3,f4,f5⟩:=hf it (by simp)
  refine Jh st (show s.heap.IsTuple a its.toArray from p) (x:=u) (by simpa using hu) fun h' st' sb=>?_
  have I1:Inv X pins σ H { s with heap:=h' }:=I.turned (t':=s.toks) (fun b o hb e=>(sb.2 b hb).trans e) f0 f1 f3 f4 f5
  obtain⟨o,e,c,d⟩:=id st'
  exact⟨u,rfl,uD (s:={ s with heap:=h' }) e c d (by decide) ⟨x,H,I1,ru,⟨rfl,fun ys hy=>by rw[I.w4 hy hq];exact hx⟩,st',fun b hb=>(hf b hb).1⟩⟩
 done:=by
  intro X hP hw hK hc i pins s σ H E I hf st hg
  subst hP hw hK
  obtain⟨xs,hq,hx⟩:=hg
  obtain⟨its,rv,p,hz⟩:=I.tuple hq
  obtain⟨f0,f1,f2,f3,f4,f5⟩:=hf it (by simp)
  have hl:=rv.length
  exact wpAny_pyNext_tuple_end (I.ok.hd hc) st (show s.heap.IsTuple a its.toArray from p) (by simp;omega) fun h' eb=>⟨rfl,I.turned (t':=s.toks) (fun b o hb e=>eb b o hb e) f0 f1 f3 f4 f5⟩
 self:=fun _ _ _ _ _ st h=>wpAny_pyIter_tupleiter st h
theorem tO{P:Hi}{w:HL}{K:cc}{tg:Expr}(it:Addr)(lo:Int)(n:Nat):Turn P w K tg (Itr lo n) [it] it (fun i h=>IsRangeIter h it (lo+(i:Nat)*1) ((n:Int)-(i:Nat)) 1) where
 mem:=by simp
 obj:=fun i h st b hb=>by
  have e:b=it:=by simpa using hb
  subst e
  exact⟨_,st,fun v z=>by
   have z':Data.fields _=Data.cell v:=z
   cases z'⟩
 keep:=fun i h h' st k=>k it (by simp) _ st
 item:=by
  intro X hP hw hK hc i pins s σ H E I hf st hg
  subst hP hw hK
  obtain⟨f0,f1,f2,f3,f4,f5⟩:=hf it (by simp)
  have W:=Walks.range (prog:=X.prog) (w:=X.w) (I.ok.hd hc) it lo 1 n
  refine W.item i s _ _ hg st fun v h' tk hv st' kk=>?_
  obtain⟨t,rfl⟩:=hv
  have I1:Inv X pins σ H { s with heap:=h',toks:=tk }:=I.turned (fun b o hb e=>kk b o (by simpa using hb) e) f0 f1 f3 f4 f5
  refine⟨_,rfl,uD (s:={ s with heap:=h',toks:=tk }) (n:="range_iterator") st' rfl rfl (by decide) ⟨.int (lo+i),H,I1,⟨t,?_⟩,⟨rfl,rfl⟩,st',fun b hb=>(hf b hb).1⟩⟩
  rw[Int.mul_one]
 done:=by
  intro X hP hw hK hc i pins s σ H E I hf st hg
  subst hP hw hK
  obtain⟨f0,f1,f2,f3,f4,f5⟩:=hf it (by simp)
  exact wpAny_pyNext_range_end (I.ok.hd hc) st (by have:n<=i:=hg;omega) fun h' eb=>⟨rfl,I.turned (t':=s.toks) (fun b o hb e=>eb b o hb e) f0 f1 f3 f4 f5⟩
 self:=fun _ _ _ _ _ st h=>wpAny_pyIter_rangeiter st h
section
variable{X:Cx}{tg:Expr}
theorem yX{pins:List (Addr×Obj)}{σ:St}{H:Hp}{s:G3}{R:It->Hp->Prop}{E:G0->G3->Prop}{lo hi:Int}{t u v:Tok}{tk:Nat}(I:Inv X pins σ H s)(h1:-(2^62)<=lo)(h2:lo<2^62)(h3:-(2^62)<=hi)(h4:hi<2^62)
 (q:R (Itr lo (hi-lo).toNat) H):Hf (Hm X.prog X.w) X.A (pyIter (.ref s.heap.objs.size)) (PIE X pins σ tg R) E { s with heap:=s.heap.push { cls:=.type "range",data:=.fields #[.int lo t,.int hi u,.int 1 v] },toks:=tk }:=by
 refine wpAny_pyIter_range (IsRange.new ..) (small_one h1 h2 h3 h4) ?_
 have I1:Inv X pins σ H { s with heap:=s.heap.push { cls:=.type "range",data:=.fields #[.int lo t,.int hi u,.int 1 v] },toks:=tk }:=I.kept fun b o e=>G5 _ e
 refine⟨(s.heap.push { cls:=.type "range",data:=.fields #[.int lo t,.int hi u,.int 1 v] }).objs.size,[(s.heap.push { cls:=.type "range",data:=.fields #[.int lo t,.int hi u,.int 1 v] }).objs.size],_,_,H,rfl,
  I1.kept (t':=tk) fun b o e=>G5 _ e,tO _ lo (hi-lo).toNat,?_,fun b hb=>?_,q⟩
 ·have e1:lo+((0:Nat):Int)*1=lo:=by simp
  have e2:(((hi-lo).toNat:Nat):Int)-((0:Nat):Int)=Builtin.Range.rangeSize lo hi 1:=by rw[rangeSize_one];split<;>omega
  show IsRangeIter _ _ (lo+((0:Nat):Int)*1) ((((hi-lo).toNat:Nat):Int)-((0:Nat):Int)) 1
  rw[e1,e2]
  exact Hk _ rfl
 ·have e:b=(s.heap.push { cls:=.type "range",data:=.fields #[.int lo t,.int hi u,.int 1 v] }).objs.size:=by simpa using hb
  subst e
  exact I1.zc (GY _) (I1.hok.fresh (GY _))
def Fs(ta:TA):TI:=fun σ H R=>ta σ H fun vs H1=>∃j:Int,vs=[.int j]/\-(2^62)<=j/\j<2^62/\R (Itr 0 j.toNat) H1
theorem oB{a:Expr}{ta:TA}{p pos:Pos}(hg:Gl X "range")(hm:X.mg "range"=none)(ha:PA X [a] ta)(hs:Hc [a] X.env=[(false,eval a X.env)]:=by rfl):PI X tg (.Call (.Name "range" p) [a] [] pos) (Fs ta):=by
 intro pins s σ H R I h;refine Call_ (mM I hg hm boot_range (PyProof.Rows.callWith_type1 (thn (ha pos pins s σ H _ I h) fun us s1 zz37_0=>?_) hs rfl));obtain⟨vs,H1,I1,r1,q1⟩:=zz37_0;obtain⟨j,e,q1,q2,q⟩:=q1;subst e;cases r1 with
 |cons r rr=>
  cases rr
  obtain⟨t,rfl⟩:=r
  exact call_range_1 (yX I1 (by omega) (by omega) q1 q2 (by simpa using q))
def Gv(wi:TI)(g:TG)(tb:TS):TS:=fun D σ H=>wi σ H fun J H1=>∃W:Nat->Nat->St->Hp->Prop,(∃m,W 0 m σ H1)/\∀i m σ H,W i m σ H->
 (J.stop i H/\D.nx σ H)\/(J.go i H/\∃N:St->Hp->Prop,(∀σ' H',N σ' H'->∃m',m'<m/\W (i+1) m' σ' H')/\∀x H',J.yld i H x H'->g x σ H' fun σ2 H2=>tb { D with nx:=N,ct:=N,bk:=D.nx } σ2 H2)
def lF(fp:List Addr)(h:Heap):List (Addr×Obj):=fp.filterMap fun b=>(h.get? b).map fun o=>(b,o)
theorem gc{fp:List Addr}{h:Heap}{b:Addr}{o:Obj}(hb:b∈fp)(e:h.get? b=some o):(b,o)∈lF fp h:=J3.mpr ⟨b,hb,by rw[e];rfl⟩
theorem vV{fp:List Addr}{h:Heap}{p:Addr×Obj}(hp:p∈lF fp h):p.1∈fp/\h.get? p.1=some p.2:=by
 obtain⟨b,hb,e⟩:=J3.mp hp;cases q:h.get? b with
 |none=>rw[q]at e;cases e
 |some o=>
  rw[q]at e
  have e':(b,o)=p:=Option.some.inj e
  subst e'
  exact⟨hb,q⟩
theorem Inv.pinned{pins:List (Addr×Obj)}{σ:St}{H:Hp}{s:G3}{fp:List Addr}(I:Inv X pins σ H s)(hf:∀b∈fp,gE X pins H b)(ho:∀b∈fp,∃o,s.heap.get? b=some o/\∀v,o.data≠.cell v):Inv X (pins++lF fp s.heap) σ H s:=
 I.uT fun p hp=>(Hv.mp hp).elim (fun z=>I.pin p (Ib _ z)) fun z=>by
  obtain⟨hb,e⟩:=vV z
  obtain⟨f0,f1,f2,_⟩:=hf p.1 hb
  obtain⟨o,e',d⟩:=ho p.1 hb
  rw[e]at e';cases e'
  exact⟨e,f0,f1,f2,d⟩
theorem Inv.jj{pins pl:List (Addr×Obj)}{σ:St}{H:Hp}{s:G3}(I:Inv X (pins++pl) σ H s):Inv X pins σ H s:=I.uT fun p hp=>I.pin p (Ib _ (List.mem_append_left _ hp))
theorem xm{iter:Expr}{body:List Stmt}{wi:TI}{g:TG}{tb:TS}{pos:Pos}(hp:PassesOwn (Hm X.prog X.w) X.A X.env X.xe)(hc:X.calm=true)(hi:PI X tg iter wi)(hg:PG X tg g)(hb:PSs X body tb)
 (hs:∀x,IK iter X.env x=pure x:=by intro _;rfl):PS X (.For tg iter body [] pos) (Gv wi g tb):=by
 intro pins s σ H D I h
 refine wpAny_For (thn (hi pins s σ H _ I h) fun v s1 h1=>thn h1 fun itv s2 h2=>?_) hs
 obtain⟨it,fp,tn,J,H2,e,I2,T,st2,f2,W,⟨m0,w0⟩,turn⟩:=h2
 subst e
 have stat:∀{H':Hp},(∀b∈fp,H' b=none)->∀b∈fp,gE X pins H' b:=fun hn b hb=>⟨hn b hb,(f2 b hb).2⟩
 refine codeAny_forLoop_any (fun n s'=>∃i σ' H',Inv X pins σ' H' s'/\tn i s'.heap/\(∀b∈fp,H' b=none)/\W i n σ' H') ?_ m0 ⟨0,σ,H2,I2,st2,fun b hb=>(f2 b hb).1,w0⟩
 rintro n s3 ⟨i,σ3,H3,I3,st3,fr3,w3⟩
 rcases turn i n σ3 H3 w3 with⟨stop,qn⟩|⟨go,N,hN,step⟩
 ·refine JC hp (thn (T.done X rfl rfl rfl hc i pins s3 σ3 H3 X.xe I3 (stat fr3) st3 stop) fun r s4 zz38_0=>?_)
  obtain⟨hr,I4⟩:=zz38_0
  subst hr
  exact wpAny_execs_nil ⟨σ3,H3,I4,qn⟩
 ·refine JC hp (thn (T.item X rfl rfl rfl hc i pins s3 σ3 H3 X.xe I3 (stat fr3) st3 go) fun r s4 zz39_0=>?_)
  obtain⟨u,hr,h4⟩:=zz39_0
  subst hr
  refine JC hp (thn h4 fun _ s5 zz40_0=>?_)
  obtain⟨x,H5,I5,r5,y5,st5,fr5⟩:=zz40_0
  have I5':=I5.pinned (stat fr5) (T.obj _ _ st5)
  refine JC hp (thn (hg _ s5 σ3 H5 x u _ I5' r5 (step x H5 y5)) fun _ s6 zz41_0=>?_)
  obtain⟨σ6,H6,I6,q6⟩:=zz41_0
  refine JC hp (thn (hb _ s6 σ6 H6 _ I6 q6) fun f s7 q7=>?_)
  have again:∀{σ7:St} {H7:Hp},Inv X (pins++lF fp s5.heap) σ7 H7 s7->N σ7 H7->∃m,m<n/\∃i σ' H',Inv X pins σ' H' s7/\tn i s7.heap/\(∀b∈fp,H' b=none)/\W i m σ' H':=fun{σ7 H7} I7 n7=>by
   obtain⟨m',hm,w7⟩:=hN σ7 H7 n7
   refine⟨m',hm,i+1,σ7,H7,I7.jj,T.keep _ _ _ st5 fun b hb o e=>(I7.pin (b,o) (Ib _ (Ib _ (gc hb e)))).1,fun b hb=>?_,w7⟩
   obtain⟨o,e,d⟩:=T.obj _ _ st5 b hb
   exact(I7.pin (b,o) (Ib _ (Ib _ (gc hb e)))).2.1
  cases f with
  |next=>obtain⟨σ7,H7,I7,n7⟩:=q7;exact again I7 n7
  |cont=>obtain⟨σ7,H7,I7,n7⟩:=q7;exact again I7 n7
  |brk=>obtain⟨σ7,H7,I7,q7⟩:=q7;exact⟨σ7,H7,I7.jj,q7⟩
  |ret v=>obtain⟨x7,σ7,H7,I7,r7,q7⟩:=q7;exact⟨x7,σ7,H7,I7.jj,r7,q7⟩
end
theorem wF{lo:Int}{n:Nat}{g:TG}{tb:TS}{D:Ends}{σ:St}{H:Hp}(Pv:Nat->St->Hp->Prop)(h0:Pv 0 σ H)
 (hs:∀i σ H,i<n->Pv i σ H->g (.int (lo+i)) σ H fun σ2 H2=>tb { D with nx:=Pv (i+1),ct:=Pv (i+1),bk:=D.nx } σ2 H2) (hd:∀σ H,Pv n σ H->D.nx σ H) :
 ∃W:Nat->Nat->St->Hp->Prop,(∃m,W 0 m σ H)/\∀i m σ H,W i m σ H->
  ((Itr lo n).stop i H/\D.nx σ H)\/((Itr lo n).go i H/\∃N:St->Hp->Prop,(∀σ' H',N σ' H'->∃m',m'<m/\W (i+1) m' σ' H')/\∀x H',(Itr lo n).yld i H x H'->g x σ H' fun σ2 H2=>tb { D with nx:=N,ct:=N,bk:=D.nx } σ2 H2):=by
 refine⟨fun i m σ H=>m=n-i/\i<=n/\Pv i σ H,⟨n,by simp,Jb _,h0⟩,?_⟩
 rintro i m σ H ⟨rfl,hi,p⟩
 by_cases hlt:i<n
 ·refine .inr ⟨hlt,Pv (i+1),fun σ' H' p'=>⟨n-(i+1),by omega,rfl,hlt,p'⟩,fun x H' y=>?_⟩
  obtain⟨e,y⟩:=y
  subst e y
  exact hs i σ _ hlt p
 ·have e:i=n:=by omega
  subst e
  exact .inl ⟨GY _,hd σ H p⟩
abbrev R2:=V->V->Hp->VK->Prop
def OpR(X:Cx)(f:G0->G0->Sem G0)(r:R2):Prop:=
 ∀(pins:List (Addr×Obj)) (s:G3) (σ:St) (H:Hp) (x y:V) (v u:G0) (Q:VK),Inv X pins σ H s->RelV x v->RelV y u->r x y H Q->
  Hf (Hm X.prog X.w) X.A (f v u) (EP X pins σ Q) X.xe s
def UnR(X:Cx)(f:G0->Sem G0)(r:V->Hp->VK->Prop):Prop:=
 ∀(pins:List (Addr×Obj)) (s:G3) (σ:St) (H:Hp) (x:V) (v:G0) (Q:VK),Inv X pins σ H s->RelV x v->r x H Q->
  Hf (Hm X.prog X.w) X.A (f v) (EP X pins σ Q) X.xe s
def b8(X:Cx)(f:G0)(r:List V->Hp->VK->Prop):Prop:=
 ∀(pins:List (Addr×Obj)) (s:G3) (σ:St) (H:Hp) (xs:List V) (us:List G0) (Q:VK),Inv X pins σ H s->Vals xs us->r xs H Q->
  Hf (Hm X.prog X.w) X.A (call f us) (EP X pins σ Q) X.xe s
def Gp(X:Cx)(r:V->Hp->(Bool->Hp->Prop)->Prop):Prop:=
 ∀(pins:List (Addr×Obj)) (s:G3) (σ:St) (H:Hp) (x:V) (v:G0) (Q:Bool->Hp->Prop),Inv X pins σ H s->RelV x v->r x H Q->
  Hf (Hm X.prog X.w) X.A (truthy v) (TP X pins σ Q) X.xe s
def tOp(r:R2)(ta tb:TE):TE:=fun σ H Q=>ta σ H fun x H1=>tb σ H1 fun y H2=>r x y H2 Q
def tUn(r:V->Hp->VK->Prop)(ta:TE):TE:=fun σ H Q=>ta σ H fun x H1=>r x H1 Q
def rI(C:Int->Int->Prop)(g:Int->Int->V):R2:=fun x y H Q=>∃i j,x=.int i/\y=.int j/\C i j/\Q (g i j) H
def rI0(g:Int->Int->V):R2:=fun x y H Q=>∃i j,x=.int i/\y=.int j/\Q (g i j) H
def rU(g:Int->V):V->Hp->VK->Prop:=fun x H Q=>∃i,x=.int i/\Q (g i) H
section
variable{X:Cx}{a b c:Expr}{ta tb tc:TE}{pos:Pos}
theorem Cd(ha:PE X a ta)(hb:PE X b tb){pins:List (Addr×Obj)}{s:G3}{σ:St}{H:Hp}{R:V->V->Hp->Prop}(I:Inv X pins σ H s) (h:ta σ H fun x H1=>tb σ H1 fun y H2=>R x y H2) {Q:G0->G3->Prop} {f:G0->G0->Sem G0} (hf:∀v u s2 x y H2,Inv X pins σ H2 s2->RelV x v->RelV y u->R x y H2->Hf (Hm X.prog X.w) X.A (f v u) Q X.xe s2) : Hf (Hm X.prog X.w) X.A (eval a X.env) (fun v s₁=>Hf (Hm X.prog X.w) X.A (eval b X.env) (fun u s₂=>Hf (Hm X.prog X.w) X.A (f v u) Q X.xe s₂) X.xe s₁) X.xe s:=by refine thn (ha pins s σ H _ I h) fun v s1 zz43_0=>?_;obtain⟨x,H1,I1,r1,q1⟩:=zz43_0;refine thn (hb pins s1 σ H1 _ I1 q1) fun u s2 zz44_0=>?_;obtain⟨y,H2,I2,r2,q2⟩:=zz44_0;exact hf v u s2 x y H2 I2 r1 r2 q2
theorem Fz{op:Operator}{r:R2}(ho:OpR X (J2 op) r)(ha:PE X a ta)(hb:PE X b tb):PE X (.BinOp a op b pos) (tOp r ta tb):=by intro pins s σ H Q I h;exact wpAny_BinOp (Cd ha hb I h fun v u s2 x y H2 I2 rx ry q=>ho pins s2 σ H2 x y v u Q I2 rx ry q)
theorem Fo{op:UnaryOp}{r:V->Hp->VK->Prop}(ho:UnR X (unaryOp op) r)(ha:PE X a ta):PE X (.UnaryOp op a pos) (tUn r ta):=by intro pins s σ H Q I h;exact UnaryOp_ (thn (ha pins s σ H _ I h) fun v s1 zz45_0=>by obtain⟨x,H1,I1,r1,q1⟩:=zz45_0;exact(ho pins s1 σ H1 x v Q I1 r1 q1))
theorem opI{f:G0->G0->Sem G0}{C:Int->Int->Prop}{g:Int->Int->Int} (rule:∀(i j:Int) (t u:Tok) (s:G3) (Q:G0->G3->Prop) (E:G0->G3->Prop),C i j->Q (.int (g i j) s.toks) { s with toks:=s.toks+1 }->Hf (Hm X.prog X.w) X.A (f (.int i t) (.int j u)) Q E s) : OpR X f (rI C fun i j=>.int (g i j)):=by intro pins s σ H x y v u Q I rx ry h;obtain⟨i,j,rfl,rfl,hc,q⟩:=h;obtain⟨t,rfl⟩:=rx;obtain⟨t',rfl⟩:=ry;exact rule i j t t' s _ _ hc ⟨.int (g i j),H,I.tok _,⟨_,rfl⟩,q⟩
theorem FR{f:G0->G0->Sem G0}{g:Int->Int->Int} (rule:∀(i j:Int) (t u:Tok) (s:G3) (Q:G0->G3->Prop) (E:G0->G3->Prop),Q (.int (g i j) s.toks) { s with toks:=s.toks+1 }->Hf (Hm X.prog X.w) X.A (f (.int i t) (.int j u)) Q E s) : OpR X f (rI0 fun i j=>.int (g i j)):=by intro pins s σ H x y v u Q I rx ry h;obtain⟨i,j,rfl,rfl,q⟩:=h;obtain⟨t,rfl⟩:=rx;obtain⟨t',rfl⟩:=ry;exact rule i j t t' s _ _ ⟨.int (g i j),H,I.tok _,⟨_,rfl⟩,q⟩
theorem zX{f:G0->G0->Sem G0}{g:Int->Int->Bool} (rule:∀(i j:Int) (t u:Tok) (s:G3) (Q:G0->G3->Prop) (E:G0->G3->Prop),Q (.bool (g i j)) s->Hf (Hm X.prog X.w) X.A (f (.int i t) (.int j u)) Q E s) : OpR X f (rI0 fun i j=>.bl (g i j)):=by intro pins s σ H x y v u Q I rx ry h;obtain⟨i,j,rfl,rfl,q⟩:=h;obtain⟨t,rfl⟩:=rx;obtain⟨t',rfl⟩:=ry;exact rule i j t t' s _ _ ⟨.bl (g i j),H,I,rfl,q⟩
def Fu(i j:Int):Prop:=0<=j/\j<=1000000/\i.natAbs<2^64
theorem Cs:OpR X (J2 .Add) (rI0 fun i j=>.int (i+j)):=FR fun _ _ _ _ _ _ _ q=>add_int q
theorem CP:OpR X (J2 .Sub) (rI0 fun i j=>.int (i-j)):=FR fun _ _ _ _ _ _ _ q=>sub_int q
theorem zT:OpR X (J2 .Mod) (rI (fun _ j=>j≠0) fun i j=>.int (i.fmod j)):=opI fun _ _ _ _ _ _ _ hc q=>mod_int' hc q
theorem CC:OpR X (J2 .Pow) (rI Fu fun i j=>.int (i^j.toNat)):=opI fun _ _ _ _ _ _ _ hc q=>pow_int_small hc.1 hc.2.1 hc.2.2 q
theorem unI{f:G0->Sem G0}{g:Int->Int} (rule:∀(i:Int) (t:Tok) (s:G3) (Q:G0->G3->Prop) (E:G0->G3->Prop),Q (.int (g i) s.toks) { s with toks:=s.toks+1 }->Hf (Hm X.prog X.w) X.A (f (.int i t)) Q E s) : UnR X f (rU fun i=>.int (g i)):=by intro pins s σ H x v Q I rx h;obtain⟨i,rfl,q⟩:=h;obtain⟨t,rfl⟩:=rx;exact rule i t s _ _ ⟨.int (g i),H,I.tok _,⟨_,rfl⟩,q⟩
theorem DM:UnR X (unaryOp .USub) (rU fun i=>.int (-i)):=unI fun _ _ _ _ _ q=>neg_int q
end
def EZ:V->V->Bool
 |.non,.non=>true|.non,.int _=>true|.int _,.non=>true|.non,.bl _=>true|.bl _,.non=>true|.non,.str _=>true|.str _,.non=>true
 |.int _,.int _=>true|.bl _,.bl _=>true|.str _,.str _=>true|.byt _,.byt _=>true
 |.int _,.str _=>true|.str _,.int _=>true|.bl _,.str _=>true|.str _,.bl _=>true
 |_,_=>false
def rEq:R2:=fun x y H Q=>EZ x y=true/\Q (.bl (decide (x=y))) H
def rNe:R2:=fun x y H Q=>EZ x y=true/\Q (.bl (!decide (x=y))) H
theorem vG{i j:Int}:decide (V.int i=V.int j)=(i==j):=by rw[Hy];simp
theorem zF{i j:Bool}:decide (V.bl i=V.bl j)=(i==j):=by rw[Hy];simp
theorem vj{i j:Str}:decide (V.str i=V.str j)=(i==j):=by rw[Hy];simp
theorem vD{i j:Array UInt8}:decide (V.byt i=V.byt j)=(i.toList==j.toList):=by rw[Hy];cases i;cases j;simp
section
variable{X:Cx}{a b c:Expr}{ta tb tc:TE}{pos:Pos}
theorem bc{pins:List (Addr×Obj)}{σ:St}{H:Hp}{s:G3}{Q:VK}{k k':Bool}(I:Inv X pins σ H s)(q:Q (.bl k) H)(e:k=k'):EP X pins σ Q (.bool k') s:=by subst e;exact⟨.bl k,H,I,rfl,q⟩
theorem Es:OpR X (Hn .Eq) rEq:=by
 intro pins s σ H x y v u Q I rx ry h;obtain⟨hs,q⟩:=h;cases x with
 |non=>
  cases rx
  cases y with
  |non=>cases ry;exact PySem.EqNone.eq_none_none (bc I q (by simp))
  |bl j=>cases ry;exact PySem.EqNone.eq_none_bool (bc I q (by simp))
  |int j=>obtain⟨t',rfl⟩:=ry;exact PySem.EqNone.eq_none_int (bc I q (by simp))
  |str j=>obtain⟨t',rfl⟩:=ry;exact PySem.EqNone.eq_none_str (bc I q (by simp))
  |_=>exact absurd (show false=true from hs) G6
 |bl i=>
  cases rx
  cases y with
  |non=>cases ry;exact PySem.EqNone.eq_bool_none (bc I q (by simp))
  |bl j=>cases ry;exact eq_bool (bc I q zF)
  |str j=>obtain⟨t',rfl⟩:=ry;exact PySem.EqMixed.eq_bool_str (bc I q (by simp))
  |_=>exact absurd (show false=true from hs) G6
 |int i=>
  obtain⟨t,rfl⟩:=rx
  cases y with
  |non=>cases ry;exact PySem.EqNone.eq_int_none (bc I q (by simp))
  |int j=>obtain⟨t',rfl⟩:=ry;exact eq_int (bc I q vG)
  |str j=>obtain⟨t',rfl⟩:=ry;exact PySem.EqMixed.eq_int_str (bc I q (by simp))
  |_=>exact absurd (show false=true from hs) G6
 |str i=>
  obtain⟨t,rfl⟩:=rx
  cases y with
  |non=>cases ry;exact PySem.EqNone.eq_str_none (bc I q (by simp))
  |bl j=>cases ry;exact PySem.EqMixed.eq_str_bool (bc I q (by simp))
  |int j=>obtain⟨t',rfl⟩:=ry;exact PySem.EqMixed.eq_str_int (bc I q (by simp))
  |str j=>obtain⟨t',rfl⟩:=ry;exact eq_str (bc I q vj)
  |_=>exact absurd (show false=true from hs) G6
 |byt i=>
  obtain⟨t,rfl⟩:=rx
  cases y with
  |byt j=>obtain⟨t',rfl⟩:=ry;exact PySem.W.eq_bytes (bc I q vD)
  |_=>exact absurd (show false=true from hs) G6
 |_=>cases y<;>exact absurd (show false=true from hs) G6
theorem Ex:OpR X (Hn .NotEq) rNe:=by
 intro pins s σ H x y v u Q I rx ry h;obtain⟨hs,q⟩:=h;cases x with
 |non=>
  cases rx
  cases y with
  |non=>cases ry;exact PySem.EqNone.ne_none_none (bc I q (by simp))
  |bl j=>cases ry;exact PySem.EqNone.ne_none_bool (bc I q (by simp))
  |int j=>obtain⟨t',rfl⟩:=ry;exact PySem.EqNone.ne_none_int (bc I q (by simp))
  |str j=>obtain⟨t',rfl⟩:=ry;exact PySem.EqNone.ne_none_str (bc I q (by simp))
  |_=>exact absurd (show false=true from hs) G6
 |bl i=>
  cases rx
  cases y with
  |non=>cases ry;exact PySem.EqNone.ne_bool_none (bc I q (by simp))
  |bl j=>cases ry;exact ne_bool (bc I q (congrArg not zF))
  |str j=>obtain⟨t',rfl⟩:=ry;exact PySem.EqMixed.ne_bool_str (bc I q (by simp))
  |_=>exact absurd (show false=true from hs) G6
 |int i=>
  obtain⟨t,rfl⟩:=rx
  cases y with
  |non=>cases ry;exact PySem.EqNone.ne_int_none (bc I q (by simp))
  |int j=>obtain⟨t',rfl⟩:=ry;exact ne_int (bc I q (congrArg not vG))
  |str j=>obtain⟨t',rfl⟩:=ry;exact PySem.EqMixed.ne_int_str (bc I q (by simp))
  |_=>exact absurd (show false=true from hs) G6
 |str i=>
  obtain⟨t,rfl⟩:=rx
  cases y with
  |non=>cases ry;exact PySem.EqNone.ne_str_none (bc I q (by simp))
  |bl j=>cases ry;exact PySem.EqMixed.ne_str_bool (bc I q (by simp))
  |int j=>obtain⟨t',rfl⟩:=ry;exact PySem.EqMixed.ne_str_int (bc I q (by simp))
  |str j=>obtain⟨t',rfl⟩:=ry;exact ne_str (bc I q (congrArg not vj))
  |_=>exact absurd (show false=true from hs) G6
 |byt i=>
  obtain⟨t,rfl⟩:=rx
  cases y with
  |byt j=>obtain⟨t',rfl⟩:=ry;exact PySem.W.ne_bytes (bc I q (congrArg not vD))
  |_=>exact absurd (show false=true from hs) G6
 |_=>cases y<;>exact absurd (show false=true from hs) G6
theorem Fy:OpR X (Hn .Lt) (rI0 fun i j=>.bl (decide (i<j))):=zX fun _ _ _ _ _ _ _ q=>lt_int q
theorem Fv:OpR X (Hn .LtE) (rI0 fun i j=>.bl (decide (i<=j))):=zX fun _ _ _ _ _ _ _ q=>le_int q
theorem Fh:OpR X (Hn .Gt) (rI0 fun i j=>.bl (decide (j<i))):=zX fun _ _ _ _ _ _ _ q=>gt_int q
theorem Fd:OpR X (Hn .GtE) (rI0 fun i j=>.bl (decide (j<=i))):=zX fun _ _ _ _ _ _ _ q=>ge_int q
theorem pg:OpR X (Hn .NotIn) (fun x y H Q=>∃i j,x=.str i/\y=.str j/\Q (.bl (!(!(Builtin.Str.occurrences j i 0 j.length 1).isEmpty))) H):=by intro pins s σ H x y v u Q I rx ry h;obtain⟨i,j,rfl,rfl,q⟩:=h;obtain⟨t,rfl⟩:=rx;obtain⟨t',rfl⟩:=ry;exact notIn_str (bc I q rfl)
theorem OpR.or{f:G0->G0->Sem G0}{r r':R2}(h:OpR X f r)(h':OpR X f r'):OpR X f (fun x y H Q=>r x y H Q\/r' x y H Q):=by
 intro pins s σ H x y v u Q I rx ry q;rcases q with q|q
 ·exact h pins s σ H x y v u Q I rx ry q
 ·exact h' pins s σ H x y v u Q I rx ry q
theorem yZ(b:Expr){op:CmpOp}(h:op≠.In:=by decide)(h2:op≠.NotIn:=by decide):behindInMarks op b=false:=by
 have e1:(op==CmpOp.In)=false:=by cases op<;>first|rfl|exact absurd rfl h
 have e2:(op==CmpOp.NotIn)=false:=by cases op<;>first|rfl|exact absurd rfl h2
 cases b<;>simp[behindInMarks,e1,e2]
theorem Am{op:CmpOp}{r:R2}(ho:OpR X (Hn op) r)(ha:PE X a ta)(hb:PE X b tb)(hm:behindInMarks op b=false):PE X (.Compare a [op] [b] pos) (tOp r ta tb):=by intro pins s σ H Q I h;exact wpAny_Compare1 (Cd ha hb I h fun v u s2 x y H2 I2 rx ry q=>ho pins s2 σ H2 x y v u Q I2 rx ry q) hm
def xT(t:TE):TT:=fun σ H Q=>t σ H fun x H'=>∃k,x=.bl k/\Q k H'
theorem zM{op:CmpOp}{r:R2}(ho:OpR X (Hn op) r)(ha:PE X a ta)(hb:PE X b tb)(hm:behindInMarks op b=false):PT X (.Compare a [op] [b] pos) (xT (tOp r ta tb)):=by intro pins s σ H Q I h;refine wpAny_isTrue_Compare1 (thn (ha pins s σ H _ I h) fun v s1 ⟨x,H1,I1,r1,q1⟩=>thn (hb pins s1 σ H1 _ I1 q1) fun u s2 ⟨y,H2,I2,r2,q2⟩=>thn (ho pins s2 σ H2 x y v u _ I2 r1 r2 q2) fun c s3 ⟨z,H3,I3,r3,k,e,q3⟩=>?_) hm;subst e;cases r3;exact Iv ⟨H3,I3,q3⟩
def sj(r r':R2)(ta tb tc:TE):TE:=fun σ H Q=>ta σ H fun x H1=>tb σ H1 fun y H2=>r x y H2 fun z H3=>∃k,z=.bl k/\
 (if k=true then tc σ H3 fun w' H4=>r' y w' H4 Q else Q (.bl false) H3)
theorem xX{op op':CmpOp}{r r':R2}(ho:OpR X (Hn op) r)(ho':OpR X (Hn op') r')(ha:PE X a ta)(hb:PE X b tb)(hc:PE X c tc) (hm:lastMarks [op,op'] [b,c]=false:=by with_unfolding_all rfl):PE X (.Compare a [op,op'] [b,c] pos) (sj r r' ta tb tc):=by
 intro pins s σ H Q I h;refine Compare_chain (thn (ha pins s σ H _ I h) fun v s1 ⟨x,H1,I1,r1,q1⟩=>chain_link (thn (hb pins s1 σ H1 _ I1 q1) fun u s2 ⟨y,H2,I2,r2,q2⟩=>thn (ho pins s2 σ H2 x y v u _ I2 r1 r2 q2) fun d s3 ⟨z,H3,I3,r3,k,e,q3⟩=>?_)) hm;subst e;cases r3;refine Iv ?_;cases k with
 |false=>exact ite_ff ⟨.bl false,H3,I3,rfl,q3⟩
 |true=>exact ite_tt (chain_last (thn (hc pins s3 σ H3 _ I3 q3) fun w' s4 zz46_0=>by obtain⟨z',H4,I4,r4,q4⟩:=zz46_0;exact(ho' pins s4 σ H4 y z' u w' Q I4 r2 r4 q4)))
theorem zD{op op':CmpOp}{r r':R2}(ho:OpR X (Hn op) r)(ho':OpR X (Hn op') r')(ha:PE X a ta)(hb:PE X b tb)(hc:PE X c tc) (hm:lastMarks [op,op'] [b,c]=false:=by with_unfolding_all rfl):PT X (.Compare a [op,op'] [b,c] pos) (xT (sj r r' ta tb tc)):=by
 intro pins s σ H Q I h;refine isTrue_chain (thn (ha pins s σ H _ I h) fun v s1 ⟨x,H1,I1,r1,q1⟩=>test_link (thn (hb pins s1 σ H1 _ I1 q1) fun u s2 ⟨y,H2,I2,r2,q2⟩=>thn (ho pins s2 σ H2 x y v u _ I2 r1 r2 q2) fun d s3 ⟨z,H3,I3,r3,k,e,q3⟩=>?_)) hm;subst e;cases r3;refine Iv ?_;cases k with
 |false=>
  obtain⟨k',e',q'⟩:=q3
  cases e'
  exact ite_ff ⟨H3,I3,q'⟩
 |true=>
  refine ite_tt (test_last (thn (hc pins s3 σ H3 _ I3 q3) fun w' s4 ⟨z',H4,I4,r4,q4⟩=>thn (ho' pins s4 σ H4 y z' u w' _ I4 r2 r4 q4) fun d' s5 zz47_0=>?_))
  obtain⟨z2,H5,I5,r5,k2,e2,q5⟩:=zz47_0
  subst e2
  cases r5
  exact Iv ⟨H5,I5,q5⟩
def Fq(K:cc)(x:V)(H:Hp)(k:Bool):Prop:=
 match x with
 |.non=>k=false
 |.bl b=>k=b
 |.int i=>k=(i != 0)
 |.str y=>y.length<=GX/\k=((y.length:Int) != 0)
 |.byt y=>y.size<=GX/\k=((y.size:Int) != 0)
 |.ref p=>(∃xs,SqL K H p xs/\k=!xs.isEmpty)\/(∃xs,SqT K H p xs/\k=!xs.isEmpty)\/∃kvs,H p=some (.dK kvs)/\k=!kvs.isEmpty
 |_=>False
theorem rW{κ:Type}{kvs:List (κ×V)}{vs:List (κ×G0)}(r:KV kvs vs):(!vs.isEmpty)=!kvs.isEmpty:=by cases r<;>rfl
theorem lC{xs:List V}{its:List G0}(r:Vals xs its):(!its.toArray.isEmpty)=!xs.isEmpty:=by cases r<;>simp
theorem iO:(GX:Nat)<2^63:=by rw[sizeLine_eq];decide
theorem Cp:Gp X (fun x H Q=>∃k,Fq X.K x H k/\Q k H):=by
 intro pins s σ H x v Q I rx h;obtain⟨k,e,q⟩:=h;have hl:=iO;have hs:GX=16777216:=sizeLine_eq;cases x with
 |non=>
  cases rx
  have e':k=false:=e
  subst e'
  exact truthy_none ⟨H,I,q⟩
 |bl b=>
  cases rx
  have e':k=b:=e
  subst e'
  exact Iv ⟨H,I,q⟩
 |int i=>
  obtain⟨t,rfl⟩:=rx
  have e':k=(i != 0):=e
  subst e'
  exact PySem.P.truthy_int ⟨H,I,q⟩
 |str y=>
  obtain⟨t,rfl⟩:=rx
  obtain⟨hy,e'⟩:y.length<=GX/\k=((y.length:Int) != 0):=e
  subst e'
  exact PySem.P.truthy_str (by omega) ⟨H,I.tok _,q⟩
 |byt y=>
  obtain⟨t,rfl⟩:=rx
  obtain⟨hy,e'⟩:y.size<=GX/\k=((y.size:Int) != 0):=e
  subst e'
  exact PySem.W.truthy_bytes (by omega) ⟨H,I.tok _,q⟩
 |ref p=>
  cases rx
  have e':(∃xs,SqL X.K H p xs/\k=!xs.isEmpty)\/(∃xs,SqT X.K H p xs/\k=!xs.isEmpty)\/∃kvs,H p=some (.dK kvs)/\k=!kvs.isEmpty:=e
  rcases e' with⟨xs,hx,e'⟩|⟨xs,hx,e'⟩|⟨kvs,hx,e'⟩
  ·subst e';obtain⟨its,r,pl,hz⟩:=I.list hx;have hlen:=r.length;exact wpAny_truthy_list pl.isList (by simp only[Hg];omega) ⟨H,I.tok _,by rw[lC r];exact q⟩
  ·subst e';obtain⟨its,r,pl,hz⟩:=I.tuple hx;have hlen:=r.length;exact truthy_tuple pl (by simp only[Hg];omega) ⟨H,I.tok _,by rw[lC r];exact q⟩
  ·subst e';obtain⟨hz,hS,vs,r,m⟩:kvs.length<=GX/\(p==sysModules)=false/\∃vs,KV kvs vs/\s.heap.DictOf (p8 X.prog X.w) p vs:=I.hok p _ hx;have hlen:kvs.length=vs.length:=Paired.length r;exact wpAny_truthy_dict hS m (by omega) ⟨H,I.tok _,by rw[rW r];exact q⟩
 |_=>exact(show False from e).elim
theorem xA(ha:PE X a ta)(he:∀whole,isTrue a X.env whole=(do let v <-whole;standAt a.pos;holding [v] (truthy v))) :
 PT X a (fun σ H Q=>ta σ H fun x H'=>∃k,Fq X.K x H' k/\Q k H'):=by
 intro pins s σ H Q I h
 exact isTrue_plain (thn (ha pins s σ H _ I h) fun v s1 zz48_0=>by obtain⟨x,H1,I1,r1,q1⟩:=zz48_0;exact(Cp pins s1 σ H1 x v Q I1 r1 q1)) (he _)
theorem tf:OpR X (J2 .Add) (fun x y H Q=>∃i j,x=.str i/\y=.str j/\i.length+j.length<=GX/\Q (.str (i++j)) H):=by intro pins s σ H x y v u Q I rx ry h;obtain⟨i,j,rfl,rfl,hz,q⟩:=h;obtain⟨t,rfl⟩:=rx;obtain⟨t',rfl⟩:=ry;exact add_str (fun t' tk=>⟨.str (i++j),H,I.tok _,⟨_,rfl⟩,q⟩) hz
theorem vals1{x:V}{us:List G0}(r:Vals [x] us):∃u,us=[u]/\RelV x u:=by
 cases r with
 |cons r1 r2=>cases r2;exact⟨_,rfl,r1⟩
theorem vals2{x y:V}{us:List G0}(r:Vals [x,y] us):∃u w',us=[u,w']/\RelV x u/\RelV y w':=by
 cases r with
 |cons r1 r2=>
  cases r2 with
  |cons r3 r4=>cases r4;exact⟨_,_,rfl,r1,r3⟩
theorem zm:b8 X (.builtin "abs") (fun xs H Q=>∃i,xs=[.int i]/\Q (.int (if i<0 then -i else i)) H):=by intro pins s σ H xs us Q I r h;obtain⟨i,rfl,q⟩:=h;obtain⟨u,rfl,t,rfl⟩:=vals1 r;exact call_abs_int fun u tk=>⟨.int (if i<0 then -i else i),H,I.tok _,⟨_,rfl⟩,q⟩
theorem wI(hc:X.calm=true):b8 X (.builtin "max") (fun xs H Q=>∃i j,xs=[.int i,.int j]/\Q (.int (if j>i then j else i)) H):=by
 intro pins s σ H xs us Q I r h;obtain⟨i,j,rfl,q⟩:=h;obtain⟨u,w',rfl,⟨t,rfl⟩,⟨t',rfl⟩⟩:=vals2 r;refine max_two_ints (I.ok.hd hc) fun h' tk k=>⟨_,H,I.kept k,?_,q⟩;by_cases hj:j>i
 ·rw[if_pos hj,if_pos hj];exact⟨_,rfl⟩
 ·rw[if_neg hj,if_neg hj];exact⟨_,rfl⟩
theorem wy(hc:X.calm=true):b8 X (.builtin "min") (fun xs H Q=>∃i j,xs=[.int i,.int j]/\Q (.int (if j<i then j else i)) H):=by
 intro pins s σ H xs us Q I r h;obtain⟨i,j,rfl,q⟩:=h;obtain⟨u,w',rfl,⟨t,rfl⟩,⟨t',rfl⟩⟩:=vals2 r;refine min_two_ints (I.ok.hd hc) fun h' tk k=>⟨_,H,I.kept k,?_,q⟩;by_cases hj:j<i
 ·rw[if_pos hj,if_pos hj];exact⟨_,rfl⟩
 ·rw[if_neg hj,if_neg hj];exact⟨_,rfl⟩
theorem wx:b8 X (.type "int") (fun xs H Q=>(∃i,xs=[.int i]/\Q (.int i) H)\/∃k,xs=[.bl k]/\Q (.int (if k then 1 else 0)) H):=by
 intro pins s σ H xs us Q I r h;rcases h with⟨i,rfl,q⟩|⟨k,rfl,q⟩
 ·obtain⟨u,rfl,t,rfl⟩:=vals1 r;exact call_int_int ⟨.int i,H,I,⟨_,rfl⟩,q⟩
 ·obtain⟨u,rfl,r1⟩:=vals1 r;cases r1;exact call_int_bool ⟨.int (if k then 1 else 0),H,I.tok _,⟨_,rfl⟩,q⟩
theorem p6:b8 X (.type "str") (fun xs H Q=>∃i,xs=[.int i]/\i.natAbs.log2<1920/\Q (.str (toString i)) H):=by intro pins s σ H xs us Q I r h;obtain⟨i,rfl,hz,q⟩:=h;obtain⟨u,rfl,t,rfl⟩:=vals1 r;exact PySem.P.str_of_int hz ⟨.str _,H,I.tok _,⟨_,rfl⟩,q⟩
end
theorem nJ{h:Heap}{dx:Addr}{mA:Str->Option G0}(n:h.Ns1 dx mA):∃od,h.get? dx=some od/\∀name,PySem.W.lookIn name od=some (mA name):=by
 obtain⟨o,es,ep,ho,hd,hk,_,hm⟩:=n;refine⟨o,ho,fun name=>?_⟩;have e:=hm name;unfold nsFind findBy at e;rw[<-Array.find?_toList]at e;unfold PySem.W.lookIn;rw[hd];dsimp only;split
 ·rename_i y q;rw[q]at e;exact congrArg some e
 ·rename_i q;rw[q]at e;have a:es.toList.any (·.refKey)=false:=by rw[List.any_eq_false];intro y hy;obtain⟨z,t,hkey⟩:=hk y (Array.mem_toList_iff.mp hy);simp[DictEntry.refKey,hkey]
  have a':¬es.toList.any (·.refKey)=true:=by rw[a];exact G6
  rw[if_neg a'];exact congrArg some e
section
variable{prog:Hi}{w:HL}{A:HM}{E:G0->G3->Prop}{s:G3}{K:cc}{x dx C f:Addr}{mA:Str->Option G0}{name:Str}{v:G0}
end
def mC(f:Str)(v:V):List (Str×V)->List (Str×V)
 |[]=>[(f,v)]
 |(g,x)::r=>if g=f then(g,v)::r else(g,x)::mC f v r
theorem kr(f g:Str)(v:V):∀fs:List (Str×V),(mC f v fs).lookup g=if g=f then some v else fs.lookup g
 |[]=>by
  show Js g [(f,v)]=_
  by_cases h:g=f
  ·have hb:(g==f)=true:=beq_iff_eq.mpr h
   simp only[Js,hb,if_pos h]
  ·have hb:(g==f)=false:=beq_eq_false_iff_ne.mpr h
   simp only[Js,hb,if_neg h]
 |(k,x)::r=>by
  have ih:=kr f g v r
  rw[show mC f v ((k,x)::r)=(if k=f then(k,v)::r else(k,x)::mC f v r)from rfl]
  by_cases hk:k=f
  ·rw[if_pos hk]
   by_cases h:g=k
   ·have hb:(g==k)=true:=beq_iff_eq.mpr h
    simp only[Js,hb,if_pos (h.trans hk)]
   ·have hb:(g==k)=false:=beq_eq_false_iff_ne.mpr h
    simp only[Js,hb,if_neg (fun e:g=f=>h (e.trans hk.symm))]
  ·rw[if_neg hk]
   by_cases h:g=k
   ·have hb:(g==k)=true:=beq_iff_eq.mpr h
    simp only[Js,hb,if_neg (fun e:g=f=>hk (h.symm.trans e))]
   ·have hb:(g==k)=false:=beq_eq_false_iff_ne.mpr h
    simp only[Js,hb]
    exact ih
theorem ka(f:Str)(v:V):∀fs:List (Str×V),f∈(mC f v fs).map (·.1)/\∀g,g∈fs.map (·.1)->g∈(mC f v fs).map (·.1)
 |[]=>⟨by simp[mC],fun g h=>by simp at h⟩
 |(k,x)::r=>by
  obtain⟨i1,i2⟩:=ka f v r
  rw[show mC f v ((k,x)::r)=(if k=f then(k,v)::r else(k,x)::mC f v r)from rfl]
  by_cases hk:k=f
  ·rw[if_pos hk]
   subst hk
   exact⟨by simp,fun g h=>by simpa using h⟩
  ·rw[if_neg hk]
   refine⟨?_,fun g h=>?_⟩
   ·rw[Ho]
    exact GZ _ i1
   ·rw[Ho]at h ⊢
    rcases Hr.mp h with e|e
    ·exact Hr.mpr (.inl e)
    ·exact GZ _ (i2 g e)
theorem qN.some_of{v:V}{o:Option G0}(r:qN (some v) o):∃u,o=some u/\RelV v u:=by
 cases o with
 |none=>exact(show False from r).elim
 |some u=>exact⟨u,rfl,r⟩
theorem vU{v:V}{u:G0}(r:RelV v u):PySem.W.handedIn u=true:=by
 cases v with
 |non=>cases (show u=Iu from r);rfl
 |bl b=>cases (show u=IM b from r);rfl
 |int i=>obtain⟨t,e⟩:=(show ∃t,u=Value.int i t from r);cases e;rfl
 |str x=>obtain⟨t,e⟩:=(show ∃t,u=Value.str x t from r);cases e;rfl
 |byt b=>obtain⟨t,e⟩:=(show ∃t,u=Value.bytes b t from r);cases e;rfl
 |flt b=>obtain⟨t,e⟩:=(show ∃t,u=Value.float b t from r);cases e;rfl
 |ref a=>cases (show u=Iq a from r);rfl
 |ty n=>cases (show u=Value.type n from r);rfl
section
variable{P:Hi}{w:HL}{H H':Hp}{h h':Heap}{a C dx:Addr}{fs fs':List (Str×V)}
end
section
variable{X:Cx}{pins:List (Addr×Obj)}{σ:St}{H:Hp}{s:G3}{a C dx:Addr}{fs:List (Str×V)}{f:Str}{v:V}{A:HM}{E:G0->G3->Prop}
theorem AL{prog:Hi}{w:HL}{env:Env}{e:Expr}{f:Str}{pos:Pos}{s:G3}{Q:G0->G3->Prop}(hb:J5 e f env (eval e env)=eval e env) (h:Hf (Hm prog w) A (eval e env) (fun o s₁=>Hf (Hm prog w) A (getAttr o f true) Q E s₁) E s):Hf (Hm prog w) A (eval (.Attribute e f pos) env) Q E s:=Attribute_any_ h (by rw[arm_eval_Attribute,hb])
end
section
variable{X:Cx}{o e value:Expr}{f:Str}{pos pos' tpos:Pos}{ta tv:TE}
end
section
variable{X:Cx}{pins:List (Addr×Obj)}{σ:St}{H:Hp}{s:G3}{A:HM}{E:G0->G3->Prop}{Q:G0->G3->Prop}{c:G0}{b:Bool}
end
structure Room(k:Nat)(A:HM):Prop where
 hd:A.handled=none
 dp:A.depth+3*k+5<recursionLimit
 un:A.units+16*k+200<JI
theorem Room.mono{j k:Nat}{A:HM}(r:Room k A)(h:j<=k):Room j A:=⟨r.hd,by have:=r.dp;omega,by have:=r.un;omega⟩
theorem Room.deeper{k:Nat}{A:HM}(r:Room (k+1) A)(env:Env):Room k (A.deeper env):=⟨r.hd,by have:=r.dp;show A.depth+1+3*k+5<_;omega,by have:=r.un;show A.units+3+16*k+200<_;omega⟩
theorem t7{A:HM}{C:Addr}{us:List G0}{kw:List (Str×G0)}:(A.under (.builtin "type.__call__" ⟨.ref C::us,kw⟩)).depth=A.depth+1:=by first|rfl|simp[Around.under,Code.weight,Code.isCreation,Code.isGuard,Code.isCaller,Code.frames,Code.isFrame,guardIds]
theorem sD{A:HM}{C:Addr}{us:List G0}{kw:List (Str×G0)}:(A.under (.builtin "type.__call__" ⟨.ref C::us,kw⟩)).units=A.units+1:=by first|rfl|simp[Around.under,Code.cUnits,Code.frames,Code.isFrame]
theorem Room.make{k:Nat}{A:HM}(r:Room (k+1) A)(C:Addr)(us:List G0)(kw:List (Str×G0)):Room k (A.under (.builtin "type.__call__" ⟨.ref C::us,kw⟩)):=⟨r.hd,by have:=r.dp;rw[t7];omega,by have:=r.un;rw[sD];omega⟩
theorem Room.depth{k:Nat}{A:HM}(r:Room k A):A.depth<recursionLimit:=by have:=r.dp;omega
theorem Room.units{k:Nat}{A:HM}(r:Room k A):A.units+64<JI:=by have:=r.un;omega
def FD:TA:=fun _ H Q=>Q [] H
def zx(ta:TE)(tr:TA):TA:=fun σ H Q=>ta σ H fun x H1=>tr σ H1 fun xs H2=>Q (x::xs) H2
section
variable{X:Cx}{e:Expr}{es:List Expr}{te:TE}{t:TA}{pos:Pos}
theorem ym:PA X [] FD:=fun _ _ _ _ H Q I h=>Calls.spliced_nil ⟨[],H,I,.nil,h⟩
theorem oZ(ha:PE X e te)(hr:PA X es t)(hs:Hc (e::es) X.env=(false,eval e X.env)::Hc es X.env:=by rfl):PA X (e::es) (zx te t):=by intro pos pins s σ H Q I h;rw[hs];show Hf _ _ (spliced ((false,eval e X.env)::IV pos (Hc es X.env))) _ _ s;refine Calls.spliced_cons (thn (ha pins s σ H _ I h) fun u s1 zz55_0=>?_);obtain⟨x,H1,I1,r1,q1⟩:=zz55_0;exact thn (hr pos pins s1 σ H1 _ I1 q1) fun us s2 zz56_0=>by obtain⟨xs,H2,I2,r2,q2⟩:=zz56_0;exact(⟨x::xs,H2,I2,.cons r1 r2,q2⟩)
def F1(t:TA):TE:=fun σ H Q=>t σ H fun xs H1=>xs.length<=GX/\∀p,H1 p=none->Q (.ref p) (upd H1 p (.tup xs))
def GO(t:TA):TE:=fun σ H Q=>t σ H fun xs H1=>xs.length<=GX/\∀p,H1 p=none->Q (.ref p) (upd H1 p (.lst xs))
theorem Dv{x1}(h:PA X es t):PE X (.Tuple es x1 pos) (F1 t):=by intro pins s σ H Q I hq;refine wpAny_Tuple_spliced (thn (h pos pins s σ H _ I hq) fun us s1 ⟨xs,H1,I1,r,z,q⟩=>⟨by rw[<-r.length];exact z,?_⟩);have hf:H1 s1.heap.objs.size=none:=I1.hok.fresh (GY _);refine⟨.ref s1.heap.objs.size,upd H1 s1.heap.objs.size (.tup xs),I1.laid (t':=s1.toks) (fun b u e=>G5 _ e) (GY _) ?_,rfl,q _ hf⟩;exact⟨z,us,r,⟨_,Hk _ rfl,rfl,_,rfl⟩⟩
theorem Cz(h:PA X es t):PE X (.List es pos) (GO t):=by intro pins s σ H Q I hq;refine wpAny_List_spliced (thn (h pos pins s σ H _ I hq) fun us s1 ⟨xs,H1,I1,r,z,q⟩=>⟨by rw[<-r.length];exact z,?_⟩);have hf:H1 s1.heap.objs.size=none:=I1.hok.fresh (GY _);refine⟨.ref s1.heap.objs.size,upd H1 s1.heap.objs.size (.lst xs),I1.laid (t':=s1.toks) (fun b u e=>G5 _ e) (GY _) ?_,rfl,q _ hf⟩;exact⟨z,us,0,r,Hk _ rfl⟩
end
abbrev Sp:=List V->Hp->VK->XK->Prop
abbrev CXT:=List Env->Hp->G3->XK->G0->G3->Prop
structure Env0(P:Hi)(w:HL)(K:cc)(mg:Str->Option G0)(base:Heap)(A:HM)(outer:List Env)(s:G3)(H:Hp):Prop where
 frames:A.frames=some outer
 mod:Mod K mg base
 bs:∀b o,base.get? b=some o->s.heap.get? b=some o/\H b=none
 bsz:base.objs.size<=s.heap.objs.size
 jc:s.heap.FunFrames base outer
 frf:∀b∈frs outer,H b=none
 hok:HOk P w H s.heap
 bare:AllBare s.gens
def CE(outer:List Env)(P:Hi)(w:HL)(H:Hp)(s:G3)(Q:VK)(u:G0)(s':G3):Prop:=
 ∃v H',s'.os=s.os/\AllBare s'.gens/\Un (frs outer) [] H H' s.heap s'.heap/\HOk P w H' s'.heap/\RelV v u/\Q v H'
def CR(CX:CXT)(outer:List Env)(P:Hi)(w:HL)(H:Hp)(s:G3)(Q:VK)(E:XK)(r:Result)(s':G3):Prop:=
 match r with
 |.ok (.ret u)=>CE outer P w H s Q u s'
 |.ok _=>False
 |.error e=>CX outer H s E e s'
structure FnOk(P:Hi)(w:HL)(K:cc)(mg:Str->Option G0)(base:Heap)(CX:CXT)(k:Nat)(f:Addr)(fd:Jc)(ps:List Str)(sp:Sp):Prop where
 len:∀vs H Q E,sp vs H Q E->vs.length=ps.length
 run:∀(A:HM) (outer:List Env) (s:G3) (H:Hp) (args:Args) (us:List G0) (vs:List V) (Q:VK) (E:XK),Room k A->Env0 P w K mg base A outer s H->BindsTo s fd args (ps.zip us)->Vals vs us->sp vs H Q E->
  codeAny (Hm P w) A (.call (.ref f) args) (CR CX outer P w H s Q E) s
theorem FnOk.mono{P:Hi}{w:HL}{K:cc}{mg:Str->Option G0}{base:Heap}{CX:CXT}{j k:Nat}{f:Addr}{fd:Jc}{ps:List Str}{sp:Sp}(F:FnOk P w K mg base CX j f fd ps sp)(h:j<=k) : FnOk P w K mg base CX k f fd ps sp:=⟨F.len,fun A outer s H args us vs Q E hr=>F.run A outer s H args us vs Q E (hr.mono h)⟩
theorem Env0.make{P:Hi}{w:HL}{K:cc}{mg:Str->Option G0}{base:Heap}{A:HM}{outer:List Env}{s:G3}{H:Hp}(e:Env0 P w K mg base A outer s H)(C:Addr)(us:List G0)(kw:List (Str×G0)) : Env0 P w K mg base (A.under (.builtin "type.__call__" ⟨.ref C::us,kw⟩)) outer s H:=⟨by first|exact e.frames|(simpa[Around.under,Code.envs,Code.isFrame,pushEnvs]using e.frames),e.mod,e.bs,e.bsz,e.jc,e.frf,e.hok,e.bare⟩
section
variable{X:Cx}{pins:List (Addr×Obj)}{σ:St}{H:Hp}{s s':G3}
theorem Inv.Cm(I:Inv X pins σ H s):Env0 X.prog X.w X.K X.mg X.base X.A X.stack s H:=⟨I.ok.frames,I.ok.mod,I.bs,He I.ok.bsz I.sz,I.stack,I.iB,I.hok,I.bare⟩
theorem Inv.after{Q:VK}{u:G0}(I:Inv X pins σ H s)(h:CE X.stack X.prog X.w H s Q u s'):EP X pins σ Q u s':=by obtain⟨v,H',os,bare,un,hok,r,q⟩:=h;obtain⟨hh,g,d,t,os'⟩:=s';obtain rfl:os'=s.os:=os;exact⟨v,H',I.call (h':=hh) (g':=g) (d':=d) (t':=t) (ch:=[]) un hok bare (fun b z=>absurd z (by simp)),r,q⟩
end
def FJ(sp:Sp)(dvs:List V)(E:XK)(t:TA):TE:=fun σ H Q=>t σ H fun vs H1=>sp (vs++dvs) H1 Q E
def Binds(K:cc)(fd:Jc)(ps:List Str)(ds:List G0):Prop:=
 ∀(s:G3) (us:List G0),K.In s.heap->(us++ds).length=ps.length->BindsTo s fd ⟨us,[]⟩ (ps.zip (us++ds))
theorem Binds.all{K:cc}{fd:Jc}{ps:List Str}(h:∀us:List G0,us.length=ps.length->bindArgs fd ⟨us,[]⟩=pure (ps.zip us)):Binds K fd ps []:=fun s us _ hl=>by rw[J0]at hl ⊢;exact .of_eq (h us hl)
def Passes(CX:CXT)(X:Cx)(E:XK):Prop:=∀(pins:List (Addr×Obj)) (σ:St) (H:Hp) (s:G3) (e:G0) (s':G3),Inv X pins σ H s->CX X.stack H s E e s'->X.xe e s'
section
variable{X:Cx}{CX:CXT}{k:Nat}{f C:Addr}{fd:Jc}{ps:List Str}{sp:Sp}{dvs:List V}{ds:List G0}{E:XK}{x m:Str}{p pos apos:Pos}{e o:Expr}{es:List Expr}{ta:TE}{t:TA}
theorem CS{pins:List (Addr×Obj)}{σ:St}{H:Hp}{s:G3}{Q:VK}{us:List G0}{vs:List V}(F:FnOk X.prog X.w X.K X.mg X.base CX k f fd ps sp)(hr:Room k X.A)(hb:Binds X.K fd ps ds)(hd:Vals dvs ds)(hx:Passes CX X E)
 (I:Inv X pins σ H s) (r:Vals vs us) (h:sp (vs++dvs) H Q E):Hf (Hm X.prog X.w) X.A (call (.ref f) us) (EP X pins σ Q) X.xe s:=by
 have r2:Vals (vs++dvs) (us++ds):=r.append hd
 have hl:(us++ds).length=ps.length:=by rw[<-r2.length];exact F.len _ _ _ _ h
 refine wpAny_call (codeAny_mono (F.run X.A X.stack s H ⟨us,[]⟩ (us++ds) (vs++dvs) Q E hr I.Cm (hb s us I.kIn hl) r2 h) fun r s' hq=>?_)
 cases r with
 |error e=>exact hx pins σ H s e s' I hq
 |ok fl=>
  cases fl with
  |ret u=>exact I.after hq
  |next=>exact IU hq
  |brk=>exact IU hq
  |cont=>exact IU hq
theorem A5(F:FnOk X.prog X.w X.K X.mg X.base CX k f fd ps sp)(hr:Room k X.A)(hg:Gl X x)(hm:X.mg x=some (.ref f))(hk:Jd X.K (.ref f)=true)(hb:Binds X.K fd ps ds)(hd:Vals dvs ds)(hx:Passes CX X E) (ha:PA X (e::es) t) (hdb:(x==("__debug__":Str))=false:=by decide) (he:Hc (e::es) X.env=(false,eval e X.env)::Hc es X.env:=by rfl) (hpl:(IV pos (Hc es X.env)).any (·.1)=false:=by rfl) : PE X (.Call (.Name x p) (e::es) [] pos) (FJ sp dvs E t):=by intro pins s σ H Q I h;refine wpAny_Call_Name_kw (ig I hg hm ?_ hdb);refine PySem.W.callWith_K (h₀:=X.base) I.ok.mod.kin hk (thn (ha pos pins s σ H _ I h) fun us s1 ⟨vs,H1,I1,r,q⟩=>⟨I1.kIn,?_⟩) he hpl;exact CS F hr hb hd hx I1 r q
end
section
variable{X:Cx}{CX:CXT}{k:Nat}{f C:Addr}{fd:Jc}{ps ks:List Str}{sp:Sp}{E:XK}{x m:Str}{p pos apos kpos:Pos}{e o:Expr}{es:List Expr}{kws:List Keyword}{te ta:TE}{t tk:TA}{nm:Option Str}
variable{g:List G0->List G0->List G0}{gV:List V->List V->List V}
end
structure FnScope(N P:List Str)(sc:JH):Prop where
 kind:sc.kind=.function
 co:sc.isCoroutine=false
 gen:sc.isGenerator=false
 nd:N.Nodup
 pre:N.take P.length=P
 par:∀x∈P,sc.names.lookup x=some .local\/sc.names.lookup x=some .cell
 nofree:∀y∈sc.names,y.2≠.free
theorem oY{kindOf:Str->Option Jp}{x:Str}:∀{binds:List (Str×G0)} {m:Str->Option G0},(∀v,(x,v)∉binds)->bindL kindOf binds m x=m x
 |[],_,_=>rfl
 |(n,v)::r,m,h=>by
  unfold bindL
  rw[oY fun w hw=>h w (GZ _ hw)]
  split
  ·have:x≠n:=by rintro rfl;exact h v Hx
   simp[this]
  ·rfl
theorem oP{kindOf:Str->Option Jp}{x:Str}:∀{binds:List (Str×G0)} {m:Str->Option G0},(∀v,(x,v)∉binds)->bindC kindOf binds m x=m x
 |[],_,_=>rfl
 |(n,v)::r,m,h=>by
  unfold bindC
  rw[oP fun w hw=>h w (GZ _ hw)]
  split
  ·rfl
  ·have:x≠n:=by rintro rfl;exact h v Hx
   simp[this]
theorem n9{kindOf:Str->Option Jp}{x:Str}{v:G0}:∀{P:List Str} {vs:List G0} {i:Nat} {m:Str->Option G0},P.Nodup->P[i]?=some x->vs[i]?=some v->kindOf x=some .local->
 bindL kindOf (P.zip vs) m x=some v
 |[],_,_,_,_,h,_,_=>by simp at h
 |_::_,[],_,_,_,_,h,_=>by simp at h
 |p::P,w::vs,0,m,nd,h1,h2,hk=>by
  simp at h1 h2;subst h1;subst h2
  show bindL kindOf ((p,w)::P.zip vs) m p=_
  unfold bindL
  rw[oY fun v hv=>(List.nodup_cons.mp nd).1 (List.of_mem_zip hv).1,if_pos hk]
  simp
 |p::P,w::vs,i+1,m,nd,h1,h2,hk=>by
  show bindL kindOf ((p,w)::P.zip vs) m x=_
  unfold bindL
  exact n9 (i:=i) (List.nodup_cons.mp nd).2 (by simpa using h1) (by simpa using h2) hk
theorem ot{kindOf:Str->Option Jp}{x:Str}{v:G0}:∀{P:List Str} {vs:List G0} {i:Nat} {m:Str->Option G0},P.Nodup->P[i]?=some x->vs[i]?=some v->kindOf x≠some .local->
 bindC kindOf (P.zip vs) m x=some v
 |[],_,_,_,_,h,_,_=>by simp at h
 |_::_,[],_,_,_,_,h,_=>by simp at h
 |p::P,w::vs,0,m,nd,h1,h2,hk=>by
  simp at h1 h2;subst h1;subst h2
  show bindC kindOf ((p,w)::P.zip vs) m p=_
  unfold bindC
  rw[oP fun v hv=>(List.nodup_cons.mp nd).1 (List.of_mem_zip hv).1,if_neg hk]
  simp
 |p::P,w::vs,i+1,m,nd,h1,h2,hk=>by
  show bindC kindOf ((p,w)::P.zip vs) m x=_
  unfold bindC
  exact ot (i:=i) (List.nodup_cons.mp nd).2 (by simpa using h1) (by simpa using h2) hk
def start(N:List Str)(vs:List V):St:=vs.map some++Jx (N.length-vs.length) none
def bQ(CX:CXT)(P:Hi)(w:HL)(K:cc)(mg:Str->Option G0)(base:Heap)(N:List Str)(qual:Str)(scope:JH)(f:Addr)(cd:G0)(A:HM)(outer:List Env)(s:G3)(H:Hp)(E:XK):Cx where
 prog:=P
 w:=w
 K:=K
 mg:=mg
 base:=base
 A:=A.deeper (envOfC qual scope s.heap.objs.size f cd)
 N:=N
 s₀:=s
 H₀:=H
 env:=envOfC qual scope s.heap.objs.size f cd
 outer:=outer
 stack:=envOfC qual scope s.heap.objs.size f cd::outer
 ex:=[]
 calm:=true
 fn:=fun _=>true
 pn:=[]
 xe:=fun e s'=>Hf (Hm P w) (A.deeper (envOfC qual scope s.heap.objs.size f cd)) (leaving (envOfC qual scope s.heap.objs.size f cd) e) (fun _ s''=>CX outer H s E e s'') (fun e' s''=>CX outer H s E e' s'') s'
theorem mE{sc:JH}{n:Nat}{x:Str}(h:sc.names.lookup x=some .cell):∃c,(IW n sc.names []).lookup x=some c:=by have q:=PySem.W.cellsFrom_some sc.names n [] (.inl h);exact Option.isSome_iff_exists.mp q
theorem wz{CX:CXT}{P:Hi}{w:HL}{K:cc}{mg:Str->Option G0}{base:Heap}{N ps:List Str}{qual:Str}{scope:JH}{f:Addr}{cd:G0}{A:HM}{outer:List Env}{s s1:G3}{H:Hp}{E:XK}{us:List G0}{vs:List V}
 (S:FnScope N ps scope) (hd:A.handled=none) (e0:Env0 P w K mg base A outer s H) (hl:vs.length=ps.length) (r:Vals vs us)
 (x:InCallC s s.heap.objs.size (bindL (envOfC qual scope s.heap.objs.size f cd).kindOf (ps.zip us) fun _=>none) (IW (s.heap.objs.size+1) scope.names []) (bindC (envOfC qual scope s.heap.objs.size f cd).kindOf (ps.zip us) fun _=>none) s1) :
 Inv (bQ CX P w K mg base N qual scope f cd A outer s H E) [] (start N vs) H s1:=by
 have hpl:ps.length<=N.length:=by have:=congrArg List.length S.pre;rw[List.length_take]at this;omega
 obtain⟨h1,tk,rfl,hk⟩:=x.done
 have noA:∀b:Addr,b∉(bQ CX P w K mg base N qual scope f cd A outer s H E).ex:=fun b z=>absurd (show b∈([]:List Addr)from z) (by simp)
 refine⟨⟨e0.mod,S.kind,rfl,rfl,GY _,fun y z c h1 h2=>?_,fun y hy=>?_,fun y c _ h=>?_,fun _=>hd,Around.frames_deeper e0.frames,.inr ⟨rfl,rfl⟩,fun b z=>absurd z (noA b),e0.bs,e0.bsz,fun b _ _=>noA b,fun b z=>absurd z (noA b),e0.jc,e0.frf⟩,
  rfl,e0.bare,Un.kept hk,⟨_,x.toInCall.ns,fun i y v h1 h2 h3=>?_⟩,fun y c h=>⟨_,x.cell y c h⟩,e0.hok.fresh (GY _),fun y c h=>?_,fun p hp=>absurd (show p∈([]:List (Addr×Obj))from hp) (by simp),e0.hok.kept hk,?_⟩
 ·exact name_of_addr x.apart (HQ h1) (HQ h2)
 ·have hy:scope.names.lookup y=some .cell\/scope.names.lookup y=some .free:=hy
  rcases hy with hy|hy
  ·exact mE hy
  ·exact absurd rfl (S.nofree _ (HQ hy))
 ·exact Nat.le_of_lt (x.above y c (HQ h))
 ·have hi:i<vs.length:=by
   unfold start at h2
   by_cases hi:i<vs.length
   ·exact hi
   ·rw[HZ (by simpa using hi)]at h2
    rw[List.getElem?_replicate]at h2
    split at h2<;>cases h2
  have ha:vs[i]?=some v:=by
   unfold start at h2
   rw[Ig (by simpa using hi),G9]at h2
   cases e:vs[i]? with
   |none=>rw[e]at h2;cases h2
   |some a=>rw[e]at h2;cases h2;rfl
  obtain⟨u,hu,rv⟩:=r.get ha
  have hp:ps[i]?=some y:=by
   rw[<-S.pre,List.getElem?_take_of_lt (by omega)];exact h1
  have ndP:ps.Nodup:=by rw[<-S.pre];exact S.nd.sublist (List.take_sublist _ _)
  refine⟨u,rv,?_⟩
  rcases S.par y (Hh hp)with k|k
  ·exact .inl ⟨k,n9 ndP hp hu k⟩
  ·obtain⟨c,e⟩:=mE (n:=s.heap.objs.size+1) k
   refine .inr ⟨.inl k,c,e,?_⟩
   have q:=x.cell y c e
   rw[ot ndP hp hu (by show scope.names.lookup y≠_;rw[k];decide)]at q
   exact q
 ·exact e0.hok.fresh (Nat.le_of_lt (x.above y c (HQ h)))
 ·unfold start
  show _=N.length
  rw[ID,G4,List.length_replicate]
  omega
theorem BK{CX:CXT}{P:Hi}{w:HL}{K:cc}{mg:Str->Option G0}{base:Heap}{k:Nat}{f:Addr}{name qual:Str}{params:Arguments}{body:List Stmt}{scope:JH}{dV kV doc pm cdv ct oc:G0}{an od:Option Addr}
 {osl:Array (Option G0)} {N ps:List Str} {sp:Sp} (lk:K.lookup f=some ⟨oc,od,.func (IQ name qual params body scope dV kV doc pm an cdv ct),osl⟩) (hcd:PySem.W.codeIn K cdv qual=true) (S:FnScope N ps scope)
 (len:∀vs H Q E,sp vs H Q E->vs.length=ps.length)
 (hbody:∀(A:HM) (outer:List Env) (s:G3) (H:Hp) (vs:List V) (Q:VK) (E:XK),Room k (A.deeper (envOfC qual scope s.heap.objs.size f cdv))->sp vs H Q E->
  ∃t,PSs (bQ CX P w K mg base N qual scope f cdv A outer s H E) body t/\t { nx:=fun _ H'=>Q .non H',rt:=Q } (start N vs) H) :
 FnOk P w K mg base CX (k+1) f (IQ name qual params body scope dV kV doc pm an cdv ct) ps sp:=by
 refine⟨len,fun A outer s H args us vs Q E hr e0 hb r hsp=>?_⟩
 have hl:=len _ _ _ _ hsp
 have KX:K.In s.heap:=e0.mod.kin.keeps fun b o e=>(e0.bs b o e).1
 have lim:s.heap.NoLimit:=e0.mod.nolimit.keeps fun b o e=>(e0.bs b o e).1
 have hkind:∀y∈ps.zip us,scope.names.lookup y.1=some .local\/(scope.names.lookup y.1=some .cell/\((IW (s.heap.objs.size+1) scope.names []).lookup y.1).isSome=true):=fun zz62_0 hy=>by
  obtain⟨n,v⟩:=zz62_0
  rcases S.par n (List.of_mem_zip hy).1 with q|q
  ·exact .inl q
  ·exact .inr ⟨q,PySem.W.cellsFrom_some _ _ _ (.inl q)⟩
 refine codeAny_call_function hr.depth (KX _ _ lk) rfl S.co S.gen rfl (PySem.W.codeRec_of KX hcd) (hb _ _ _ _ ?_)
 refine wpAny_newFunctionEnv_cells S.kind hkind fun env he s1 x=>?_
 subst he
 refine⟨lim.keeps x.toInCall.keep,codeAny_func ?_⟩
 obtain⟨t,ht,hq⟩:=hbody A outer s H vs Q E (hr.deeper _) hsp
 have I:Inv (bQ CX P w K mg base N qual scope f cdv A outer s H E) [] (start N vs) H s1:=wz S hr.hd e0 hl r x
 refine HS (ht [] s1 (start N vs) H _ I hq) (fun fl s' hs=>?_) fun e s' hs=>hs
 have fin:∀{σ':St} {H':Hp} {v:V} {u:G0},Inv (bQ CX P w K mg base N qual scope f cdv A outer s H E) [] σ' H' s'->RelV v u->Q v H'->CE outer P w H s Q u s':=
  fun{σ' H' v u} J rv q=>⟨v,H',J.os,J.bare,J.base,J.hok,rv,q⟩
 cases fl with
 |ret u=>
  obtain⟨v,σ',H',J,rv,q⟩:=hs
  exact fin J rv q
 |next=>
  obtain⟨σ',H',J,q⟩:=hs
  exact fin (v:=V.non) (u:=Iu) J rfl q
 |brk=>
  obtain⟨_,_,_,q⟩:=hs
  exact IU q
 |cont=>
  obtain⟨_,_,_,q⟩:=hs
  exact IU q
section
variable{X:Cx}{x:Str}{p pos:Pos}{e:Expr}{es:List Expr}{t:TA}{id T:String}{r:List V->Hp->VK->Prop}
def tCB(r:List V->Hp->VK->Prop)(t:TA):TE:=fun σ H Q=>t σ H fun vs H1=>r vs H1 Q
theorem xJ(hc:b8 X (.builtin id) r)(hg:Gl X x)(hm:X.mg x=none)(hv:HX x=some (.builtin id))(ha:PA X (e::es) t)(hn:x≠"__name__":=by decide)(hdb:(x==("__debug__":Str))=false:=by decide) (he:Hc (e::es) X.env=(false,eval e X.env)::Hc es X.env:=by rfl) (hpl:(IV pos (Hc es X.env)).any (·.1)=false:=by rfl):PE X (.Call (.Name x p) (e::es) [] pos) (tCB r t):=by intro pins s σ H Q I h;refine wpAny_Call_Name_kw (mM I hg hm hv ?_ hn hdb);exact PyProof.Rows.callWith_builtin1 (thn (ha pos pins s σ H _ I h) fun us s1 zz63_0=>by obtain⟨vs,H1,I1,r1,q1⟩:=zz63_0;exact(hc pins s1 σ H1 vs us Q I1 r1 q1)) he hpl
theorem vS(hc:b8 X (.type T) r)(hg:Gl X x)(hm:X.mg x=none)(hv:HX x=some (.type T))(ha:PA X (e::es) t)(hn:x≠"__name__":=by decide)(hdb:(x==("__debug__":Str))=false:=by decide) (he:Hc (e::es) X.env=(false,eval e X.env)::Hc es X.env:=by rfl) (hpl:(IV pos (Hc es X.env)).any (·.1)=false:=by rfl):PE X (.Call (.Name x p) (e::es) [] pos) (tCB r t):=by intro pins s σ H Q I h;refine wpAny_Call_Name_kw (mM I hg hm hv ?_ hn hdb);exact PyProof.Rows.callWith_type1 (thn (ha pos pins s σ H _ I h) fun us s1 zz64_0=>by obtain⟨vs,H1,I1,r1,q1⟩:=zz64_0;exact(hc pins s1 σ H1 vs us Q I1 r1 q1)) he hpl
end
end L2
namespace HT
open PySem PyProof.Rows
def lexLt:List Int->List Int->Bool
 |[],[]=>false
 |[],_::_=>true
 |_::_,[]=>false
 |x::xs,y::ys=>if x=y then lexLt xs ys else decide (x<y)
theorem tU(x y:Int)(xs ys:List Int):lexLt (x::xs) (y::ys)=if x=y then lexLt xs ys else decide (x<y):=rfl
theorem m8:lexLt [] []=false:=rfl
theorem mh(y:Int)(ys:List Int):lexLt [] (y::ys)=true:=rfl
theorem l0(x:Int)(xs:List Int):lexLt (x::xs) []=false:=rfl
theorem jH(A:HM)(s:G3)(a:Int)(t:Tok)(c:Int)(u:Tok):∃e,SeqAt.EqAt A s (.int a t) (.int c u) e/\(e=true↔a=c):=⟨(a==c),SeqAt.EqAt.int_int a t c u,by simp⟩
theorem yH(A:HM)(s:G3)(a:Int)(t:Tok)(c:Int)(u:Tok)(prog:Hi)(w:HL)(E:G0->G3->Prop)(Q:G0->G3->Prop)(h:Q (.bool (decide (a<c))) s) : Hf (Hm prog w) A (richCompare .Lt (.int a t) (.int c u)) Q E s:=(PyProof.Rows.lt_int h:Hf (Hm prog w) A (Hn .Lt (.int a t) (.int c u)) Q E s)
section
open PySem.SeqAt
open PySem.AutoSeq1 (wpAny_loadPart')
open PySem.MeetsSeq PySem.MeetsSeq2 PySem.MeetsSeq3
theorem m9(l b:Addr)(items items2:Array G0)(n n2:Nat)(dd dd2:Option Addr)(sl sl2:Array (Option G0))(ns ms:List Int)(hi:IE items.toList ns)(hj:IE items2.toList ms) :
 Meets (Builtin.«tuple.__lt__» ⟨[.ref l,.ref b],[]⟩)
  (fun _ R s=>s.heap.get? l=some { cls:=.type "tuple",dict:=dd,data:=.seq items n,slots:=sl }/\s.heap.get? b=some { cls:=.type "tuple",dict:=dd2,data:=.seq items2 n2,slots:=sl2 }/\
   R (.ok (.ret (.bool (lexLt ns ms)))) s):=
 .of_wp fun prog w A R s h=>by
  obtain⟨hp,g,d,tk,os⟩:=s;obtain⟨hl,hb,h⟩:=h
  have f2:=AutoSeq1.sub_tuple_tuple
  have z1:items.size=ns.length:=by rw[<-hi.length];simp
  have z2:items2.size=ms.length:=by rw[<-hj.length];simp
  wp_walk using IF hl,IF hb,wpAny_forIn_list _ (fun rest b s'=>b.1=none/\s'=⟨hp,g,d,tk,os⟩/\∃(vs ws:List G0) (ns' ms':List Int),rest=vs.zip ws/\
   IE vs ns'/\IE ws ms'/\ns'.length+items2.size=ms'.length+items.size/\R (.ok (.ret (.bool (lexLt ns' ms')))) ⟨hp,g,d,tk,os⟩) _
  case turn=>
   rintro⟨y,x⟩ rest b s' ⟨hb',rfl,vs,ws,ns',ms',hz,hvi,hwi,hlen,hR⟩
   cases hvi with
   |nil=>rw[List.zip_nil_left]at hz;cases hz
   |cons a t hvi'=>
    cases hwi with
    |nil=>rw[List.zip_nil_right]at hz;cases hz
    |cons c u hwi'=>
     rw[IP]at hz
     injection hz with hyx hrest
     injection hyx with hy hx
     subst hy hx
     rw[tU]at hR
     simp only[Hw]at hlen
     obtain⟨e,he,hiff⟩:=jH A.in1 ⟨hp,g,d,tk,os⟩ a t c u
     refine G2 (he prog w _ _ ?_)
     cases e with
     |true=>
      rw[if_pos (hiff.mp rfl)]at hR
      wp_walk
      exact⟨rfl,rfl,_,_,_,_,hrest,hvi',hwi',by omega,hR⟩
     |false=>
      rw[if_neg (fun q=>absurd (hiff.mpr q) G6)]at hR
      have hri:=yH A.in1 ⟨hp,g,d,tk,os⟩ a t c u prog w
      wp_walk using hri
      exact⟨_,rfl,by simpa using hR⟩
  case fin=>
   rintro⟨b1,b2⟩ s' ⟨hb',rfl,vs,ws,ns',ms',hz,hvi,hwi,hlen,hR⟩
   simp only at hb'
   subst hb'
   have hv:lexLt ns' ms'=decide (items.size<items2.size):=by
    cases hvi with
    |nil=>
     cases hwi with
     |nil=>
      simp only[IC]at hlen
      rw[m8]
      exact(decide_eq_false (by omega)).symm
     |cons c u hw=>
      simp only[IC,Hw]at hlen
      rw[mh]
      exact(decide_eq_true (by omega)).symm
    |cons a t hv=>
     cases hwi with
     |nil=>
      simp only[IC,Hw]at hlen
      rw[l0]
      exact(decide_eq_false (by omega)).symm
     |cons c u hw=>
      rw[IP]at hz
      cases hz
   rw[hv]at hR
   wp_walk
   exact⟨_,rfl,by simpa[J1]using hR⟩
  case h=>
   exact⟨rfl,rfl,items.toList,items2.toList,ns,ms,rfl,hi,hj,by omega,h⟩
end
section
variable{prog:Hi}{w:HL}{A:HM}{E:G0->G3->Prop}{s:G3}
theorem l4{l b:Addr}{items items2:Array G0}{ns ms:List Int}{Q:G0->G3->Prop}(hl:IsTup s.heap l items)(hb:IsTup s.heap b items2)(hi:IE items.toList ns)(hj:IE items2.toList ms) (hu:A.units<JI) (h:Q (.bool (lexLt ns ms)) s):Hf (Hm prog w) A (Hn .Lt (.ref l) (.ref b)) Q E s:=by obtain⟨⟨cls,dd,data,sl⟩,ho,hc,n,hd⟩:=id hl;obtain⟨⟨cls2,dd2,data2,sl2⟩,ho2,hc2,n2,hd2⟩:=id hb;simp only at hc hd hc2 hd2;subst hc hd hc2 hd2;exact richCompare_meets_room (op:=.Lt) ⟨_,ho,rfl⟩ ⟨_,ho2,rfl⟩ PySem.F.slot_tuple_lt PySem.F.entry_tuple_lt (PySem.F.args_tuple_lt_2 _ _) (m9 l b items items2 n n2 dd dd2 sl sl2 ns ms hi hj) ⟨ho,ho2,show IM (lexLt ns ms)≠Value.notImplemented/\Q (.bool (lexLt ns ms)) s from⟨(fun x=>nomatch x),h⟩⟩ hu
theorem Ai{t b:Addr}{vs ws:List G0}{Q:G0->G3->Prop}(ht:IsTup s.heap t vs.toArray)(hb:IsTup s.heap b ws.toArray)(hv:vs≠[])
 (h1:ws=[]->Q (.ref t) s) (h2:ws≠[]->Q (.ref s.heap.objs.size) { s with heap:=s.heap.push { cls:=.type "tuple",data:=.seq (vs++ws).toArray } })
 (hsz:vs.length+ws.length<=GX):Hf (Hm prog w) A (J2 .Add (.ref t) (.ref b)) Q E s:=by
 obtain⟨⟨cls,dd,data,sl⟩,ho,hc,n,hd⟩:=id ht
 obtain⟨⟨cls2,dd2,data2,sl2⟩,ho2,hc2,n2,hd2⟩:=id hb
 simp only at hc hd hc2 hd2
 subst hc hd hc2 hd2
 have e:vs.toArray++ws.toArray=(vs++ws).toArray:=by simp
 by_cases hw:ws=[]
 ·exact concat_meets ⟨_,ho,rfl⟩ ⟨_,ho2,rfl⟩ noFill_tuple_add seq_tuple_add PySem.F.slot_tuple_add PySem.F.entry_tuple_add (PySem.F.args_tuple_add_2 _ _)
   (tuple_addW1 t b vs.toArray ws.toArray n n2 dd dd2 sl sl2 (by simpa using hv) (by simp[hw])) ⟨ho,ho2,h1 hw⟩
 ·refine concat_meets ⟨_,ho,rfl⟩ ⟨_,ho2,rfl⟩ noFill_tuple_add seq_tuple_add PySem.F.slot_tuple_add PySem.F.entry_tuple_add (PySem.F.args_tuple_add_2 _ _)
   (tuple_addW2 t b vs.toArray ws.toArray n n2 dd dd2 sl sl2 (by simpa using hv) (by simpa using hw) (by rw[Hg,Hg];exact hsz)) ⟨ho,ho2,?_⟩
  rw[e]
  exact h2 hw
def sIx(n d:Nat):Option Int->Nat
 |none=>d
 |some v=>if v<0 then(v+(n:Int)).toNat else min v.toNat n
theorem zv(n d:Nat):sIx n d none=d:=rfl
theorem pE(n d k:Nat):sIx n d (some (k:Int))=min k n:=by show(if(k:Int)<0 then((k:Int)+(n:Int)).toNat else min (k:Int).toNat n)=min k n;rw[if_neg (by omega),Int.toNat_natCast]
theorem CO(n d:Nat)(hd:d<=n)(o:Option Int):sIx n d o<=n:=by
 cases o with
 |none=>exact hd
 |some v=>
  show(if v<0 then(v+(n:Int)).toNat else min v.toNat n)<=n
  by_cases hv:v<0
  ·rw[if_pos hv];omega
  ·rw[if_neg hv];exact Nat.min_le_right _ _
theorem vz(v:Int)(n d:Nat):(if v<0 then max (v+(n:Int)) 0 else min v (n:Int))=((sIx n d (some v):Nat):Int):=by
 show(if v<0 then max (v+(n:Int)) 0 else min v (n:Int))=(((if v<0 then(v+(n:Int)).toNat else min v.toNat n):Nat):Int);by_cases hv:v<0
 ·simp only[if_pos hv];omega
 ·simp only[if_neg hv];omega
theorem rY(lo hi:Option Int)(n:Nat):Builtin.Slice.sliceAdjust lo hi 1 (n:Int)=(((sIx n 0 lo:Nat):Int),((sIx n n hi:Nat):Int)):=by
 have h1:¬((1:Int)<0):=by omega
 unfold Builtin.Slice.sliceAdjust;simp only[h1,if_false];refine Prod.ext ?_ ?_
 ·cases lo with
  |none=>rfl
  |some v=>exact vz v n 0
 ·cases hi with
  |none=>rfl
  |some v=>exact vz v n n
theorem r9(i j:Nat):Builtin.Slice.slicePlaces (i:Int) (j:Int) 1=j-i:=by
 unfold Builtin.Slice.slicePlaces;have h1:(1:Int)>0:=by omega
 simp only[h1,if_true,Int.ediv_one];split<;>omega
theorem mP{v:G0}{o:Option Int}{Q:Option Int->G3->Prop}(p:IsPart v o)(h:Q o s):Hf (Hm prog w) A (Builtin.Slice.slicePartIndex v) Q E s:=by
 cases p with
 |none=>exact slicePart_none h
 |int i t=>exact slicePart_int h
theorem jX{sl:Addr}{vl vu:G0}{lo hi:Option Int}{n:Nat}{Q:Int×Int×Nat->G3->Prop}(hs:s.heap.IsSliceOf sl vl vu .none)(pl:IsPart vl lo)(pu:IsPart vu hi)
 (h:Q (((sIx n 0 lo:Nat):Int),1,sIx n n hi-sIx n 0 lo) s):Hf (Hm prog w) A (Builtin.Slice.sliceApplied (.ref sl) (pure (n:Int))) Q E s:=by
 obtain⟨os,hos,hcs,hds⟩:=id hs
 unfold Builtin.Slice.sliceApplied Builtin.Slice.sliceFields
 refine G2 (G2 (wpAny_field hos hds (x:=vl) rfl (G2 (wpAny_field hos hds (x:=vu) rfl (G2 (wpAny_field hos hds (x:=.none) rfl (Hd ?_)))))))
 refine G2 (slicePart_none ?_)
 show Hf _ _ (if((1:Int)==0)=true then _ else _) _ _ s
 rw[if_neg (by decide)]
 refine G2 (mP pl (G2 (mP pu (G2 (Hd ?_)))))
 show Hf _ _ (match Builtin.Slice.sliceAdjust lo hi 1 (n:Int)with|(lo,hi)=>pure (lo,(1:Int),Builtin.Slice.slicePlaces lo hi 1)) _ _ s
 rw[rY lo hi n]
 show Hf _ _ (pure (((sIx n 0 lo:Nat):Int),(1:Int),Builtin.Slice.slicePlaces ((sIx n 0 lo:Nat):Int) ((sIx n n hi:Nat):Int) 1)) _ _ s
 rw[r9]
 exact Hd h
theorem zg(xs:Array G0)(i k:Nat):((HF k).filterMap fun(m:Nat)=>xs[((i:Int)+(m:Int)*1).toNat]?).toArray=((xs.toList.drop i).take k).toArray:=by
 have e:(fun(m:Nat)=>xs[((i:Int)+(m:Int)*1).toNat]?)=fun m=>xs[i+m]?:=by
  funext m
  have:((i:Int)+(m:Int)*1).toNat=i+m:=by omega
  rw[this]
 rw[e];have:=pick_run xs i k;rw[List.filterMap_map]at this;have e2:((fun x=>xs[x]?)∘fun x=>i+x)=fun m=>xs[i+m]?:=rfl;rw[e2]at this;rw[this]
theorem jn{t sl:Addr}{items:Array G0}{vl vu:G0}{lo hi:Option Int}{Q:G0->G3->Prop}(ht:IsTup s.heap t items)(hs:s.heap.IsSliceOf sl vl vu .none)(pl:IsPart vl lo)(pu:IsPart vu hi)
 (hw:¬(sIx items.size 0 lo=0/\sIx items.size items.size hi=items.size))
 (h:Q (.ref s.heap.objs.size) { s with heap:=s.heap.push { cls:=.type "tuple",data:=.seq ((items.toList.drop (sIx items.size 0 lo)).take (sIx items.size items.size hi-sIx items.size 0 lo)).toArray } })
 (hsz:items.size<=GX):Hf (Hm prog w) A (getItem (.ref t) (.ref sl)) Q E s:=by
 have htake:sizeOk (.seq ((items.toList.drop (sIx items.size 0 lo)).take (sIx items.size items.size hi-sIx items.size 0 lo)).toArray):=by
  show((items.toList.drop (sIx items.size 0 lo)).take (sIx items.size items.size hi-sIx items.size 0 lo)).toArray.size<=GX
  rw[Hg,List.length_take,List.length_drop,Jo]
  omega
 have hj:sIx items.size items.size hi<=items.size:=CO _ _ (GY _) hi
 obtain⟨os,hos,hcs,hds⟩:=id hs
 have hTs:s.TypeIs (.ref sl) "slice":=⟨os,hos,hcs⟩
 unfold getItem
 try with_reducible refine IG ?_
 first|refine G2 (Hd ?_)|skip
 refine G2 (wpAny_sequenceKey ht.typeIs (by decide) ?_)
 refine G2 (wpAny_callSpecial?_slot (name:=G1 "__getitem__") ht.typeIs PyProof.Rows.slot_tuple_getitem
  (wpAny_call_entry PyProof.Rows.slot_tuple_getitem ht.typeIs entry_tuple_getitem ?_ (args_tuple_getitem _ _)))
 show Hf _ _ (Builtin.Tuple.tupleItemsOf (.ref t) >>= _) _ _ s
 refine G2 (tupleItemsOf_ ht ?_)
 refine G2 (wpAny_typeOf hTs ?_)
 rw[if_pos (by decide)]
 refine G2 (jX hs pl pu ?_)
 have hno:¬((((sIx items.size 0 lo:Nat):Int)==0&&(1:Int)==1&&(sIx items.size items.size hi-sIx items.size 0 lo)==items.size)=true):=by
  intro q
  rw[Hl,Hl]at q
  have q1:((sIx items.size 0 lo:Nat):Int)=0:=eq_of_beq q.1.1
  have q2:sIx items.size items.size hi-sIx items.size 0 lo=items.size:=eq_of_beq q.2
  exact hw ⟨by omega,by omega⟩
 show Hf _ _ (if(((sIx items.size 0 lo:Nat):Int)==0&&(1:Int)==1&&(sIx items.size items.size hi-sIx items.size 0 lo)==items.size)=true then _ else _) _ _ s
 rw[if_neg hno,zg]
 first
  |exact G2 (m:=Builtin.Tuple.tupleExact _) (IJ (Hd ⟨_,rfl,Hd h⟩) htake)
  |exact G2 (m:=Builtin.Tuple.tupleExact _) (IJ (G2 (Hd (Hd ⟨_,rfl,Hd h⟩))) htake)
  |exact G2 (G2 (m:=Builtin.Tuple.tupleExact _) (IJ (Hd (Hd ⟨_,rfl,Hd h⟩)) htake))
  |exact G2 (G2 (m:=Builtin.Tuple.tupleExact _) (IJ (Hd ⟨_,rfl,Hd h⟩) htake))
end
end HT
namespace L2
open PySem PySem.Spec PyProof.Rows
abbrev TO:=St->Hp->(Option Int->Hp->Prop)->Prop
def PO(X:Cx)(e:Option Expr)(t:TO):Prop:=
 ∀(pins:List (Addr×Obj)) (s:G3) (σ:St) (H:Hp) (Q:Option Int->Hp->Prop),Inv X pins σ H s->t σ H Q->
  Hf (Hm X.prog X.w) X.A (evalPart e X.env) (fun u s'=>∃o H',Inv X pins σ H' s'/\IsPart u o/\Q o H') X.xe s
def AV:TO:=fun _ H Q=>Q none H
def Ft(t:TE):TO:=fun σ H Q=>t σ H fun x H1=>∃i,x=.int i/\Q (some i) H1
theorem intsAre_of{ns:List Int}:∀{us:List G0},Vals (ns.map V.int) us->IE us ns:=by
 induction ns with
 |nil=>intro us r;rw[List.map_nil]at r;cases r;exact .nil
 |cons n ns ih=>
  intro us r
  rw[Ho]at r
  cases r with
  |cons r1 r2=>
   obtain⟨t,e⟩:=r1
   subst e
   exact .cons n t (ih r2)
section
variable{X:Cx}{e:Expr}{te:TE}{lo hi:Option Expr}{tl th:TO}{pos p2:Pos}
theorem uH:PO X none AV:=by intro pins s σ H Q I h;rw[evalPart_none];exact Hd ⟨none,H,I,.none,h⟩
theorem vt(h:PE X e te):PO X (some e) (Ft te):=by intro pins s σ H Q I hw;rw[evalPart_some];refine thn (h pins s σ H _ I hw) fun u s1 zz65_0=>?_;obtain⟨x,H1,I1,r1,q1⟩:=zz65_0;obtain⟨i,rfl,q⟩:=q1;obtain⟨t,rfl⟩:=r1;exact⟨some i,H1,I1,.int i t,q⟩
def SlR(X:Cx)(r:V->Option Int->Option Int->Hp->VK->Prop):Prop:=
 ∀(pins:List (Addr×Obj)) (s:G3) (σ:St) (H:Hp) (x:V) (v vl vu:G0) (lo hi:Option Int) (sl:Addr) (Q:VK),Inv X pins σ H s->RelV x v->s.heap.IsSliceOf sl vl vu .none->IsPart vl lo->IsPart vu hi->r x lo hi H Q->
  ∃T id,typeLookup (.type T) "__getitem__"=pure (some (.builtin id))/\s.TypeIs v T/\Hf (Hm X.prog X.w) X.A (getItem v (.ref sl)) (EP X pins σ Q) X.xe s
theorem SlR.or{r r':V->Option Int->Option Int->Hp->VK->Prop}(h:SlR X r)(h':SlR X r'):SlR X (fun x lo hi H Q=>r x lo hi H Q\/r' x lo hi H Q):=by
 intro pins s σ H x v vl vu lo hi sl Q I rx hs pl pu q;rcases q with q|q
 ·exact h pins s σ H x v vl vu lo hi sl Q I rx hs pl pu q
 ·exact h' pins s σ H x v vl vu lo hi sl Q I rx hs pl pu q
def tSl(r:V->Option Int->Option Int->Hp->VK->Prop)(te:TE)(tl th:TO):TE:=fun σ H Q=>te σ H fun x H1=>tl σ H1 fun l H2=>th σ H2 fun u H3=>r x l u H3 Q
theorem mQ{r:V->Option Int->Option Int->Hp->VK->Prop}(hr:SlR X r)(he:PE X e te)(hl:PO X lo tl)(hu:PO X hi th):PE X (.Subscript e (.Slice lo hi none p2) pos) (tSl r te tl th):=by intro pins s σ H Q I h;refine Subscript_ (thn (he pins s σ H _ I h) fun v s1 zz66_0=>?_);obtain⟨x,H1,I1,r1,q1⟩:=zz66_0;refine wpAny_Slice (thn (hl pins s1 σ H1 _ I1 q1) fun vl s2 ⟨l,H2,I2,pl,q2⟩=>thn (hu pins s2 σ H2 _ I2 q2) fun vu s3 zz67_0=>?_);obtain⟨u,H3,I3,pu,q3⟩:=zz67_0;rw[evalPart_none];refine Hd ?_;have I4:Inv X pins σ H3 { s3 with heap:=s3.heap.push { cls:=.type "slice",data:=.fields #[vl,vu,.none] } }:=I3.kept (t':=s3.toks) fun b ob q=>G5 _ q;obtain⟨T,id,hT,ht,hg⟩:=hr pins { s3 with heap:=s3.heap.push { cls:=.type "slice",data:=.fields #[vl,vu,.none] } } σ H3 x v vl vu l u s3.heap.objs.size Q I4 r1 (Heap.IsSliceOf.new ..) pl pu q3;show Hf (Hm X.prog X.w) X.A (subscriptTail e (.Slice lo hi none p2) v (.ref s3.heap.objs.size)) (EP X pins σ Q) X.xe { s3 with heap:=s3.heap.push { cls:=.type "slice",data:=.fields #[vl,vu,.none] } };exact tail_any (ops:=[.ref s3.heap.objs.size,v]) ht hT hg (by with_unfolding_all rfl)
def rp(xs:List V)(lo hi:Option Int):List V:=(xs.drop (HT.sIx xs.length 0 lo)).take (HT.sIx xs.length xs.length hi-HT.sIx xs.length 0 lo)
theorem kl(xs:List V)(lo hi:Option Int):(rp xs lo hi).length<=xs.length:=by unfold rp;rw[List.length_take,List.length_drop];omega
def Gw(K:cc):V->Option Int->Option Int->Hp->VK->Prop:=fun x lo hi H Q=>∃a xs,x=.ref a/\SqT K H a xs/\
 ¬(HT.sIx xs.length 0 lo=0/\HT.sIx xs.length xs.length hi=xs.length)/\∀p,H p=none->Q (.ref p) (upd H p (.tup (rp xs lo hi)))
theorem za:SlR X (Gw X.K):=by
 intro pins s σ H x v vl vu lo hi sl Q I rx hs pl pu h;obtain⟨a,xs,rfl,hx,hw,q⟩:=h;cases rx;obtain⟨its,r,ht,hz⟩:=I.tuple hx;have hlen:its.toArray.size=xs.length:=by rw[Hg];exact r.length.symm
 refine⟨"tuple",_,PyProof.Rows.slot_tuple_getitem.lookup,ht.typeIs,?_⟩;refine HT.jn ht hs pl pu (by rw[hlen];exact hw) ?_ (by rw[hlen];exact hz);rw[hlen];refine⟨.ref s.heap.objs.size,_,I.laid (t':=s.toks) (o:=.tup (rp xs lo hi)) (fun b ob q=>G5 _ q) (GY _) ?_,rfl,q _ (I.hok.fresh (GY _))⟩;exact⟨He (kl xs lo hi) hz,_,(r.drop (HT.sIx xs.length 0 lo)).take (HT.sIx xs.length xs.length hi-HT.sIx xs.length 0 lo),IsTup.new _ _⟩
def GG(K:cc):R2:=fun x y H Q=>∃a b ns ms,x=.ref a/\y=.ref b/\SqT K H a (ns.map V.int)/\SqT K H b (ms.map V.int)/\Q (.bl (HT.lexLt ns ms)) H
theorem CB(hu:X.A.units<JI):OpR X (Hn .Lt) (GG X.K):=by intro pins s σ H x y v u Q I rx ry h;obtain⟨a,b,ns,ms,rfl,rfl,ha,hb,q⟩:=h;cases rx;cases ry;obtain⟨its,r1,p1,_⟩:=I.tuple ha;obtain⟨its2,r2,p2,_⟩:=I.tuple hb;have i1:IE its.toArray.toList ns:=intsAre_of r1;have i2:IE its2.toArray.toList ms:=intsAre_of r2;exact HT.l4 p1 p2 i1 i2 hu ⟨.bl (HT.lexLt ns ms),H,I,rfl,q⟩
def FL(K:cc):R2:=fun x y H Q=>∃a b xs ys,x=.ref a/\y=.ref b/\SqT K H a xs/\SqT K H b ys/\xs≠[]/\xs.length+ys.length<=GX/\
 (ys=[]->Q (.ref a) H)/\(ys≠[]->∀p,H p=none->Q (.ref p) (upd H p (.tup (xs++ys))))
theorem Vals.p7{xs:List V}{us:List G0}(r:Vals xs us):us=[]↔xs=[]:=by
 cases r with
 |nil=>simp
 |cons _ _=>simp
theorem AF:OpR X (J2 .Add) (FL X.K):=by intro pins s σ H x y v u Q I rx ry h;obtain⟨a,b,xs,ys,rfl,rfl,ha,hb,hx,hz,q1,q2⟩:=h;cases rx;cases ry;obtain⟨its,r1,p1,_⟩:=I.tuple ha;obtain⟨its2,r2,p2,_⟩:=I.tuple hb;refine HT.Ai p1 p2 (fun z=>hx (r1.p7.mp z)) (fun z=>⟨.ref a,H,I,rfl,q1 (r2.p7.mp z)⟩) (fun z=>?_) (by rw[<-r1.length,<-r2.length];exact hz);refine⟨.ref s.heap.objs.size,_,I.laid (t':=s.toks) (o:=.tup (xs++ys)) (fun b ob q=>G5 _ q) (GY _) ?_,rfl,q2 (fun w=>z (r2.p7.mpr w)) _ (I.hok.fresh (GY _))⟩;exact⟨by rw[ID];exact hz,_,r1.append r2,IsTup.new _ _⟩
end
def ixN(n:Nat)(i:Int):Option Nat:=if 0<=i then(if i<n then some i.toNat else none)else if -(n:Int)<=i then some (i+n).toNat else none
def atI{α:Type}(xs:List α)(i:Int):Option α:=(ixN xs.length i).bind fun j=>xs[j]?
theorem vn{n:Nat}{i:Int}{j:Nat}(h:ixN n i=some j):seqIndex? i n=some j/\j<n/\-(n:Int)<=i/\i<n:=by
 unfold ixN at h;by_cases h0:0<=i
 ·rw[if_pos h0]at h;by_cases h1:i<n
  ·rw[if_pos h1]at h;have e:i.toNat=j:=Option.some.inj h;exact⟨by rw[seqIndex_of h0 h1,e],by omega,by omega,h1⟩
  ·rw[if_neg h1]at h;cases h
 ·rw[if_neg h0]at h;by_cases h1:-(n:Int)<=i
  ·rw[if_pos h1]at h;have e:(i+n).toNat=j:=Option.some.inj h;exact⟨by rw[seqIndex_neg (by omega) h1,e],by omega,h1,by omega⟩
  ·rw[if_neg h1]at h;cases h
theorem qr{α:Type}{xs:List α}{i:Int}{v:α}(h:atI xs i=some v):∃j,seqIndex? i xs.length=some j/\xs[j]?=some v/\j<xs.length/\-(xs.length:Int)<=i/\i<xs.length:=by
 unfold atI at h;cases e:ixN xs.length i with
 |none=>rw[e]at h;cases h
 |some j=>
  rw[e]at h
  obtain⟨h1,h2,h3,h4⟩:=vn e
  exact⟨j,h1,h,h2,h3,h4⟩
theorem eQ{α:Type}{xs:List α}{j:Nat}{v:α}(h:xs[j]?=some v):atI xs (j:Int)=some v:=by
 have hj:j<xs.length:=(Hj.mp h).1;have e:ixN xs.length (j:Int)=some j:=by unfold ixN;rw[if_pos (by omega),if_pos (by omega)];simp
 unfold atI;rw[e];exact h
def k8(b:Expr):Prop:=∀o i,subscripted b false o i=operate [o,i] (getItem o i)
def IxR(X:Cx)(r:R2):Prop:=
 ∀(value slice:Expr) (pins:List (Addr×Obj)) (s:G3) (σ:St) (H:Hp) (x y:V) (v u:G0) (Q:VK),Inv X pins σ H s->RelV x v->RelV y u->r x y H Q->
  subscripted slice false v u=operate [v,u] (getItem v u)->Hf (Hm X.prog X.w) X.A (subscriptTail value slice v u) (EP X pins σ Q) X.xe s
def MtR(X:Cx)(id:String)(r:V->List V->Hp->VK->Prop):Prop:=
 ∀(pins:List (Addr×Obj)) (s:G3) (σ:St) (H:Hp) (x:V) (xs:List V) (v:G0) (us:List G0) (Q:VK),Inv X pins σ H s->RelV x v->Vals xs us->r x xs H Q->
  Hf (Hm X.prog X.w) X.A (call (.builtin id) (v::us)) (EP X pins σ Q) X.xe s
section
variable{X:Cx}{a b:Expr}{ta tb:TE}{pos:Pos}
theorem IxR.or{r r':R2}(h:IxR X r)(h':IxR X r'):IxR X (fun x y H Q=>r x y H Q\/r' x y H Q):=by
 intro value slice pins s σ H x y v u Q I rx ry q hs;rcases q with q|q
 ·exact h value slice pins s σ H x y v u Q I rx ry q hs
 ·exact h' value slice pins s σ H x y v u Q I rx ry q hs
theorem EU{r:R2}(hr:IxR X r)(ha:PE X a ta)(hb:PE X b tb)(hs:k8 b):PE X (.Subscript a b pos) (tOp r ta tb):=by intro pins s σ H Q I h;exact Subscript_ (Cd ha hb I h fun v u s2 x y H2 I2 rx ry q=>hr a b pins s2 σ H2 x y v u Q I2 rx ry q (hs _ _))
def EB(K:cc):R2:=fun x y H Q=>∃p xs i v,x=.ref p/\y=.int i/\SqL K H p xs/\atI xs i=some v/\Q v H
def FH(K:cc):R2:=fun x y H Q=>∃p xs i v,x=.ref p/\y=.int i/\SqT K H p xs/\atI xs i=some v/\Q v H
def EF:R2:=fun x y H Q=>∃z i c,x=.str z/\y=.int i/\z.length<=GX/\atI z.cps.toList i=some c/\Q (.str ⟨#[c]⟩) H
theorem A6:IxR X (EB X.K):=by
 intro value slice pins s σ H x y v u Q I rx ry h hs;obtain⟨p,xs,i,z,rfl,rfl,hq,he,q⟩:=h;cases rx;obtain⟨t,rfl⟩:=ry;obtain⟨its,r,pl,hz⟩:=I.list hq;obtain⟨j,h1,h2,h3,h4,h5⟩:=qr he;obtain⟨w,ew,rw'⟩:=r.get h2;have hl:=r.length;have hn:=iO;have fin:EP X pins σ Q w s:=⟨z,H,I,rw',q⟩;by_cases h0:0<=i
 ·have hj:i.toNat=j:=by rw[seqIndex_of h0 h5]at h1;exact Option.some.inj h1
  exact item_listR pl.isList h0 (by omega) (by rw[hj];simpa using ew) fin hs
 ·have hj:(i+(its.toArray.size:Int)).toNat=j:=by rw[seqIndex_neg (by omega) h4]at h1;rw[Hg,<-hl];exact Option.some.inj h1
  exact subscriptTail_builtinR (x:=w) pl.isList.typeIs slot_list_getitem.lookup (wpAny_getItem_list_neg (Q:=fun r s'=>r=w/\EP X pins σ Q r s') pl.isList (by omega) (by rw[Hg]<;>omega) (by omega) (by rw[hj];simpa using ew) ⟨rfl,fin⟩) hs
theorem CF:IxR X (FH X.K):=by intro value slice pins s σ H x y v u Q I rx ry h hs;obtain⟨p,xs,i,z,rfl,rfl,hq,he,q⟩:=h;cases rx;obtain⟨t,rfl⟩:=ry;obtain⟨its,r,pl,hz⟩:=I.tuple hq;obtain⟨j,h1,h2,h3,h4,h5⟩:=qr he;obtain⟨w,ew,rw'⟩:=r.get h2;have hl:=r.length;have hn:=iO;have fin:EP X pins σ Q w s:=⟨z,H,I,rw',q⟩;exact subscriptTail_builtinR (x:=w) pl.typeIs slot_tuple_getitem.lookup (getItem_tuple (j:=j) (Q:=fun r s'=>r=w/\EP X pins σ Q r s') pl (by omega) (by omega) (by rw[Hg,<-hl];exact h1) (by simpa using ew) ⟨rfl,fin⟩) hs
theorem tV:IxR X EF:=by
 intro value slice pins s σ H x y v u Q I rx ry h hs;obtain⟨z,i,c,rfl,rfl,hz,he,q⟩:=h;obtain⟨t,rfl⟩:=rx;obtain⟨t',rfl⟩:=ry;obtain⟨j,h1,h2,h3,h4,h5⟩:=qr he;have hl:z.cps.toList.length=z.length:=by simp[Str.length]
 rw[hl]at h1 h4 h5;have hn:=iO
 exact tail_any (Jy s z t) slot_str_getitem.lookup (getItem_str (c:=c) (by
  have e1:decide (i < -(2^63:Int))=false:=decide_eq_false (by omega)
  have e2:decide (i≥2^63)=false:=decide_eq_false (by omega)
  rw[e1,e2,Bool.or_false]) (by rw[h1];simpa using h2) ⟨.str ⟨#[c]⟩,H,I.tok _,⟨_,rfl⟩,q⟩) hs
def rIx(K:cc):R2:=fun x y H Q=>EB K x y H Q\/FH K x y H Q\/EF x y H Q
theorem xS:IxR X (rIx X.K):=A6.or (CF.or tV)
theorem sM(its:List G0)(n j:Nat)(u:G0):Obj.mapSeq (·.setIfInBounds j u) { cls:=.type "list",data:=.seq its.toArray n }={ cls:=.type "list",data:=.seq (its.set j u).toArray n }:=by simp[Obj.mapSeq]
theorem Inv.lst{pins:List (Addr×Obj)}{σ:St}{H:Hp}{s:G3}{p:Addr}{xs:List V}(I:Inv X pins σ H s)(h:H p=some (.lst xs)) : ∃(its:List G0) (n:Nat),Vals xs its/\s.heap.get? p=some { cls:=.type "list",data:=.seq its.toArray n }/\xs.length<=GX:=by obtain⟨z,its,n,r,e⟩:=I.hok p _ h;exact⟨its,n,r,e,z⟩
theorem Inv.D5{pins:List (Addr×Obj)}{σ:St}{H:Hp}{s:G3}{p:Addr}{xs ys:List V}{its its':List G0}{n n':Nat}{f:Obj->Obj}(I:Inv X pins σ H s)(h:H p=some (.lst xs))
 (ho:s.heap.get? p=some { cls:=.type "list",data:=.seq its.toArray n }) (hf:f { cls:=.type "list",data:=.seq its.toArray n }={ cls:=.type "list",data:=.seq its'.toArray n' }) (r:Vals ys its') (hz:ys.length<=GX) (t:Nat) :
 Inv X pins σ (upd H p (.lst ys)) { s with heap:=s.heap.update p f,toks:=t }:=by
 have e:(s.heap.update p f).get? p=some { cls:=.type "list",data:=.seq its'.toArray n' }:=by
  rw[IA f ho (by rw[hf]<;>rfl),hf]
 refine I.write (x:=p) (e:=p) (by rw[h];trivial) (.inl rfl) (fun b u hb q=>(Hs _ _ (Ne.symm hb)).trans q) ⟨_,e⟩ ?_
 exact⟨hz,its',n',r,e⟩
def Eu:V->V->V->Hp->(Hp->Prop)->Prop:=fun o i v H Q=>∃p xs k j,o=.ref p/\i=.int k/\H p=some (.lst xs)/\ixN xs.length k=some j/\Q (upd H p (.lst (xs.set j v)))
theorem set_list:Em X Eu:=by
 intro pins s σ H o i v ov iv u Q I ro ri rv h;obtain⟨p,xs,k,j,rfl,rfl,hp,hj,q⟩:=h;cases ro;obtain⟨t,rfl⟩:=ri;obtain⟨its,n,r,ho,hz⟩:=I.lst hp;obtain⟨h1,h2,h3,h4⟩:=vn hj;have hl:=r.length;have hn:=iO;have I':Inv X pins σ (upd H p (.lst (xs.set j v))) { s with heap:=s.heap.update p (Obj.mapSeq (·.setIfInBounds j u)) }:=I.D5 hp ho (sM its n j u) (r.set rv j) (by rw[List.length_set];exact hz) s.toks;by_cases h0:0<=k
 ·have hk:k.toNat=j:=by rw[seqIndex_of h0 h4]at h1;exact Option.some.inj h1
  exact PySem.W.ki_setAt ho h0 (by omega) (by rw[Hg,<-hl];exact h4) (by rw[hk];exact⟨_,I',q⟩)
 ·have hk:(k+(its.toArray.size:Int)).toNat=j:=by rw[seqIndex_neg (by omega) h3]at h1;rw[Hg,<-hl];exact Option.some.inj h1
  exact PySem.W.ki_setBack ho (by omega) (by rw[Hg,<-hl];exact h3) (by omega) (by rw[hk];exact⟨_,I',q⟩)
theorem qv(lo hi:Option Int)(n:Nat):(sliceBounds lo hi none n).1=((HT.sIx n 0 lo:Nat):Int)/\(sliceBounds lo hi none n).2.1=((HT.sIx n n hi:Nat):Int)/\(sliceBounds lo hi none n).2.2=1:=by
 refine⟨?_,?_,rfl⟩
 ·cases lo with
  |none=>simp[sliceBounds,HT.sIx]
  |some i=>
   simp only[sliceBounds,HT.sIx,Option.getD_none,show(1:Int)>0 by decide,if_true]
   by_cases h:i<0
   ·simp only[h,if_true]<;>omega
   ·simp only[h,if_false]<;>omega
 ·cases hi with
  |none=>simp[sliceBounds,HT.sIx]
  |some i=>
   simp only[sliceBounds,HT.sIx,Option.getD_none,show(1:Int)>0 by decide,if_true]
   by_cases h:i<0
   ·simp only[h,if_true]<;>omega
   ·simp only[h,if_false]<;>omega
theorem nr(its:List G0)(lo hi:Option Int):slicePick its.toArray lo hi none=((its.drop (HT.sIx its.length 0 lo)).take (HT.sIx its.length its.length hi-HT.sIx its.length 0 lo)).toArray:=by obtain⟨h1,h2,h3⟩:=qv lo hi its.toArray.size;unfold slicePick;rw[h1,h2,h3];simp only[sliceRange_one,pick_run,Hg]<;>rfl
def GK(K:cc):V->Option Int->Option Int->Hp->VK->Prop:=fun x lo hi H Q=>∃a xs,x=.ref a/\SqL K H a xs/\∀p,H p=none->Q (.ref p) (upd H p (.lst (rp xs lo hi)))
theorem uI:SlR X (GK X.K):=by intro pins s σ H x v vl vu lo hi sl Q I rx hs pl pu h;obtain⟨a,xs,rfl,hx,q⟩:=h;cases rx;obtain⟨its,r,ht,hz⟩:=I.list hx;have hlen:=r.length;refine⟨"list",_,slot_list_getitem.lookup,ht.isList.typeIs,?_⟩;refine wpAny_getItem_list_slice ht.isList hs pl pu .none (by simp) ?_ (by rw[Hg]<;>omega);rw[nr,<-hlen];refine⟨.ref s.heap.objs.size,_,I.laid (t':=s.toks) (o:=.lst (rp xs lo hi)) (fun b ob q=>G5 _ q) (GY _) ?_,rfl,q _ (I.hok.fresh (GY _))⟩;exact⟨He (kl xs lo hi) hz,_,0,(r.drop (HT.sIx xs.length 0 lo)).take (HT.sIx xs.length xs.length hi-HT.sIx xs.length 0 lo),Hk _ rfl⟩
theorem pV:b8 X (.builtin "len") (fun xs H Q=>∃p ys,xs=[.ref p]/\(SqL X.K H p ys\/SqT X.K H p ys)/\Q (.int ys.length) H):=by
 intro pins s σ H xs us Q I r h;obtain⟨p,ys,rfl,hq,q⟩:=h;obtain⟨u,rfl,rx⟩:=vals1 r;cases rx;have hn:=iO;rcases hq with hq|hq
 ·obtain⟨its,r',pl,hz⟩:=I.list hq;have hlen:=r'.length;exact Calls.call_len_list pl.isList (by simp only[Hg]<;>omega) ⟨.int ys.length,H,I.tok _,⟨s.toks+1,by rw[Hg,hlen]⟩,q⟩
 ·obtain⟨its,r',pl,hz⟩:=I.tuple hq;have hlen:=r'.length;exact len_tuple pl (by simp only[Hg]<;>omega) ⟨.int ys.length,H,I.tok _,⟨s.toks+1,by rw[Hg,hlen]⟩,q⟩
theorem ph:b8 X (.builtin "len") (fun xs H Q=>∃z,xs=[.str z]/\z.length<=GX/\Q (.int z.length) H):=by intro pins s σ H xs us Q I r h;obtain⟨z,rfl,hz,q⟩:=h;obtain⟨u,rfl,t,rfl⟩:=vals1 r;have hn:=iO;exact len_str (by omega) ⟨.int z.length,H,I.tok _,⟨_,rfl⟩,q⟩
theorem b8.or{f:G0}{r r':List V->Hp->VK->Prop}(h:b8 X f r)(h':b8 X f r'):b8 X f (fun xs H Q=>r xs H Q\/r' xs H Q):=by
 intro pins s σ H xs us Q I rs q;rcases q with q|q
 ·exact h pins s σ H xs us Q I rs q
 ·exact h' pins s σ H xs us Q I rs q
theorem pH:b8 X (.type "list") (fun xs H Q=>∃p ys,xs=[.ref p]/\(SqL X.K H p ys\/SqT X.K H p ys)/\∀l,H l=none->Q (.ref l) (upd H l (.lst ys))):=by
 intro pins s σ H xs us Q I r h;obtain⟨p,ys,rfl,hq,q⟩:=h;obtain⟨u,rfl,rx⟩:=vals1 r;cases rx;have fin:∀(its:List G0),Vals ys its->ys.length<=GX->∀(h':Heap) (c':Nat),(∀b o',s.heap.get? b=some o'->h'.get? b=some o')->h'.get? s.heap.objs.size=some { cls:=.type "list",dict:=none,data:=.seq its.toArray c',slots:=#[] }->EP X pins σ Q (.ref s.heap.objs.size) { s with heap:=h' }:=fun its r' hz h' c' kp e=>⟨.ref s.heap.objs.size,_,I.laid (t':=s.toks) kp (GY _) (show cY X.prog X.w _ h' _ (.lst ys)from⟨hz,its,c',r',e⟩),rfl,q _ (I.hok.fresh (GY _))⟩;rcases hq with hq|hq
 ·obtain⟨its,r',pl,hz⟩:=I.list hq;have hlen:=r'.length;obtain⟨o,ho,hc,n,hd⟩:=pl.isList;exact call_list_seq p (.inl rfl) ho hc hd (fun h' c' kp e=>fin its r' hz h' c' kp e) (by simp only[Hg]<;>omega)
 ·obtain⟨its,r',pl,hz⟩:=I.tuple hq;have hlen:=r'.length;obtain⟨o,ho,hc,n,hd⟩:=pl;exact call_list_seq p (.inr rfl) ho hc hd (fun h' c' kp e=>fin its r' hz h' c' kp e) (by simp only[Hg]<;>omega)
theorem m7:b8 X (.type "tuple") (fun xs H Q=>∃p ys,xs=[.ref p]/\((SqL X.K H p ys/\∀l,H l=none->Q (.ref l) (upd H l (.tup ys)))\/(SqT X.K H p ys/\Q (.ref p) H))):=by
 intro pins s σ H xs us Q I r h;obtain⟨p,ys,rfl,h⟩:=h;obtain⟨u,rfl,rx⟩:=vals1 r;cases rx;rcases h with⟨hq,q⟩|⟨hq,q⟩
 ·obtain⟨its,r',pl,hz⟩:=I.list hq;have hlen:=r'.length;refine call_tuple_list pl.isList (fun h' kp=>?_) (by simp only[Hg]<;>omega);have I1:Inv X pins σ H { s with heap:=h' }:=I.kept (t':=s.toks) kp;have I2:Inv X pins σ (upd H h'.objs.size (.tup ys)) { s with heap:=h'.push { cls:=.type "tuple",data:=.seq its.toArray } }:=I1.laid (t':=s.toks) (fun b o e=>G5 _ e) (GY _) (show cY X.prog X.w _ _ _ (.tup ys)from⟨hz,its,r',IsTup.new _ _⟩);exact⟨.ref h'.objs.size,_,I2,rfl,q _ (I1.hok.fresh (GY _))⟩
 ·obtain⟨its,r',pl,hz⟩:=I.tuple hq;exact call_tuple_same pl ⟨.ref p,H,I,rfl,q⟩
def tyV(K:cc)(T:String)(x:V)(H:Hp):Prop:=match x with
 |.str _=>T="str"
 |.int _=>T="int"
 |.ref p=>(T="list"/\∃xs,SqL K H p xs)\/(T="tuple"/\∃o,K.lookup p=some o/\o.cls=.type "tuple"/\o.dict=none)\/
  (T="dict"/\((∃kvs,H p=some (.dK kvs))\/∃kvs,H p=some (.dT kvs)))\/(T="set"/\∃S n,H p=some (.set S n))
 |_=>False
theorem CZ{pins:List (Addr×Obj)}{σ:St}{H:Hp}{s:G3}{T:String}{x:V}{v:G0}(I:Inv X pins σ H s)(r:RelV x v)(ty:tyV X.K T x H) : s.TypeIs v T/\∀a,v=.ref a->∃ob,s.heap.get? a=some ob/\ob.dict=none:=by
 cases x with
 |str z=>
  obtain⟨t,rfl⟩:=r
  cases (show T="str" from ty)
  exact⟨Jy s z t,fun _ e=>nomatch e⟩
 |int i=>
  obtain⟨t,rfl⟩:=r
  cases (show T="int" from ty)
  exact⟨typeIs_int s i t,fun _ e=>nomatch e⟩
 |ref p=>
  cases r
  rcases ty with⟨rfl,xs,hq⟩|⟨rfl,o,hk,hc,hd⟩|⟨rfl,hk⟩|⟨rfl,S,n,hk⟩
  ·obtain⟨its,_,pl,_⟩:=I.list hq;refine⟨pl.isList.typeIs,fun a e=>?_⟩;cases e;obtain⟨o,n,e,c,hd,_⟩:=pl;exact⟨o,e,hd⟩
  ·refine⟨⟨o,I.kIn p o hk,hc⟩,fun a e=>?_⟩;cases e;exact⟨o,I.kIn _ o hk,hd⟩
  ·have z:∃o,s.heap.get? p=some o/\o.ExactDict:=by
    rcases hk with⟨kvs,hk⟩|⟨kvs,hk⟩
    ·obtain⟨_,_,_,_,o,_,_,e,ex,_⟩:=I.hok p _ hk;exact⟨o,e,ex⟩
    ·obtain⟨_,_,_,_,o,_,_,e,ex,_⟩:=I.hok p _ hk;exact⟨o,e,ex⟩
   obtain⟨o,e,ex⟩:=z;refine⟨⟨o,e,ex.1⟩,fun a e2=>?_⟩;cases e2;exact⟨o,e,ex.2.1⟩
  ·obtain⟨o,_,_,_,e,ex,_⟩:=I.hok p _ hk;refine⟨⟨o,e,ex.1⟩,fun a e2=>?_⟩;cases e2;exact⟨o,e,ex.2.1⟩
 |_=>exact IU ty
def tBM(K:cc)(T:String)(r:V->List V->Hp->VK->Prop)(to:TE)(t:TA):TE:=fun σ H Q=>to σ H fun x H1=>tyV K T x H1/\t σ H1 fun xs H2=>r x xs H2 Q
variable{o e:Expr}{es:List Expr}{to:TE}{t:TA}{name:Str}{apos cpos:Pos}{T id:String}{r:V->List V->Hp->VK->Prop}
theorem oQ(pa:PlainAttrs T)(slot:Slot T name id)(hty:typeOf (.builtin id)=pure (.type "method_descriptor"))(hm:MtR X id r)(ho:PE X o to)(ha:PA X (e::es) t)
 (hbase:J5 o name X.env (eval o X.env)=eval o X.env:=by rfl)
 (hfew:((IV cpos (Hc (e::es) X.env)).all (fun x=>!x.1)&&(backToKw cpos (keywordEach [] X.env)).all (fun x=>x.1.isSome)
  && decide ((e::es).length+([]:List Keyword).length+(if([]:List Keyword).isEmpty then 0 else 1)<30))=true:=by rfl)
 (hline:(apos.endLine==cpos.line)=true:=by rfl) (hs:Hc (e::es) X.env=(false,eval e X.env)::Hc es X.env:=by rfl) (hplain:(IV cpos (Hc es X.env)).any (·.1)=false:=by rfl) :
 PE X (.Call (.Attribute o name apos) (e::es) [] cpos) (tBM X.K T r to t):=by
 intro pins s σ H Q I h
 refine wpAny_Call_method_late hbase hfew hline rfl (thn (ho pins s σ H _ I h) fun v s1 zz69_0=>?_)
 obtain⟨x,H1,I1,r1,ty,q1⟩:=zz69_0
 obtain⟨h1,h2⟩:=CZ I1 r1 ty
 refine⟨T,id,pa,slot,hty,h1,h2,?_⟩
 have hA:=ha cpos pins s1 σ H1 _ I1 q1
 rw[hs]at hA ⊢
 refine Calls.callWith_builtin (by show(false||(IV cpos (Hc es X.env)).any (·.1))=false;rw[hplain]<;>rfl) (Calls.evalArgs_plain ?_)
 exact thn hA fun us s2 zz70_0=>by obtain⟨vs,H2,I2,r2,q2⟩:=zz70_0;exact(hm pins s2 σ H2 x vs v us Q I2 r1 r2 q2)
/- xs.append(e),list.index on a module's tuple .. are MtR facts of 06m -/
end
def MtM(X:Cx)(id:String)(r:V->List V->Hp->VK->Prop):Prop:=
 ∀(pins:List (Addr×Obj)) (s:G3) (σ:St) (H:Hp) (x:V) (xs:List V) (v:G0) (us:List G0) (Q:VK),Inv X pins σ H s->RelV x v->Vals xs us->r x xs H Q->
  Hf (Hm X.prog X.w) X.A (call (.builtin id) (v::us)) (EP X pins σ Q) X.xe s
theorem Vals.one:∀{x:V} {us:List G0},Vals [x] us->∃u,us=[u]/\RelV x u
 |_,_,.cons r .nil=>⟨_,rfl,r⟩
section
variable{X:Cx}{pins:List (Addr×Obj)}{σ:St}{H:Hp}{s:G3}{l b:Addr}{xs ys zs:List V}
theorem Inv.FX{its its':List G0}{n:Nat}{f:Array G0->Array G0}{t':Nat}(I:Inv X pins σ H s)(hH:H l=some (.lst xs))
 (e:s.heap.get? l=some { cls:=.type "list",data:=.seq its.toArray n }) (hf:f its.toArray=its'.toArray) (hv:Vals ys its') (hz:ys.length<=GX) :
 Inv X pins σ (upd H l (.lst ys)) { s with heap:=s.heap.update l (Obj.mapSeq f),toks:=t' }:=by
 have q:=PySem.IsL.update e f
 rw[hf]at q
 refine I.write (x:=l) (e:=l) (by rw[hH];exact trivial) (.inl rfl) (fun b' u hb hu=>(Hs s.heap (Obj.mapSeq f) (Ne.symm hb)).trans hu) ⟨_,q⟩ ?_
 exact⟨hz,its',_,hv,q⟩
theorem Inv.FV{its:List G0}{t':Nat}(I:Inv X pins σ H s)(hv:Vals ys its)(hz:ys.length<=GX) : Inv X pins σ (upd H s.heap.objs.size (.lst ys)) { s with heap:=s.heap.push { cls:=.type "list",data:=.seq its.toArray },toks:=t' }:=I.laid (fun _ _ q=>G5 _ q) (GY _) ⟨hz,its,0,hv,Hk _ rfl⟩
theorem Inv.fresh(I:Inv X pins σ H s):H s.heap.objs.size=none:=I.hok.fresh (GY _)
theorem Inv.xP(I:Inv X pins σ H s)(hH:H l=some (.lst xs)):xs.length<=GX/\∃(its:List G0) (n:Nat),Vals xs its/\xs.length=its.length/\s.heap.get? l=some { cls:=.type "list",data:=.seq its.toArray n }:=by obtain⟨z,its,n,r,e⟩:=I.hok l _ hH;exact⟨z,its,n,r,r.length,e⟩
end
section
variable{X:Cx}
def Ak:V->List V->Hp->VK->Prop:=fun x vs H Q=>∃l xs y,x=.ref l/\vs=[y]/\H l=some (.lst xs)/\xs.length<GX/\Q .non (upd H l (.lst (xs++[y])))
theorem nE:MtM X "list.append" Ak:=by intro pins s σ H x vs v us Q I rx rv h;obtain⟨l,xs,y,rfl,rfl,hH,hz,q⟩:=h;cases rx;obtain⟨u,rfl,ru⟩:=rv.one;obtain⟨z,its,n,r,hl,e⟩:=I.xP hH;refine call_meets F.slot_list_append ⟨_,e,rfl⟩ F.entry_list_append (F.args_list_append_2 _ _) (PySem.list_append l its.toArray n u (by rw[Hg];omega)) ⟨e,?_⟩;refine⟨.non,_,I.FX (its':=its++[u]) hH e (by simp) (r.append (.cons ru .nil)) ?_,rfl,q⟩;rw[ID,List.length_singleton];omega
def F5:R2:=fun x y H Q=>∃l b xs zs,x=.ref l/\y=.ref b/\H l=some (.lst xs)/\H b=some (.lst zs)/\xs.length+zs.length<=GX/\∀p,H p=none->Q (.ref p) (upd H p (.lst (xs++zs)))
theorem DX:OpR X (J2 .Add) F5:=by
 intro pins s σ H x y v u Q I rx ry h;obtain⟨l,b,xs,zs,rfl,rfl,hH,hB,hz,q⟩:=h;cases rx;cases ry;obtain⟨z,its,n,r,hl,e⟩:=I.xP hH;obtain⟨z2,its2,n2,r2,hl2,e2⟩:=I.xP hB;refine PySem.P.add_list e e2 ?_ (by rw[Hg,Hg];omega);have ea:its.toArray++its2.toArray=(its++its2).toArray:=by simp
 rw[ea];exact⟨.ref _,_,I.FV (t':=s.toks) (r.append r2) (by rw[ID];omega),rfl,q _ I.fresh⟩
end
section
variable{prog:Hi}{w:HL}{A:HM}{E:G0->G3->Prop}{s:G3}
end
section
variable{X:Cx}
end
end L2
namespace Att
open PySem PySem.W PySem.Calls PyProof.Rows
theorem kB{P:GW}{h:Heap}:∀(ns:List Int) (vs:List G0),WellAll P h vs (ns.map WData.int)->IE vs ns:=by
 intro ns
 induction ns with
 |nil=>
  intro vs w
  rw[List.map_nil]at w
  cases w
  exact .nil
 |cons n ns ih=>
  intro vs w
  rw[Ho]at w
  cases w with
  |cons a b=>
   cases a
   exact .cons _ _ (ih _ b)
theorem wZ{l:OpenLaw}{n:Nat}(hn:l.most=some n){P:GW}{h:Heap}{args:List WData}{vals:List G0}
 (hpre:l.row.toRowW.claim.pre args=true) (hwl:WellAll P h vals args) :
 ∃a vs ns,vals=[Iq a]/\args=[WData.list (ns.map WData.int)]/\h.get? a=some { cls:=.type "list",data:=.seq vs.toArray }/\IE vs ns/\ns.length<=n:=by
 have hsh:WShape.hasAll [] args [.list .int]=true:=(pre_splitW hpre).1
 have hc:l.pre.holds [] { args:=args }=true:=(pre_splitW hpre).2
 obtain⟨d,r,rfl,h1,h2⟩:=hasAllW_cons hsh
 obtain rfl:=hasAllW_nil h2
 obtain⟨xs,rfl,h3⟩:=hasW_list h1
 obtain⟨ns,rfl⟩:=items_int h3
 have hlen:ns.length<=n:=by
  unfold OpenLaw.pre at hc
  have h4:(WTm.not (.lt (.lit (.int (n:Int))) (.len (.arg 0)))).holds [] { args:=[.list (ns.map .int)] }=true:=by
   have h4:=(holds_andW hc).1
   rw[hn]at h4
   exact h4
  have h5:=condW_of h4 (w_not (w_lt w_lit (w_len_list (w_arg rfl))))
  rw[G4]at h5
  refine Nat.le_of_not_lt fun q=>?_
  have q':(n:Int)<((ns.length:Nat):Int):=by omega
  first
   |(rw[decide_eq_true q']at h5;exact absurd h5 (by decide))
   |(simp at h5;omega)
 cases hwl with
 |cons w1 w2=>
  cases w2
  cases w1 with
  |list ho hall=>exact⟨_,_,ns,rfl,rfl,ho,kB ns _ hall,hlen⟩
theorem vP(l:OpenLaw)(args:List WData):l.row.toRowW.claim.post args (.bool true) args=true:=
 postW_of (r:=l.row.toRowW) (X:=(true==true))
  (show WShape.has [] (.bool true) .bool=true by first|rfl|decide|simp[WShape.has,WShape.arms,WShape.armsAll])
  (show(WTm.eq .res (.lit (.bool true))).value [] { args:=args,res:=some (.bool true),after:=args }=some (.bool (true==true))from w_eq_bool (w_res rfl) w_lit) rfl
theorem qU{l:OpenLaw}{n:Nat}{q:Hi}{loose:List Str}{XP:(Str->Option G0)->Heap->Prop}{YP:HL->Heap->Prop}{d:DefRec}
 (hn:l.most=some n) (hdf:d.params.defaults=[])
 (call:∀(w:HL) (s₀ s₁:G3) (mg mb:Str->Option G0) (fa:Addr) (o:Obj) (pm cd doc:G0) (a:Addr) (vs:List G0) (ns:List Int),
  Ground q loose [] XP w s₀ mg mb s₁.heap->YP w s₁.heap->
  s₁.heap.get? fa=some o->o.data=.func (docDef d.name d.params d.body d.scope pm cd doc)->s₁.heap.CodeRec cd d.name->mg d.name=some (.ref fa)->
  s₁.heap.get? a=some { cls:=.type "list",data:=.seq vs.toArray }->IE vs ns->ns.length<=n->s₁.gens=#[]->
  codeAny (Hm l.prog w) callerA (.call (.ref fa) ⟨[.ref a],[]⟩) (fun r s'=>r=.ok (.ret (.bool true))/\OldK s₁.heap s'.heap/\s'.os=s₁.os/\AllBare s'.gens) s₁) :
 WalkO q loose XP YP l.row.toRowW d [] (fun f vs=>PySem.call f vs):=by
 intro w s₀ s₁ mg mb G Y fa o pm cd doc dV kV ho hd hcd hD hmg hg args vals as hpre hlay hrd hwl hlo
 obtain rfl:dV=.none:=Dflts.none hD hdf
 obtain rfl:kV=.none:=Dflts.noKw hD
 obtain⟨a,vs,ns,rfl,rfl,hobj,hints,hlen⟩:=wZ hn hpre hwl
 refine enter_call (codeAny_mono (call w s₀ s₁ mg mb fa o pm cd doc a vs ns G Y ho (fd_plain hd) hcd hmg hobj hints hlen hg) fun r s' hq=>?_)
 obtain⟨rfl,h2,h3,h4⟩:=hq
 exact⟨.inl ⟨.bool true,.bool true,[],rfl,fun _=>rfl,.bool true,vP l _,fun _=>⟨List.Pairwise.nil,fun _ hm=>(nomatch hm)⟩⟩,h2,h3,h4⟩
section
variable{prog:Hi}{w:HL}{A:HM}{E:G0->G3->Prop}{s:G3}{K:Frag}
end
end Att
namespace L2
open PySem PySem.Spec PyProof.Rows
theorem oR:∀{vs:List G0} {ns:List Int},IE vs ns->Vals (ns.map V.int) vs
 |_,_,.nil=>.nil
 |_,_,.cons n t h=>.cons ⟨t,rfl⟩ (oR h)
def Df(H:Hp):Prop:=∀b,H b=none\/∃o xs,H b=some (.frz o (.lst xs))
theorem yV{P:Hi}{w:HL}{K:cc}{mg mb:Str->Option G0}{CX:CXT}{k:Nat}{fa a:Addr}{fd:Jc}{x:Str}{sp:Sp}{s₁:G3}{vs:List G0}{ns:List Int}
 (KX:K.In s₁.heap) (hns:s₁.heap.Ns HK mg) (hb:s₁.heap.Ns builtinsNs mb) (hbb:∀x:Str,x≠"__name__"->mb x=HX x) (hlim:s₁.heap.NoLimit) (hg:s₁.gens=#[])
 (ha:s₁.heap.get? a=some { cls:=.type "list",data:=.seq vs.toArray }) (hi:IE vs ns) (hl:ns.length<=GX) (hr:Room k callerA)
 (F:∀base:Heap,K.In base->base.Ns HK mg->FnOk P w K mg base CX k fa fd [x] sp) (hbind:∀(s:G3) (u:G0),BindsTo s fd ⟨[u],[]⟩ [(x,u)])
 (hsp:∀H:Hp,Df H->SqL K H a (ns.map V.int)->sp [.ref a] H (fun v _=>v=.bl true) fun _ _ _=>False)
 (hCX:∀H e s',CX [] H s₁ (fun _ _ _=>False) e s'->False) :
 codeAny (Hm P w) callerA (.call (.ref fa) ⟨[.ref a],[]⟩) (fun r s'=>r=.ok (.ret (.bool true))/\OldK s₁.heap s'.heap/\s'.os=s₁.os/\AllBare s'.gens) s₁:=by
 have rv:=oR hi
 have lenV:=hi.length
 have core:∀H:Hp,Df H->SqL K H a (ns.map V.int)->HOk P w H s₁.heap->(∀b,H b≠none->b=a)->(H a≠none->K.lookup a=none)->
  codeAny (Hm P w) callerA (.call (.ref fa) ⟨[.ref a],[]⟩) (fun r s'=>r=.ok (.ret (.bool true))/\OldK s₁.heap s'.heap/\s'.os=s₁.os/\AllBare s'.gens) s₁:=by
  intro H hO hS hok hA hK
  have base_of:∀{b:Addr} {o:Obj},s₁.heap.get? b=some o->H b=none->(qc s₁.heap H).get? b=some o:=fun e n=>xy e n
  have noA:∀{b:Addr} {o:Obj} {es:Array Iz} {ep:Nat},s₁.heap.get? b=some o->o.data=.dict es ep->H b=none:=fun{b o es ep} e d=>by
   cases q:H b with
   |none=>rfl
   |some u=>
    have e':b=a:=hA b (by rw[q];simp)
    subst e'
    rw[ha]at e;cases e
    have d':Data.seq vs.toArray _=Data.dict es ep:=d
    cases d'
  have nsK:∀{b:Addr} {m:Str->Option G0},s₁.heap.Ns b m->(qc s₁.heap H).Ns b m:=fun{b m} zz73_0=>by obtain⟨o,es,ep,e,d,r⟩:=zz73_0;exact(⟨o,es,ep,base_of e (noA e d),d,r⟩)
  have hKb:K.In (qc s₁.heap H):=fun b o e=>base_of (KX b o e) (by
   cases q:H b with
   |none=>rfl
   |some u=>
    have e':b=a:=hA b (by rw[q];simp)
    subst e'
    rw[hK (by rw[q];simp)]at e;cases e)
  have hM:Mod K mg (qc s₁.heap H):=⟨hKb,nsK hns,⟨mb,nsK hb,hbb⟩,let⟨mc,h1,h2⟩:=hlim;⟨mc,nsK h1,h2⟩⟩
  have e0:Env0 P w K mg (qc s₁.heap H) callerA [] s₁ H:=⟨rfl,hM,fun b o e=>Bm e,Nat.le_of_eq (wL _ _),trivial,fun b hb=>absurd (show b∈([]:List Addr)from hb) (by simp),hok,.of_eq hg⟩
  refine codeAny_mono ((F _ hKb (nsK hns)).run callerA [] s₁ H ⟨[.ref a],[]⟩ [.ref a] [.ref a] _ _ hr e0 (hbind s₁ (.ref a)) (.cons rfl .nil) (hsp H hO hS)) fun r s' h=>?_
  cases r with
  |error e=>exact(hCX H e s' h).elim
  |ok fl=>
   cases fl with
   |next=>exact IU h
   |brk=>exact IU h
   |cont=>exact IU h
   |ret u=>
    obtain⟨v,H',os,bare,un,hok',r',q⟩:=h
    have q':v=.bl true:=q
    subst q'
    obtain rfl:u=IM true:=r'
    refine⟨rfl,OldK.of_keep fun b o e=>?_,os,bare⟩
    cases q:H b with
    |none=>exact un.keep b o e q (by intro z;exact absurd (show b∈([]:List Addr)from z) (by simp)) (by simp)
    |some u=>
     rcases hO b with z|⟨ob,xs,z⟩
     ·rw[q]at z;cases z
     ·have z2:=un.frzs b ob _ z
      obtain⟨e1,_⟩:=hok b _ z
      obtain⟨e2,_⟩:=hok' b _ z2
      rw[e]at e1;cases e1
      exact e2
 cases hk:K.lookup a with
 |some o=>
  have e:=KX a o hk
  rw[ha]at e
  cases e
  refine core (fun _=>none) (fun _=>.inl rfl) (.inr ⟨_,vs.toArray,_,hk,rfl,rfl,rfl,by rw[Hg,lenV];exact hl,by simpa using rv⟩) (fun b u z=>by have z':(none:Option HO)=some u:=z;cases z') (fun b z=>absurd rfl z) fun z=>absurd rfl z
 |none=>
  refine core (fun b=>if b=a then some (.frz { cls:=.type "list",data:=.seq vs.toArray } (.lst (ns.map V.int)))else none) (fun b=>?_) (.inl (.inr ⟨{ cls:=.type "list",data:=.seq vs.toArray },if_pos rfl⟩)) (fun b u z=>?_) (fun b z=>?_) fun _=>hk
  ·by_cases hb:b=a
   ·exact .inr ⟨_,_,if_pos hb⟩
   ·exact .inl (if_neg hb)
  ·by_cases hb:b=a
   ·have z':=(if_pos hb).symm.trans z
    cases z'
    subst hb
    exact⟨ha,by rw[G4];exact hl,vs,_,rv,ha⟩
   ·have z':=(if_neg hb).symm.trans z
    cases z'
  ·by_cases hb:b=a
   ·exact hb
   ·exact absurd (if_neg hb) z
abbrev KOf{K:cc}{h:Heap}(_:K.In h):cc:=K
theorem Ah{l:PySem.W.OpenLaw}{n k:Nat}{q:Hi}{loose:List Str}{XP:(Str->Option G0)->Heap->Prop}{YP:HL->Heap->Prop}{d:DefRec}{K:GW->cc}{CX:HL->CXT}{sp:HL->Sp}{x:Str}
 (hn:l.most=some n) (hn2:n<=GX) (hdf:d.params.defaults=[]) (hr:Room k callerA)
 (hY:∀(w:HL) (h:Heap),YP w h->(K w.params).In h)
 (F:∀(w:HL) (mg:Str->Option G0) (fa:Addr) (h:Heap),(K w.params).In h->h.Ns HK mg->mg d.name=some (.ref fa)->
  ∃fd:Jc,(∀(s:G3) (u:G0),BindsTo s fd ⟨[u],[]⟩ [(x,u)])/\
   ∀base:Heap,(K w.params).In base->base.Ns HK mg->FnOk l.prog w (K w.params) mg base (CX w) k fa fd [x] (sp w))
 (hsp:∀(w:HL) (H:Hp) (a:Addr) (ns:List Int),ns.length<=n->Df H->SqL (K w.params) H a (ns.map V.int)->sp w [.ref a] H (fun v _=>v=.bl true) fun _ _ _=>False)
 (hCX:∀(w:HL) (H:Hp) (s:G3) (e:G0) (s':G3),CX w [] H s (fun _ _ _=>False) e s'->False) :
 PySem.W.WalkO q loose XP YP l.row.toRowW d [] (fun f vs=>PySem.call f vs):=by
 refine Att.qU hn hdf fun w s₀ s₁ mg mb fa o pm cd doc a vs ns G Y ho hd hcd hmg hobj hints hlen hg=>?_
 have KX:=hY w _ Y
 obtain⟨fd,hb,hF⟩:=F w mg fa _ KX G.T.g hmg
 exact yV KX G.T.g G.T.b G.T.builtins G.T.nolimit hg hobj hints (He hlen hn2) hr hF hb (fun H hO hS=>hsp w H a ns hlen hO hS) fun H e s'=>hCX w H s₁ e s'
def cb(s:Stmt):Arguments:=match s with
 |.FunctionDef _ a _ _ _ _ _ _ _ _=>a
 |_=>{ posonlyargs:=[],args:=[],vararg:=none,kwonlyargs:=[],kw_defaults:=[],kwarg:=none,defaults:=[] }
def bo(s:Stmt):List Stmt:=match s with
 |.FunctionDef _ _ b _ _ _ _ _ _ _=>b
 |_=>[]
def aq(s:Stmt):JH:=match s with
 |.FunctionDef _ _ _ _ _ _ sc _ _ _=>sc
 |_=>{ kind:=.function,names:=[],isGenerator:=false,isCoroutine:=false }
abbrev CX0:CXT:=fun _ _ _ _ _ _=>False
abbrev E0:XK:=fun _ _ _=>False
theorem FK{X:Cx}:Passes CX0 X E0:=fun _ _ _ _ _ _ _ h=>h.elim
structure Fun(K:cc)(x qual:Str)(st:Stmt)(f:Addr)(fd:Jc):Prop where
 ex:∃(oc:G0) (od:Option Addr) (kV doc pm:G0) (an:Option Addr) (cdv ct:G0) (osl:Array (Option G0)),
  fd=IQ x qual (cb st) (bo st) (aq st) .none kV doc pm an cdv ct/\K.lookup f=some ⟨oc,od,.func fd,osl⟩/\PySem.W.codeIn K cdv qual=true
 kp:Jd K (.ref f)=true
section
variable{P:Hi}{w:HL}{K:cc}{mg:Str->Option G0}{base:Heap}
theorem Fun.ok{x qual:Str}{st:Stmt}{f:Addr}{fd:Jc}{N ps:List Str}{k:Nat}{sp:Sp}(F:Fun K x qual st f fd)(S:FnScope N ps (aq st))(len:∀vs H Q E,sp vs H Q E->vs.length=ps.length)
 (hbody:∀(cdv:G0) (A:HM) (outer:List Env) (s:G3) (H:Hp) (vs:List V) (Q:VK) (E:XK),Room k (A.deeper (envOfC qual (aq st) s.heap.objs.size f cdv))->sp vs H Q E->
  ∃t,PSs (bQ CX0 P w K mg base N qual (aq st) f cdv A outer s H E).nox (bo st) t/\t { nx:=fun _ H'=>Q .non H',rt:=Q } (start N vs) H):FnOk P w K mg base CX0 (k+1) f fd ps sp:=by
 obtain⟨oc,od,kV,doc,pm,an,cdv,ct,osl,rfl,lk,hcd⟩:=F.ex
 refine BK lk hcd S len fun A outer s H vs Q E hr hsp=>?_
 obtain⟨t,h,q⟩:=hbody cdv A outer s H vs Q E hr hsp
 exact⟨t,h.nox,q⟩
theorem Fun.binds{x qual:Str}{st:Stmt}{f:Addr}{fd:Jc}{ps:List Str}(F:Fun K x qual st f fd) (h:∀(kV doc pm:G0) (an:Option Addr) (cdv ct:G0) (us:List G0),us.length=ps.length->bindArgs (IQ x qual (cb st) (bo st) (aq st) .none kV doc pm an cdv ct) ⟨us,[]⟩=pure (ps.zip us)):Binds K fd ps []:=by obtain⟨oc,od,kV,doc,pm,an,cdv,ct,osl,rfl,lk,hcd⟩:=F.ex;exact .all (h kV doc pm an cdv ct)
theorem zr{x qual:Str}{st:Stmt}{f:Addr}{oc:G0}{od an:Option Addr}{osl:Array (Option G0)}{kV doc pm cdv ct:G0}(l:K.lookup f=some ⟨oc,od,.func (IQ x qual (cb st) (bo st) (aq st) .none kV doc pm an cdv ct),osl⟩) (c:PySem.W.codeIn K cdv qual=true) (k:Jd K (.ref f)=true):Fun K x qual st f (IQ x qual (cb st) (bo st) (aq st) .none kV doc pm an cdv ct):=⟨⟨oc,od,kV,doc,pm,an,cdv,ct,osl,rfl,l,c⟩,k⟩
end
section
variable{X:Cx}
theorem pv(i:Nat){x:Str}{pos:Pos}(hN:X.N[i]?=some x:=by rfl)(hv:Vis X.env.scope x:=by first|exact Or.inl rfl|exact Or.inr (Or.inl rfl)|exact Or.inr (Or.inr rfl))(hd:(x==("__debug__":Str))=false:=by decide) (hcd:(x==("__classdict__":Str))=false:=by decide):PE X (.Name x pos) (yj i):=zy hN hv hd hcd
end
theorem E6{A B:Prop}(h:A):if true=true then A else B:=by rw[if_pos rfl];exact h
theorem bj{c A B:Prop}[Decidable c](h1:c->A)(h2:¬c->B):if c then A else B:=by
 by_cases h:c
 ·rw[if_pos h];exact h1 h
 ·rw[if_neg h];exact h2 h
end L2
namespace SD
theorem xR{α:Type}{l:List α}(h:l.length=1):∃a,l=[a]:=by
 cases l with
 |nil=>cases h
 |cons a l=>
  cases l with
  |nil=>exact⟨a,rfl⟩
  |cons b l=>cases h
theorem Gq{α:Type}{n:Nat}{l:List α}(h:l.length=n+1):∃a r,l=a::r/\r.length=n:=by
 cases l with
 |nil=>cases h
 |cons a l=>exact⟨a,l,rfl,Nat.succ.inj h⟩
theorem zR{α:Type}{l:List α}(h:l.length=2):∃a b,l=[a,b]:=by obtain⟨a,r,rfl,h2⟩:=Gq h;obtain⟨b,rfl⟩:=xR h2;exact⟨a,b,rfl⟩
open PySem PySem.Spec PyProof.Rows L2
inductive D where
 |non|bl (b:Bool)|int (i:Int)|str (x:Str)|ty (n:String)|ref (a:Addr)|rol (ds:List D)|tup (ds:List D)
def SqF(K:cc)(H:Hp)(a:Addr)(xs:List V):Prop:=
 (∃o,H a=some (.frz o (.lst xs)))\/
  ∃(o:Obj) (its:Array G0) (n:Nat),K.lookup a=some o/\o.cls=.type "list"/\o.dict=none/\o.data=.seq its n/\its.size<=GX/\Vals xs its.toList
theorem SqF.sql{K:cc}{H:Hp}{a:Addr}{xs:List V}(h:SqF K H a xs):SqL K H a xs:=by
 rcases h with h|h
 ·exact .inl (.inr h)
 ·exact .inr h
mutual
def Rep(K:cc)(H:Hp):D->V->Prop
 |.non,v=>v=.non
 |.bl b,v=>v=.bl b
 |.int i,v=>v=.int i
 |.str x,v=>v=.str x
 |.ty n,v=>v=.ty n
 |.ref a,v=>v=.ref a
 |.rol ds,v=>∃a xs,v=.ref a/\SqF K H a xs/\aK K H ds xs
 |.tup ds,v=>∃a xs,v=.ref a/\SqT K H a xs/\aK K H ds xs
def aK(K:cc)(H:Hp):List D->List V->Prop
 |[],xs=>xs=[]
 |d::ds,xs=>∃x r,xs=x::r/\Rep K H d x/\aK K H ds r
end
structure Grow(K:cc)(H H':Hp):Prop where
 t:∀a xs,SqT K H a xs->SqT K H' a xs
 f:∀a xs,SqF K H a xs->SqF K H' a xs
theorem Grow.refl{K:cc}{H:Hp}:Grow K H H:=⟨fun _ _ h=>h,fun _ _ h=>h⟩
theorem Grow.trans{K:cc}{H H1 H2:Hp}(a:Grow K H H1)(b:Grow K H1 H2):Grow K H H2:=⟨fun x y h=>b.t x y (a.t x y h),fun x y h=>b.f x y (a.f x y h)⟩
theorem Grow.put{K:cc}{H:Hp}{p:Addr}{o:HO}(h1:∀xs,H p≠some (.tup xs))(h2:∀u xs,H p≠some (.frz u xs)):Grow K H (upd H p o):=by
 refine⟨fun a xs h=>?_,fun a xs h=>?_⟩
 ·rcases h with(h|⟨u,h⟩)|h
  ·exact .inl (.inl (by rw[aR (by intro e;subst e;exact h1 _ h)];exact h))
  ·exact .inl (.inr ⟨u,by rw[aR (by intro e;subst e;exact h2 _ _ h)];exact h⟩)
  ·exact .inr h
 ·rcases h with⟨u,h⟩|h
  ·exact .inl ⟨u,by rw[aR (by intro e;subst e;exact h2 _ _ h)];exact h⟩
  ·exact .inr h
theorem Grow.new{K:cc}{H:Hp}{p:Addr}{o:HO}(h:H p=none):Grow K H (upd H p o):=.put (fun xs e=>by rw[h]at e;cases e) (fun u xs e=>by rw[h]at e;cases e)
theorem Grow.lst{K:cc}{H:Hp}{p:Addr}{o:HO}{xs:List V}(h:H p=some (.lst xs)):Grow K H (upd H p o):=.put (fun ys e=>by rw[h]at e;cases e) (fun u ys e=>by rw[h]at e;cases e)
mutual
theorem Rep.mono{K:cc}{H H':Hp}(g:Grow K H H'):∀{d:D} {v:V},Rep K H d v->Rep K H' d v
 |.non,_,h=>h
 |.bl _,_,h=>h
 |.int _,_,h=>h
 |.str _,_,h=>h
 |.ty _,_,h=>h
 |.ref _,_,h=>h
 |.rol ds,_,h=>by
  rw[Rep]at h ⊢
  obtain⟨a,xs,e,h1,h2⟩:=h
  exact⟨a,xs,e,g.f _ _ h1,aK.mono g h2⟩
 |.tup ds,_,h=>by
  rw[Rep]at h ⊢
  obtain⟨a,xs,e,h1,h2⟩:=h
  exact⟨a,xs,e,g.t _ _ h1,aK.mono g h2⟩
theorem aK.mono{K:cc}{H H':Hp}(g:Grow K H H'):∀{ds:List D} {xs:List V},aK K H ds xs->aK K H' ds xs
 |[],_,h=>h
 |d::ds,_,h=>by
  rw[aK]at h ⊢
  obtain⟨x,r,e,h1,h2⟩:=h
  exact⟨x,r,e,Rep.mono g h1,aK.mono g h2⟩
end
section
variable{K:cc}{H H':Hp}
theorem aK.nil:aK K H [] []:=by rw[aK]
theorem aK.cons{d:D}{ds:List D}{x:V}{r:List V}(a:Rep K H d x)(b:aK K H ds r):aK K H (d::ds) (x::r):=by rw[aK];exact⟨x,r,rfl,a,b⟩
theorem aK.length:∀{ds:List D} {xs:List V},aK K H ds xs->ds.length=xs.length
 |[],xs,h=>by rw[aK]at h;subst h;rfl
 |d::ds,xs,h=>by
  rw[aK]at h
  obtain⟨x,r,rfl,_,h2⟩:=h
  simp[aK.length h2]
theorem aK.get:∀{ds:List D} {xs:List V} {i:Nat} {d:D},aK K H ds xs->ds[i]?=some d->∃x,xs[i]?=some x/\Rep K H d x
 |[],_,_,_,_,e=>by simp at e
 |_::_,xs,0,_,h,e=>by
  rw[aK]at h
  obtain⟨x,r,rfl,h1,_⟩:=h
  simp at e;subst e
  exact⟨x,rfl,h1⟩
 |_::ds,xs,i+1,d,h,e=>by
  rw[aK]at h
  obtain⟨x,r,rfl,_,h2⟩:=h
  simpa using aK.get (i:=i) (d:=d) h2 (by simpa using e)
theorem aK.set{d:D}{x:V}(a:Rep K H d x):∀{ds:List D} {xs:List V} (i:Nat),aK K H ds xs->aK K H (ds.set i d) (xs.set i x)
 |[],_,_,h=>by rw[aK]at h;subst h;simp[aK.nil]
 |_::_,_,0,h=>by
  rw[aK]at h
  obtain⟨y,r,rfl,_,h2⟩:=h
  exact .cons a h2
 |_::ds,_,i+1,h=>by
  rw[aK]at h
  obtain⟨y,r,rfl,h1,h2⟩:=h
  exact .cons h1 (aK.set a i h2)
theorem aK.append:∀{ds es:List D} {xs ys:List V},aK K H ds xs->aK K H es ys->aK K H (ds++es) (xs++ys)
 |[],_,_,_,h,k=>by rw[aK]at h;subst h;exact k
 |_::ds,_,_,_,h,k=>by
  rw[aK]at h
  obtain⟨y,r,rfl,h1,h2⟩:=h
  exact .cons h1 (aK.append h2 k)
theorem aK.of_get:∀{ds:List D} {xs:List V},ds.length=xs.length->(∀(i:Nat) d x,ds[i]?=some d->xs[i]?=some x->Rep K H d x)->aK K H ds xs
 |[],[],_,_=>.nil
 |[],_::_,h,_=>by simp at h
 |_::_,[],h,_=>by simp at h
 |d::ds,x::xs,h,k=>.cons (k 0 d x rfl rfl) (aK.of_get (by simpa using h) fun i d x a b=>k (i+1) d x (by simpa using a) (by simpa using b))
theorem aK.take{ds:List D}{xs:List V}(n:Nat)(h:aK K H ds xs):aK K H (ds.take n) (xs.take n):=by
 refine .of_get (by simp[h.length]) fun i d x a b=>?_
 have hi:i<n:=by
  rw[List.getElem?_take]at a;split at a
  ·assumption
  ·cases a
 rw[List.getElem?_take_of_lt hi]at a b;obtain⟨y,e,r⟩:=h.get a;rw[e]at b;cases b;exact r
theorem aK.drop{ds:List D}{xs:List V}(n:Nat)(h:aK K H ds xs):aK K H (ds.drop n) (xs.drop n):=by refine .of_get (by simp[h.length]) fun i d x a b=>?_;rw[List.getElem?_drop]at a b;obtain⟨y,e,r⟩:=h.get a;rw[e]at b;cases b;exact r
theorem n6:∀(ns:List Int),aK K H (ns.map D.int) (ns.map V.int)
 |[]=>.nil
 |n::ns=>.cons (by rw[Rep]) (n6 ns)
end
def GF(a C:Addr):Heap->Prop:=fun h=>∃o,h.get? a=some o/\o.cls=.ref C
inductive MO where
 |lst (ds:List D)|err (C:Addr)
 |dct (n:Nat) (P:List Int->Bool)
 |gen (A:cc->Hp->Addr->Prop)
abbrev MH:=Addr->Option MO
def qb(K:cc)(H:Hp)(a:Addr):MO->Prop
 |.lst ds=>∃xs,H a=some (.lst xs)/\aK K H ds xs
 |.err C=>H a=some (.ext (GF a C))
 |.dct n P=>∃kvs:List (List Key×V),H a=some (.dT kvs)/\kvs.length<=n/\∀k:List Int,(kvs.any fun kv=>decide (kv.1=k.map Sum.inl))=P k
 |.gen A=>A K H a/\H a≠none/\∀H',Grow K H H'->H' a=H a->A K H' a
def Abs(K:cc)(H:Hp)(M:MH):Prop:=∀a o,M a=some o->qb K H a o
def av(M:MH)(a:Addr)(o:MO):MH:=fun b=>if b=a then some o else M b
theorem ag{M:MH}{a:Addr}{o:MO}:av M a o a=some o:=by unfold av;rw[if_pos rfl]
theorem ao{M:MH}{a b:Addr}{o:MO}(h:b≠a):av M a o b=M b:=by unfold av;rw[if_neg h]
theorem cS{M:MH}{a:Addr}{o u:MO}:av (av M a o) a u=av M a u:=by funext b;unfold av;split<;>rfl
section
variable{K:cc}{H H':Hp}{M:MH}
theorem qb.some{a:Addr}{o:MO}(h:qb K H a o):H a≠none:=by
 cases o with
 |lst ds=>
  obtain⟨xs,h1,_⟩:=h
  rw[h1];simp
 |err C=>rw[show H a=_ from h];simp
 |dct n P=>
  obtain⟨kvs,h1,_⟩:=h
  rw[h1];simp
 |gen A=>exact h.2.1
theorem Abs.fresh(h:Abs K H M){p:Addr}(hp:H p=none):M p=none:=by
 cases e:M p with
 |none=>rfl
 |some o=>exact absurd hp (h p o e).some
theorem qb.gw{a:Addr}{o:MO}(g:Grow K H H')(e:H' a=H a)(h:qb K H a o):qb K H' a o:=by
 cases o with
 |lst ds=>
  obtain⟨xs,h1,h2⟩:=h
  exact⟨xs,e.trans h1,h2.mono g⟩
 |err C=>exact e.trans h
 |dct n P=>
  obtain⟨kvs,h1,h2⟩:=h
  exact⟨kvs,e.trans h1,h2⟩
 |gen A=>exact⟨h.2.2 H' g e,fun z=>h.2.1 (by rw[<-e];exact z),fun H2 g2 e2=>h.2.2 H2 (g.trans g2) (e2.trans e)⟩
theorem Abs.new{p:Addr}{o:HO}(h:Abs K H M)(hp:H p=none):Abs K (upd H p o) M:=fun a u e=>by
 have ne:a≠p:=fun z=>by subst z;rw[h.fresh hp]at e;cases e
 exact(h a u e).gw (.new hp) (aR ne)
theorem Abs.kJ{p:Addr}{xs:List V}{ds:List D}(h:Abs K H M)(hp:H p=none)(r:aK K H ds xs):Abs K (upd H p (.lst xs)) (av M p (.lst ds)):=fun a u e=>by
 by_cases ne:a=p
 ·subst ne;rw[ag]at e;cases e;exact⟨xs,aY,r.mono (.new hp)⟩
 ·rw[ao ne]at e;exact(h a u e).gw (.new hp) (aR ne)
theorem Abs.C1{p:Addr}{xs ys:List V}{ds:List D}(h:Abs K H M)(hp:H p=some (.lst xs))(r:aK K H ds ys):Abs K (upd H p (.lst ys)) (av M p (.lst ds)):=fun a u e=>by
 by_cases ne:a=p
 ·subst ne;rw[ag]at e;cases e;exact⟨ys,aY,r.mono (.lst hp)⟩
 ·rw[ao ne]at e;exact(h a u e).gw (.lst hp) (aR ne)
theorem Abs.sub{M':MH}(h:Abs K H M)(s:∀a o,M' a=some o->M a=some o):Abs K H M':=fun a o e=>h a o (s a o e)
end
abbrev DS:=List (Option D)
structure Slots(K:cc)(H:Hp)(δ:DS)(σ:L2.St):Prop where
 len:δ.length=σ.length
 at':∀(i:Nat) d,δ[i]?=some (some d)->∃v,σ[i]?=some (some v)/\Rep K H d v
section
variable{K:cc}{H H':Hp}{δ:DS}{σ:L2.St}
theorem Slots.mono(g:Grow K H H')(h:Slots K H δ σ):Slots K H' δ σ:=⟨h.len,fun i d e=>let⟨v,a,b⟩:=h.at' i d e;⟨v,a,b.mono g⟩⟩
theorem Slots.set{d:D}{v:V}(r:Rep K H d v)(i:Nat)(h:Slots K H δ σ):Slots K H (δ.set i (some d)) (σ.set i (some v)):=by
 refine⟨by simp[h.len],fun j e q=>?_⟩;rw[List.getElem?_set]at q;by_cases hij:i=j
 ·subst hij;rw[if_pos rfl]at q;by_cases hl:i<δ.length
  ·rw[if_pos hl]at q;cases q;exact⟨v,by rw[List.getElem?_set,if_pos rfl,if_pos (by rw[<-h.len];exact hl)],r⟩
  ·rw[if_neg hl]at q;cases q
 ·rw[if_neg hij]at q;obtain⟨v',e1,e2⟩:=h.at' j e q;exact⟨v',by rw[List.getElem?_set,if_neg hij];exact e1,e2⟩
theorem kq{N:List Str}{ds:List D}{vs:List V}(r:aK K H ds vs):Slots K H (ds.map some++Jx (N.length-ds.length) none) (L2.start N vs):=by
 have hl:=r.length;refine⟨by unfold L2.start;simp[hl],fun i d e=>?_⟩;unfold L2.start;by_cases hi:i<ds.length
 ·rw[Ig (by simpa using hi),G9]at e;cases q:ds[i]? with
  |none=>rw[q]at e;cases e
  |some d'=>
   rw[q]at e;cases e
   obtain⟨x,e1,e2⟩:=r.get q
   refine⟨x,?_,e2⟩
   rw[Ig (by simp;omega),G9,e1];rfl
 ·rw[HZ (by simpa using hi),List.getElem?_replicate]at e;split at e<;>cases e
end
abbrev DK:=D->MH->Prop
abbrev TD:=DS->MH->DK->Prop
abbrev TTD:=DS->MH->(Bool->MH->Prop)->Prop
abbrev TAD:=DS->MH->(List D->MH->Prop)->Prop
structure EndsD where
 nx:DS->MH->Prop
 rt:DK
 bk:DS->MH->Prop:=fun _ _=>False
 ct:DS->MH->Prop:=fun _ _=>False
abbrev TSD:=EndsD->DS->MH->Prop
section
variable(K:cc)
def Fin(H:Hp)(R:DK)(Q:VK):Prop:=∀d M' v H',Grow K H H'->Rep K H' d v->Abs K H' M'->R d M'->Q v H'
def Ay(H:Hp)(R:Bool->MH->Prop)(Q:Bool->Hp->Prop):Prop:=∀b M' H',Grow K H H'->Abs K H' M'->R b M'->Q b H'
def FinA(H:Hp)(R:List D->MH->Prop)(Q:List V->Hp->Prop):Prop:=∀ds M' vs H',Grow K H H'->aK K H' ds vs->Abs K H' M'->R ds M'->Q vs H'
def lift(t:TD):TE:=fun σ H Q=>∃δ M R,Slots K H δ σ/\Abs K H M/\t δ M R/\Fin K H R Q
def liftT(t:TTD):TT:=fun σ H Q=>∃δ M R,Slots K H δ σ/\Abs K H M/\t δ M R/\Ay K H R Q
def BD(t:TAD):TA:=fun σ H Q=>∃δ M R,Slots K H δ σ/\Abs K H M/\t δ M R/\FinA K H R Q
structure EndsOk(H:Hp)(B:EndsD)(E:Ends):Prop where
 nx:∀δ M σ H',Grow K H H'->Slots K H' δ σ->Abs K H' M->B.nx δ M->E.nx σ H'
 rt:∀d M v H',Grow K H H'->Rep K H' d v->Abs K H' M->B.rt d M->E.rt v H'
 bk:∀δ M σ H',Grow K H H'->Slots K H' δ σ->Abs K H' M->B.bk δ M->E.bk σ H'
 ct:∀δ M σ H',Grow K H H'->Slots K H' δ σ->Abs K H' M->B.ct δ M->E.ct σ H'
def uA(t:TSD):TS:=fun E σ H=>∃δ M,Slots K H δ σ/\Abs K H M/\∃B,EndsOk K H B E/\t B δ M
end
def DE(X:Cx)(e:Expr)(t:TD):Prop:=PE X e (lift X.K t)
def DT(X:Cx)(e:Expr)(t:TTD):Prop:=PT X e (liftT X.K t)
def DW(X:Cx)(e:Expr)(t:TTD):Prop:=PW X e (liftT X.K t)
def DA(X:Cx)(es:List Expr)(t:TAD):Prop:=PA X es (BD X.K t)
def DSt(X:Cx)(st:Stmt)(t:TSD):Prop:=PS X st (uA X.K t)
def DSs(X:Cx)(st:List Stmt)(t:TSD):Prop:=PSs X st (uA X.K t)
theorem bD{X:Cx}{e:Expr}{t t':TE}(h:PE X e t)(k:∀σ H Q,t' σ H Q->t σ H Q):PE X e t':=fun pins s σ H Q I q=>h pins s σ H Q I (k σ H Q q)
theorem lD{X:Cx}{e:Expr}{t t':TT}(h:PT X e t)(k:∀σ H Q,t' σ H Q->t σ H Q):PT X e t':=fun pins s σ H Q I q=>h pins s σ H Q I (k σ H Q q)
theorem xC{X:Cx}{e:Expr}{t t':TT}(h:PW X e t)(k:∀σ H Q,t' σ H Q->t σ H Q):PW X e t':=fun wh pins s σ H Q I q=>h wh pins s σ H Q I (k σ H Q q)
theorem xD{X:Cx}{e:List Expr}{t t':TA}(h:PA X e t)(k:∀σ H Q,t' σ H Q->t σ H Q):PA X e t':=fun pos pins s σ H Q I q=>h pos pins s σ H Q I (k σ H Q q)
theorem dA{X:Cx}{e:Stmt}{t t':TS}(h:PS X e t)(k:∀D σ H,t' D σ H->t D σ H):PS X e t':=fun pins s σ H D I q=>h pins s σ H D I (k D σ H q)
theorem qw{X:Cx}{e:List Stmt}{t t':TS}(h:PSs X e t)(k:∀D σ H,t' D σ H->t D σ H):PSs X e t':=fun pins s σ H D I q=>h pins s σ H D I (k D σ H q)
section
variable{K:cc}{H H1 H':Hp}
theorem Fin.go{R:DK}{Q:VK}(g:Grow K H H1)(h:Fin K H R Q):Fin K H1 R Q:=fun d M v H' g'=>h d M v H' (g.trans g')
theorem Ay.go{R:Bool->MH->Prop}{Q:Bool->Hp->Prop}(g:Grow K H H1)(h:Ay K H R Q):Ay K H1 R Q:=fun b M H' g'=>h b M H' (g.trans g')
theorem EndsOk.go{B:EndsD}{E:Ends}(g:Grow K H H1)(h:EndsOk K H B E):EndsOk K H1 B E:=⟨fun d M v H' g'=>h.nx d M v H' (g.trans g'),fun d M v H' g'=>h.rt d M v H' (g.trans g'),fun d M v H' g'=>h.bk d M v H' (g.trans g'),fun d M v H' g'=>h.ct d M v H' (g.trans g')⟩
end
section
variable{X:Cx}
inductive tVarD(i:Nat)(δ:DS)(M:MH)(Q:DK):Prop
 |mk (d:D) (h:δ[i]?=some (some d)) (q:Q d M):tVarD i δ M Q
def tCD(d:D):TD:=fun _ M Q=>Q d M
theorem dv(i:Nat){x:Str}{pos:Pos}(hN:X.N[i]?=some x:=by rfl)(hv:Vis X.env.scope x:=by first|exact Or.inl rfl|exact Or.inr (Or.inl rfl)|exact Or.inr (Or.inr rfl))(hd:(x==("__debug__":Str))=false:=by decide)
 (hcd:(x==("__classdict__":Str))=false:=by decide):DE X (.Name x pos) (tVarD i):=
 bD (zy hN hv hd hcd) fun σ H Q z9=>by
  obtain⟨δ,M,R,hs,hM,⟨d,e,r⟩,fin⟩:=z9
  obtain⟨v,e1,e2⟩:=hs.at' i d e
  exact⟨v,e1,fin d M v H .refl e2 hM r⟩
theorem dc{e:Expr}{v:V}{d:D}(h:PE X e (tC v))(r:∀H,Rep X.K H d v):DE X e (tCD d):=bD h fun σ H Q zz1_0=>by obtain⟨δ,M,R,hs,hM,q,fin⟩:=zz1_0;exact(fin d M v H .refl (r H) hM q)
theorem af{i j pos}:DE X (.Constant (.int i) j pos) (tCD (.int i)):=dc CU fun _=>by rw[Rep]
theorem jo{i j pos}:DE X (.Constant (.bool i) j pos) (tCD (.bl i)):=dc Ed fun _=>by rw[Rep]
theorem aU{j pos}:DE X (.Constant .none j pos) (tCD .non):=dc De fun _=>by rw[Rep]
theorem aG{x j pos}:DE X (.Constant (.str x) j pos) (tCD (.str x)):=dc D1 fun _=>by rw[Rep]
theorem Fm{x:Str}{n:String}{pos:Pos}(hg:Gl X x)(hm:X.mg x=none)(hv:HX x=some (.type n))(hn:x≠"__name__":=by decide)(hd:(x==("__debug__":Str))=false:=by decide):DE X (.Name x pos) (tCD (.ty n)):=dc (zK (v:=.ty n) hg hm hv rfl hn hd) fun _=>by rw[Rep]
theorem gN{x:Str}{a:Addr}{pos:Pos}(hg:Gl X x)(hm:X.mg x=some (.ref a))(hd:(x==("__debug__":Str))=false:=by decide):DE X (.Name x pos) (tCD (.ref a)):=dc (u7 (v:=.ref a) hg hm rfl hd) fun _=>by rw[Rep]
end
abbrev R2D:=D->D->MH->DK->Prop
def jT(K:cc)(r:R2D):R2:=fun v u H Q=>∃x y M R,Rep K H x v/\Rep K H y u/\Abs K H M/\r x y M R/\Fin K H R Q
def OpD(X:Cx)(f:G0->G0->Sem G0)(r:R2D):Prop:=OpR X f (jT X.K r)
def r6(r:R2D)(ta tb:TD):TD:=fun δ M Q=>ta δ M fun x M1=>tb δ M1 fun y M2=>r x y M2 Q
theorem eF{X:Cx}{f:G0->G0->Sem G0}{r r':R2}(h:OpR X f r)(k:∀x y H Q,r' x y H Q->r x y H Q):OpR X f r':=fun pins s σ H x y v u Q I a b q=>h pins s σ H x y v u Q I a b (k _ _ _ _ q)
theorem kS{K:cc}{r:R2D}{ta tb:TD}{σ:L2.St}{H:Hp}{Q:VK}(h:lift K (r6 r ta tb) σ H Q):tOp (jT K r) (lift K ta) (lift K tb) σ H Q:=by obtain⟨δ,M,R,hs,hM,q,fin⟩:=h;refine⟨δ,M,_,hs,hM,q,fun x M1 v H1 g1 r1 a1 q1=>?_⟩;exact⟨δ,M1,_,hs.mono g1,a1,q1,fun y M2 u H2 g2 r2 a2 q2=>⟨x,y,M2,R,r1.mono g2,r2,a2,q2,fin.go (g1.trans g2)⟩⟩
section
variable{X:Cx}{a b:Expr}{ta tb:TD}{pos:Pos}
theorem ar{op:Operator}{r:R2D}(ho:OpD X (J2 op) r)(ha:DE X a ta)(hb:DE X b tb):DE X (.BinOp a op b pos) (r6 r ta tb):=bD (Fz ho ha hb) fun _ _ _ h=>kS h
theorem bX{op:CmpOp}{r:R2D}(ho:OpD X (Hn op) r)(ha:DE X a ta)(hb:DE X b tb)(hm:behindInMarks op b=false:=by exact yZ _):DE X (.Compare a [op] [b] pos) (r6 r ta tb):=bD (Am ho ha hb hm) fun _ _ _ h=>kS h
inductive IsBl(x:D)(M:MH)(Q:Bool->MH->Prop):Prop
 |mk (c:Bool) (h:x=.bl c) (q:Q c M):IsBl x M Q
def tBD(t:TD):TTD:=fun δ M Q=>t δ M fun x M1=>IsBl x M1 Q
theorem j0{K:cc}{t:TD}{t':TE}(ht:∀σ H Q,lift K t σ H Q->t' σ H Q){σ:L2.St}{H:Hp}{Q:Bool->Hp->Prop}(h:liftT K (tBD t) σ H Q):xT t' σ H Q:=by obtain⟨δ,M,R,hs,hM,q,fin⟩:=h;refine ht _ _ _ ⟨δ,M,_,hs,hM,q,fun x M1 v H1 g1 r1 a1 zz2_0=>?_⟩;obtain⟨c,e,q1⟩:=zz2_0;subst e;rw[Rep]at r1;exact⟨c,r1,fin c M1 H1 g1 a1 q1⟩
theorem aA{op:CmpOp}{r:R2D}(ho:OpD X (Hn op) r)(ha:DE X a ta)(hb:DE X b tb)(hm:behindInMarks op b=false:=by exact yZ _):DT X (.Compare a [op] [b] pos) (tBD (r6 r ta tb)):=lD (zM ho ha hb hm) fun _ _ _ h=>j0 (fun _ _ _ h=>kS h) h
theorem cH{e:Expr}{t:TD}(h:DE X e t)(he:∀whole,isTrue e X.env whole=(do let v <-whole;standAt e.pos;holding [v] (truthy v)):=by intro _;rfl):DT X e (tBD t):=
 lD (Ea h he) fun _ _ _ h=>j0 (t':=lift X.K t) (fun _ _ _ h=>h) h
end
section
variable{X:Cx}{a b c:Expr}{ta tb:TD}{tA tB':TTD}{rest:List Expr}{pos:Pos}
def BS(t u:TTD):TTD:=fun δ M Q=>t δ M fun c M1=>if c=true then u δ M1 Q else Q false M1
def Ff(t u:TTD):TTD:=fun δ M Q=>t δ M fun c M1=>if c=true then Q true M1 else u δ M1 Q
def bP(t:TTD):TTD:=fun δ M Q=>t δ M fun c M1=>Q (!c) M1
theorem dg(ha:DT X a tA):DW X (.BoolOp .And [a] pos) tA:=Bi ha
theorem de(ha:DT X a tA):DW X (.BoolOp .Or [a] pos) tA:=Dj ha
theorem df(ha:DT X a tA)(hb:DW X (.BoolOp .And (b::rest) pos) tB'):DW X (.BoolOp .And (a::b::rest) pos) (BS tA tB'):=
 xC (D2 ha hb) fun σ H Q zz3_0=>by obtain⟨δ,M,R,hs,hM,q,fin⟩:=zz3_0;exact(⟨δ,M,_,hs,hM,q,fun c M1 H1 g1 a1 q1=>by
  cases c with
  |true=>rw[if_pos rfl]at q1 ⊢;exact⟨δ,M1,R,hs.mono g1,a1,q1,fin.go g1⟩
  |false=>rw[if_neg G6]at q1 ⊢;exact fin _ _ _ g1 a1 q1⟩)
theorem cW(ha:DT X a tA)(hb:DW X (.BoolOp .Or (b::rest) pos) tB'):DW X (.BoolOp .Or (a::b::rest) pos) (Ff tA tB'):=
 xC (EH ha hb) fun σ H Q zz4_0=>by obtain⟨δ,M,R,hs,hM,q,fin⟩:=zz4_0;exact(⟨δ,M,_,hs,hM,q,fun c M1 H1 g1 a1 q1=>by
  cases c with
  |true=>rw[if_pos rfl]at q1 ⊢;exact fin _ _ _ g1 a1 q1
  |false=>rw[if_neg G6]at q1 ⊢;exact⟨δ,M1,R,hs.mono g1,a1,q1,fin.go g1⟩⟩)
theorem dJ{e:Expr}{t:TTD}(h:DW X e t):DT X e t:=PW.pt h
theorem gf(ha:DT X a tA):DT X (.UnaryOp .Not a pos) (bP tA):=lD (CD ha) fun σ H Q zz5_0=>by obtain⟨δ,M,R,hs,hM,q,fin⟩:=zz5_0;exact(⟨δ,M,_,hs,hM,q,fun c M1 H1 g1 a1 q1=>fin _ _ _ g1 a1 q1⟩)
def yn(ta tb:TD):TD:=fun δ M Q=>ta δ M fun x M1=>IsBl x M1 fun c M1=>if c=true then tb δ M1 Q else Q (.bl false) M1
def Cb(ta tb:TD):TD:=fun δ M Q=>ta δ M fun x M1=>IsBl x M1 fun c M1=>if c=true then Q (.bl true) M1 else tb δ M1 Q
theorem iW{op}{t:TD}(h:DE X a t):DE X (.BoolOp op [a] pos) t:=DU h
theorem lX(ha:DE X a ta)(hb:DE X (.BoolOp .And (b::rest) pos) tb):DE X (.BoolOp .And (a::b::rest) pos) (yn ta tb):=
 bD (C7 ha hb) fun σ H Q ⟨δ,M,R,hs,hM,q,fin⟩=>⟨δ,M,_,hs,hM,q,fun x M1 v H1 g1 r1 a1 z9=>by
  obtain⟨c,e,q1⟩:=z9
  subst e
  rw[Rep]at r1
  refine⟨c,r1,?_⟩
  cases c with
  |true=>rw[if_pos rfl]at q1 ⊢;exact⟨δ,M1,R,hs.mono g1,a1,q1,fin.go g1⟩
  |false=>rw[if_neg G6]at q1 ⊢;exact fin _ _ _ _ g1 (by rw[Rep]) a1 q1⟩
theorem ue(ha:DE X a ta)(hb:DE X (.BoolOp .Or (b::rest) pos) tb):DE X (.BoolOp .Or (a::b::rest) pos) (Cb ta tb):=
 bD (Fw ha hb) fun σ H Q ⟨δ,M,R,hs,hM,q,fin⟩=>⟨δ,M,_,hs,hM,q,fun x M1 v H1 g1 r1 a1 z9=>by
  obtain⟨c,e,q1⟩:=z9
  subst e
  rw[Rep]at r1
  refine⟨c,r1,?_⟩
  cases c with
  |true=>rw[if_pos rfl]at q1 ⊢;exact fin _ _ _ _ g1 (by rw[Rep]) a1 q1
  |false=>rw[if_neg G6]at q1 ⊢;exact⟨δ,M1,R,hs.mono g1,a1,q1,fin.go g1⟩⟩
def FW(t:TTD)(ta tb:TD):TD:=fun δ M Q=>t δ M fun c M1=>if c=true then ta δ M1 Q else tb δ M1 Q
theorem iK(hc:DT X c tA)(ha:DE X a ta)(hb:DE X b tb):DE X (.IfExp c a b pos) (FW tA ta tb):=
 bD (yu hc ha hb) fun σ H Q zz7_0=>by obtain⟨δ,M,R,hs,hM,q,fin⟩:=zz7_0;exact(⟨δ,M,_,hs,hM,q,fun c M1 H1 g1 a1 q1=>by
  cases c with
  |true=>rw[if_pos rfl]at q1 ⊢;exact⟨δ,M1,R,hs.mono g1,a1,q1,fin.go g1⟩
  |false=>rw[if_neg G6]at q1 ⊢;exact⟨δ,M1,R,hs.mono g1,a1,q1,fin.go g1⟩⟩)
end
def FT(r:D->MH->DK->Prop)(ta:TD):TD:=fun δ M Q=>ta δ M fun x M1=>r x M1 Q
def BH(K:cc)(r:D->MH->DK->Prop):V->Hp->VK->Prop:=fun v H Q=>∃x M R,Rep K H x v/\Abs K H M/\r x M R/\Fin K H R Q
theorem vp{X:Cx}{a:Expr}{ta:TD}{pos:Pos}{op:UnaryOp}{r:D->MH->DK->Prop}(ho:UnR X (unaryOp op) (BH X.K r))(ha:DE X a ta):DE X (.UnaryOp op a pos) (FT r ta):=bD (Fo ho ha) fun σ H Q zz8_0=>by obtain⟨δ,M,R,hs,hM,q,fin⟩:=zz8_0;exact(⟨δ,M,_,hs,hM,q,fun x M1 v H1 g1 r1 a1 q1=>⟨x,M1,R,r1,a1,q1,fin.go g1⟩⟩)
def Ey:TAD:=fun _ M Q=>Q [] M
def Cf(ta:TD)(tr:TAD):TAD:=fun δ M Q=>ta δ M fun x M1=>tr δ M1 fun xs M2=>Q (x::xs) M2
section
variable{X:Cx}{e:Expr}{es:List Expr}{te:TD}{t:TAD}{pos:Pos}
theorem ae:DA X [] Ey:=xD ym fun σ H Q zz9_0=>by obtain⟨δ,M,R,hs,hM,q,fin⟩:=zz9_0;exact(fin _ _ _ _ .refl .nil hM q)
theorem aa(ha:DE X e te)(hr:DA X es t)(hs:Hc (e::es) X.env=(false,eval e X.env)::Hc es X.env:=by rfl):DA X (e::es) (Cf te t):=
 xD (oZ ha hr hs) fun σ H Q zz10_0=>by obtain⟨δ,M,R,hs,hM,q,fin⟩:=zz10_0;exact(⟨δ,M,_,hs,hM,q,fun x M1 v H1 g1 r1 a1 q1=>
  ⟨δ,M1,_,hs.mono g1,a1,q1,fun xs M2 vs H2 g2 r2 a2 q2=>fin _ _ _ _ (g1.trans g2) (.cons (r1.mono g2) r2) a2 q2⟩⟩)
def Ep(t:TAD):TD:=fun δ M Q=>t δ M fun xs M1=>xs.length<=GX/\Q (.tup xs) M1
def B7(t:TAD):TD:=fun δ M Q=>t δ M fun xs M1=>xs.length<=GX/\∀p,M1 p=none->Q (.ref p) (av M1 p (.lst xs))
theorem aF{x1}(h:DA X es t):DE X (.Tuple es x1 pos) (Ep t):=bD (Dv h) fun σ H Q zz11_0=>by obtain⟨δ,M,R,hs,hM,q,fin⟩:=zz11_0;exact(⟨δ,M,_,hs,hM,q,fun xs M1 vs H1 g1 r1 a1 zz12_0=>by obtain⟨z,q1⟩:=zz12_0;exact(⟨by rw[<-r1.length];exact z,fun p hp=>fin _ _ _ _ (g1.trans (.new hp)) (by rw[Rep];exact⟨p,vs,rfl,SqT.of aY,r1.mono (.new hp)⟩) (a1.new hp) q1⟩)⟩)
theorem aW(h:DA X es t):DE X (.List es pos) (B7 t):=bD (Cz h) fun σ H Q zz13_0=>by obtain⟨δ,M,R,hs,hM,q,fin⟩:=zz13_0;exact(⟨δ,M,_,hs,hM,q,fun xs M1 vs H1 g1 r1 a1 zz14_0=>by obtain⟨z,q1⟩:=zz14_0;exact(⟨by rw[<-r1.length];exact z,fun p hp=>fin _ _ _ _ (g1.trans (.new hp)) (by rw[Rep]) (a1.kJ hp r1) (q1 p (a1.fresh hp))⟩)⟩)
end
def IxD(X:Cx)(r:R2D):Prop:=IxR X (jT X.K r)
theorem ye{X:Cx}{r r':R2}(h:IxR X r)(k:∀x y H Q,r' x y H Q->r x y H Q):IxR X r':=fun e1 e2 pins s σ H x y v u Q I a b q=>h e1 e2 pins s σ H x y v u Q I a b (k _ _ _ _ q)
theorem xQ{X:Cx}{a b:Expr}{ta tb:TD}{pos:Pos}{r:R2D}(hr:IxD X r)(ha:DE X a ta)(hb:DE X b tb)(hs:k8 b):DE X (.Subscript a b pos) (r6 r ta tb):=bD (EU hr ha hb hs) fun _ _ _ h=>kS h
inductive AtD(ds:List D)(i:Int)(M:MH)(Q:DK):Prop
 |mk (d:D) (h:atI ds i=some d) (q:Q d M):AtD ds i M Q
inductive AtM(a:Addr)(i:Int)(M:MH)(Q:DK):Prop
 |mk (ds:List D) (d:D) (h:M a=some (.lst ds)) (q:atI ds i=some d/\Q d M):AtM a i M Q
def A7:R2D:=fun x y M Q=>match x,y with
 |.tup ds,.int i=>AtD ds i M Q
 |.rol ds,.int i=>AtD ds i M Q
 |.ref a,.int i=>AtM a i M Q
 |_,_=>False
theorem aK.atI{K:cc}{H:Hp}{ds:List D}{xs:List V}{i:Int}{d:D}(h:aK K H ds xs)(e:L2.atI ds i=some d):∃x,L2.atI xs i=some x/\Rep K H d x:=by
 unfold L2.atI at e ⊢;rw[<-h.length];cases q:ixN ds.length i with
 |none=>rw[q]at e;cases e
 |some j=>
  rw[q]at e
  exact h.get e
theorem nQ{K:cc}{v u:V}{H:Hp}{Q:VK}(h:jT K A7 v u H Q):rIx K v u H Q:=by
 obtain⟨x,y,M,R,r1,r2,a,q,fin⟩:=h;unfold A7 at q;split at q
 ·obtain⟨d,e,q⟩:=q;obtain rfl:u=.int _:=r2;rw[Rep]at r1;obtain⟨p,xs,rfl,hq,rs⟩:=r1;obtain⟨x,e1,e2⟩:=rs.atI e;exact .inr (.inl ⟨p,xs,_,x,rfl,rfl,hq,e1,fin _ _ _ _ .refl e2 a q⟩)
 ·obtain⟨d,e,q⟩:=q;obtain rfl:u=.int _:=r2;rw[Rep]at r1;obtain⟨p,xs,rfl,hq,rs⟩:=r1;obtain⟨x,e1,e2⟩:=rs.atI e;exact .inl ⟨p,xs,_,x,rfl,rfl,hq.sql,e1,fin _ _ _ _ .refl e2 a q⟩
 ·obtain⟨ds,d,e0,e,q⟩:=q;obtain rfl:u=.int _:=r2;obtain rfl:v=.ref _:=r1;obtain⟨xs,hx,rs⟩:=a _ _ e0;obtain⟨x,e1,e2⟩:=rs.atI e;exact .inl ⟨_,xs,_,x,rfl,rfl,SqL.of hx,e1,fin _ _ _ _ .refl e2 a q⟩
 ·exact q.elim
theorem au{X:Cx}{a b:Expr}{ta tb:TD}{pos:Pos}(ha:DE X a ta)(hb:DE X b tb)(hs:k8 b:=by exact fun _ _=>rfl):DE X (.Subscript a b pos) (r6 A7 ta tb):=xQ (ye xS fun _ _ _ _ h=>nQ h) ha hb hs
def Bd(n:Nat)(i:Int):Prop:=i.natAbs<2^n
instance(n:Nat)(i:Int):Decidable (Bd n i):=inferInstanceAs (Decidable (i.natAbs<2^n))
theorem Bd.mono{m n:Nat}{i:Int}(h:Bd m i)(l:m<=n):Bd n i:=G8 h (Nat.pow_le_pow_right (by decide) l)
theorem Bd.bits{n:Nat}{i:Int}(h:Bd n i):Builtin.Int.intBits i<=n:=by
 unfold Builtin.Int.intBits;split
 ·exact Jb _
 ·rename_i hz;have h0:i.natAbs≠0:=fun e=>hz (by simpa using Int.natAbs_eq_zero.mp e);exact(Nat.log2_lt h0).mpr h
theorem Bd.log2{n:Nat}{i:Int}(h:Bd n i)(hn:0<n):i.natAbs.log2<n:=by
 by_cases h0:i.natAbs=0
 ·rw[h0];simpa using hn
 ·exact(Nat.log2_lt h0).mpr h
theorem Bd.mul{m n:Nat}{i j:Int}(a:Bd m i)(b:Bd n j):Bd (m+n) (i*j):=by unfold Bd at *;rw[Int.natAbs_mul,Nat.pow_add];exact Nat.mul_lt_mul'' a b
theorem Bd.add{n:Nat}{i j:Int}(a:Bd n i)(b:Bd n j):Bd (n+1) (i+j):=by unfold Bd at *;rw[Nat.pow_succ];have:=Int.natAbs_add_le i j;omega
theorem Bd.sub{n:Nat}{i j:Int}(a:Bd n i)(b:Bd n j):Bd (n+1) (i-j):=by unfold Bd at *;rw[Nat.pow_succ];have:=Int.natAbs_sub_le i j;omega
theorem Bd.neg{n:Nat}{i:Int}(a:Bd n i):Bd n (-i):=by unfold Bd at *;rw[Int.natAbs_neg];exact a
theorem Bd.of_le{n:Nat}{i j:Int}(a:Bd n i)(b:j.natAbs<=i.natAbs):Bd n j:=Nat.lt_of_le_of_lt b a
theorem cD{n:Nat}{i:Int}(h:i.natAbs<2^64)(l:64<=n:=by decide):Bd n i:=Bd.mono (m:=64) h l
theorem cL{i j:Int}(a:Bd 1000000 i)(b:Bd 1000000 j):IntMulOk i j:=.of_bits (He a.bits (by decide)) (He b.bits (by decide))
theorem bI{i j:Int}(a:Bd 64 i):IntMulOk i j:=.of_left a.bits
theorem kP{i j:Int}(a:Bd 64 j):IntMulOk i j:=.of_right a.bits
def rI2(C:Int->Int->Prop)(g:Int->Int->D):R2D:=fun x y M Q=>match x,y with
 |.int i,.int j=>C i j/\Q (g i j) M
 |_,_=>False
section
variable{X:Cx}
theorem dR{f:G0->G0->Sem G0}{C:Int->Int->Prop}{g:Int->Int->V}{g':Int->Int->D}(h:OpR X f (rI C g))(e:∀i j H,Rep X.K H (g' i j) (g i j)):OpD X f (rI2 C g'):=
 eF h fun v u H Q z9=>by
  obtain⟨x,y,M,R,r1,r2,a,q,fin⟩:=z9
  unfold rI2 at q
  split at q
  ·obtain rfl:v=.int _:=r1
   obtain rfl:u=.int _:=r2
   exact⟨_,_,rfl,rfl,q.1,fin _ _ _ _ .refl (e _ _ _) a q.2⟩
  ·exact q.elim
theorem ri0{f:G0->G0->Sem G0}{g:Int->Int->V}(h:OpR X f (rI0 g)):OpR X f (rI (fun _ _=>True) g):=eF h fun x y H Q zz1_0=>by obtain⟨i,j,a,b,_,q⟩:=zz1_0;exact(⟨i,j,a,b,q⟩)
def Fi:R2D:=rI2 (fun _ _=>True) fun i j=>.int (i-j)
def BF:R2D:=rI2 IntMulOk fun i j=>.int (i*j)
def CFd(i j:Int):Prop:=j≠0/\Bd 8000 j
def FZ:R2D:=rI2 CFd fun i j=>.int (i.fdiv j)
def EM:R2D:=rI2 (fun _ j=>j≠0) fun i j=>.int (i.fmod j)
def E5:R2D:=rI2 Fu fun i j=>.int (i^j.toNat)
def GH:R2D:=rI2 (fun _ _=>True) fun i j=>.bl (decide (i<j))
def GR:R2D:=rI2 (fun _ _=>True) fun i j=>.bl (decide (i<=j))
def GB:R2D:=rI2 (fun _ _=>True) fun i j=>.bl (decide (j<i))
def GJ:R2D:=rI2 (fun _ _=>True) fun i j=>.bl (decide (j<=i))
theorem cB:OpD X (J2 .Sub) Fi:=dR (ri0 CP) fun _ _ _=>by rw[Rep]
theorem aH:OpD X (J2 .Mult) BF:=dR (opI fun _ _ _ _ _ _ _ hc q=>mul_int q hc) fun _ _ _=>by rw[Rep]
theorem og:OpD X (J2 .FloorDiv) FZ:=dR (opI fun _ _ _ _ _ _ _ hc q=>floordiv_int hc.1 q (.inl (PyProof.noPylong_of_log2 (Nat.lt_trans (hc.2.log2 (by decide)) (by decide))))) fun _ _ _=>by rw[Rep]
theorem iX:OpD X (J2 .Mod) EM:=dR zT fun _ _ _=>by rw[Rep]
theorem eZ:OpD X (J2 .Pow) E5:=dR CC fun _ _ _=>by rw[Rep]
theorem ET:OpD X (Hn .Lt) GH:=dR (ri0 Fy) fun _ _ _=>by rw[Rep]
theorem EN:OpD X (Hn .LtE) GR:=dR (ri0 Fv) fun _ _ _=>by rw[Rep]
theorem EA:OpD X (Hn .Gt) GB:=dR (ri0 Fh) fun _ _ _=>by rw[Rep]
theorem Fc:OpD X (Hn .GtE) GJ:=dR (ri0 Fd) fun _ _ _=>by rw[Rep]
def BI:D->MH->DK->Prop:=fun x M Q=>match x with
 |.int i=>Q (.int (-i)) M
 |_=>False
theorem kL:UnR X (unaryOp .USub) (BH X.K BI):=fun pins s σ H x v Q I r zz2_0=>by obtain⟨d,M,R,r1,a,q,fin⟩:=zz2_0;exact(DM pins s σ H x v Q I r (by
 unfold BI at q
 split at q
 ·obtain rfl:x=.int _:=r1;exact⟨_,rfl,fin _ _ _ _ .refl (by rw[Rep]) a q⟩
 ·exact q.elim))
def yY:R2D:=fun x y M Q=>match x,y with
 |.int i,.int j=>Q (.int (i+j)) M
 |.tup a,.tup b=>a≠[]/\a.length+b.length<=GX/\Q (.tup (a++b)) M
 |.ref a,.ref b=>∃xs ys,M a=some (.lst xs)/\M b=some (.lst ys)/\xs.length+ys.length<=GX/\∀p,M p=none->Q (.ref p) (av M p (.lst (xs++ys)))
 |_,_=>False
theorem ck:OpD X (J2 .Add) yY:=eF (Cs.or (AF.or DX)) fun v u H Q z9=>by
 obtain⟨x,y,M,R,r1,r2,a,q,fin⟩:=z9;unfold yY at q;split at q
 ·obtain rfl:v=.int _:=r1;obtain rfl:u=.int _:=r2;exact .inl ⟨_,_,rfl,rfl,fin _ _ _ _ .refl (by rw[Rep]) a q⟩
 ·rename_i da db;obtain⟨hn,hl,q⟩:=q;rw[Rep]at r1;obtain⟨p,xs,rfl,hx,rx⟩:=r1;obtain⟨p',ys,rfl,hy,ry⟩:∃a xs,u=V.ref a/\SqT X.K H a xs/\aK X.K H db xs:=by rw[Rep]at r2;exact r2
  have l1:=rx.length;have l2:=ry.length;refine .inr (.inl ⟨p,p',xs,ys,rfl,rfl,hx,hy,?_,by omega,fun e=>?_,fun _ z hz=>?_⟩)
  ·intro e;subst e;exact hn (List.length_eq_zero_iff.mp (by simpa using l1))
  ·subst e;obtain rfl:db=[]:=List.length_eq_zero_iff.mp (by simpa using l2);exact fin _ _ _ _ .refl (by rw[Rep,J0];exact⟨p,xs,rfl,hx,rx⟩) a q
  ·exact fin _ _ _ _ (.new hz) (by rw[Rep];exact⟨z,_,rfl,SqT.of aY,(rx.append ry).mono (.new hz)⟩) (a.new hz) q
 ·obtain⟨ds,es,e1,e2,hl,q⟩:=q;obtain rfl:v=.ref _:=r1;obtain rfl:u=.ref _:=r2;obtain⟨xs,hx,rx⟩:=a _ _ e1;obtain⟨ys,hy,ry⟩:=a _ _ e2;have l1:=rx.length;have l2:=ry.length;exact .inr (.inr ⟨_,_,xs,ys,rfl,rfl,hx,hy,by omega,fun z hz=>fin _ _ _ _ (.new hz) (by rw[Rep]) (a.kJ hz (rx.append ry)) (q z (a.fresh hz))⟩)
 ·exact q.elim
end
mutual
inductive Pd(M:MH):D->JO->Prop
 |non:Pd M .non .none
 |bl (b:Bool):Pd M (.bl b) (.bool b)
 |int (i:Int):Pd M (.int i) (.int i)
 |str (x:Str):Pd M (.str x) (.str x)
 |tup {ds:List D} {ps:List JO}:Pds M ds ps->Pd M (.tup ds) (.tuple ps)
 |rol {ds:List D} {ps:List JO}:Pds M ds ps->Pd M (.rol ds) (.list ps)
 |lst {a:Addr} {ds:List D} {ps:List JO}:M a=some (.lst ds)->Pds M ds ps->Pd M (.ref a) (.list ps)
inductive Pds(M:MH):List D->List JO->Prop
 |nil:Pds M [] []
 |cons {d:D} {ds:List D} {p:JO} {ps:List JO}:Pd M d p->Pds M ds ps->Pds M (d::ds) (p::ps)
end
mutual
def pdO:D->Option JO
 |.non=>some .none
 |.bl b=>some (.bool b)
 |.int i=>some (.int i)
 |.str x=>some (.str x)
 |.tup ds=>match ub ds with
  |some ps=>some (.tuple ps)
  |none=>none
 |_=>none
def ub:List D->Option (List JO)
 |[]=>some []
 |d::ds=>match pdO d,ub ds with
  |some p,some ps=>some (p::ps)
  |_,_=>none
end
mutual
theorem Pd.of{M:MH}:∀{d:D} {p:JO},pdO d=some p->Pd M d p
 |.non,p,h=>by rw[pdO]at h;cases h;exact .non
 |.bl b,p,h=>by rw[pdO]at h;cases h;exact .bl b
 |.int i,p,h=>by rw[pdO]at h;cases h;exact .int i
 |.str x,p,h=>by rw[pdO]at h;cases h;exact .str x
 |.ty _,p,h=>by simp[pdO]at h
 |.ref _,p,h=>by simp[pdO]at h
 |.rol _,p,h=>by simp[pdO]at h
 |.tup ds,p,h=>by
  rw[pdO]at h
  cases e:ub ds with
  |none=>rw[e]at h;cases h
  |some ps=>rw[e]at h;cases h;exact .tup (Pds.of e)
theorem Pds.of{M:MH}:∀{ds:List D} {ps:List JO},ub ds=some ps->Pds M ds ps
 |[],ps,h=>by rw[ub]at h;cases h;exact .nil
 |d::ds,ps,h=>by
  rw[ub]at h
  cases e1:pdO d with
  |none=>rw[e1]at h;cases h
  |some p=>
   cases e2:ub ds with
   |none=>rw[e1,e2]at h;cases h
   |some qs=>rw[e1,e2]at h;cases h;exact .cons (Pd.of e1) (Pds.of e2)
end
section
variable{X:Cx}{pins:List (Addr×Obj)}{σ:L2.St}{H:Hp}{s:G3}{M:MH}
mutual
theorem cG(I:Inv X pins σ H s)(hM:Abs X.K H M):∀{d:D} {p:JO} {v:V} {u:G0},Pd M d p->Rep X.K H d v->L2.RelV v u->∃as,Reads s.heap u p as
 |_,_,_,_,.non,r,e=>by rw[Rep]at r;subst r;cases e;exact⟨_,.none⟩
 |_,_,_,_,.bl b,r,e=>by rw[Rep]at r;subst r;cases e;exact⟨_,.bool b⟩
 |_,_,_,_,.int i,r,e=>by rw[Rep]at r;subst r;obtain⟨t,rfl⟩:=e;exact⟨_,.int i t⟩
 |_,_,_,_,.str x,r,e=>by rw[Rep]at r;subst r;obtain⟨t,rfl⟩:=e;exact⟨_,.str x t⟩
 |_,_,_,_,.tup hp,r,e=>by
  rw[Rep]at r
  obtain⟨a,xs,rfl,hq,rs⟩:=r
  cases e
  obtain⟨its,rv,⟨o,h1,h2,n,h3⟩,_⟩:=I.tuple hq
  obtain⟨as,hh⟩:=iz I hM hp rs rv
  exact⟨as,reads_tuple_at h1 h2 h3 (by simpa using hh)⟩
 |_,_,_,_,.rol hp,r,e=>by
  rw[Rep]at r
  obtain⟨a,xs,rfl,hq,rs⟩:=r
  cases e
  obtain⟨its,rv,⟨o,n,h1,h2,_,h3⟩,_⟩:=I.list hq.sql
  obtain⟨as,hh⟩:=iz I hM hp rs rv
  exact⟨_,reads_list_at h1 h2 h3 (by simpa using hh)⟩
 |_,_,_,_,.lst ha hp,r,e=>by
  rw[Rep]at r
  subst r
  cases e
  obtain⟨xs,hx,rs⟩:=hM _ _ ha
  obtain⟨its,rv,⟨o,n,h1,h2,_,h3⟩,_⟩:=I.list (SqL.of hx)
  obtain⟨as,hh⟩:=iz I hM hp rs rv
  exact⟨_,reads_list_at h1 h2 h3 (by simpa using hh)⟩
theorem iz(I:Inv X pins σ H s)(hM:Abs X.K H M):∀{ds:List D} {ps:List JO} {vs:List V} {us:List G0},Pds M ds ps->aK X.K H ds vs->Vals vs us->∃as,ReadsAll s.heap us ps as
 |_,_,_,_,.nil,r,e=>by rw[aK]at r;subst r;cases e;exact⟨_,.nil⟩
 |_,_,_,_,.cons h1 h2,r,e=>by
  rw[aK]at r
  obtain⟨x,r,rfl,r1,r2⟩:=r
  cases e with
  |cons e1 e2=>
   obtain⟨as,q1⟩:=cG I hM h1 r1 e1
   obtain⟨bs,q2⟩:=iz I hM h2 r2 e2
   exact⟨_,.cons q1 q2⟩
end
end
inductive rEqG(g:Bool->Bool)(x y:D)(M:MH)(Q:DK):Prop
 |mk (p q:JO) (h1:Pd M x p) (h2:Pd M y q) (h3:Ia p=true) (h4:Ia q=true) (hq:Q (.bl (g (Hz p q))) M):rEqG g x y M Q
def Ds:R2D:=fun x y M Q=>match x,y with
 |.int i,.int j=>Q (.bl (decide (i=j))) M
 |.bl i,.bl j=>Q (.bl (decide (i=j))) M
 |x,y=>rEqG (fun b=>b) x y M Q
def AU:R2D:=fun x y M Q=>match x,y with
 |.int i,.int j=>Q (.bl (!decide (i=j))) M
 |.bl i,.bl j=>Q (.bl (!decide (i=j))) M
 |x,y=>rEqG (fun b=>!b) x y M Q
section
variable{X:Cx}
theorem Dw(hu:X.A.units+64<JI):OpD X (Hn .Eq) (rEqG fun b=>b):=by intro pins s σ H v u v' u' Q I rv ru h;obtain⟨x,y,M,R,r1,r2,a,⟨p,q,p1,p2,s1,s2,hq⟩,fin⟩:=h;obtain⟨as,q1⟩:=cG I a p1 r1 rv;obtain⟨bs,q2⟩:=cG I a p2 r2 ru;exact eq_dataH q1 q2 s1 s2 hu ⟨.bl _,H,I,rfl,fin _ _ _ _ .refl (by rw[Rep]) a hq⟩
theorem DR(hu:X.A.units+64<JI):OpD X (Hn .NotEq) (rEqG fun b=>!b):=by intro pins s σ H v u v' u' Q I rv ru h;obtain⟨x,y,M,R,r1,r2,a,⟨p,q,p1,p2,s1,s2,hq⟩,fin⟩:=h;obtain⟨as,q1⟩:=cG I a p1 r1 rv;obtain⟨bs,q2⟩:=cG I a p2 r2 ru;exact ne_dataH q1 q2 s1 s2 hu ⟨.bl _,H,I,rfl,fin _ _ _ _ .refl (by rw[Rep]) a hq⟩
theorem kX{i j:Int}:(i==j)=decide (i=j):=by by_cases h:i=j<;>simp[h]
theorem qF{i j:Bool}:(i==j)=decide (i=j):=by cases i<;>cases j<;>rfl
theorem eE(hu:X.A.units+64<JI):OpD X (Hn .Eq) Ds:=eF (Dw hu) fun v u H Q z9=>by
 obtain⟨x,y,M,R,r1,r2,a,q,fin⟩:=z9;refine⟨x,y,M,R,r1,r2,a,?_,fin⟩;unfold Ds at q;split at q
 ·exact⟨_,_,.int _,.int _,rfl,rfl,by simpa[Hz,kX]using q⟩
 ·exact⟨_,_,.bl _,.bl _,rfl,rfl,by simpa[Hz,qF]using q⟩
 ·exact q
theorem n8(hu:X.A.units+64<JI):OpD X (Hn .NotEq) AU:=eF (DR hu) fun v u H Q z9=>by
 obtain⟨x,y,M,R,r1,r2,a,q,fin⟩:=z9;refine⟨x,y,M,R,r1,r2,a,?_,fin⟩;unfold AU at q;split at q
 ·exact⟨_,_,.int _,.int _,rfl,rfl,by simpa[Hz,kX]using q⟩
 ·exact⟨_,_,.bl _,.bl _,rfl,rfl,by simpa[Hz,qF]using q⟩
 ·exact q
def isC:D->D->Option Bool
 |.non,.non=>some true
 |.non,.bl _=>some false
 |.bl _,.non=>some false
 |.bl a,.bl b=>some (decide (a=b))
 |_,.non=>some false
 |_,.bl _=>some false
 |_,_=>none
inductive rIsG(g:Bool->Bool)(x y:D)(M:MH)(Q:DK):Prop
 |mk (b:Bool) (h:isC x y=some b) (q:Q (.bl (g b)) M):rIsG g x y M Q
def GL:R2D:=rIsG fun b=>b
def AX:R2D:=rIsG fun b=>!b
theorem oS{K:cc}{H:Hp}{x y:D}{b:Bool}{v u:V}{v' u':G0}(h:isC x y=some b)(r1:Rep K H x v)(r2:Rep K H y u)(rv:L2.RelV v v')(ru:L2.RelV u u'):plainIs v' u'=true/\(v'==u')=b:=by
 have hu:u'=.none\/∃c,u'=.bool c:=by
  cases y with
  |non=>rw[Rep]at r2;subst r2;exact .inl ru
  |bl c=>rw[Rep]at r2;subst r2;exact .inr ⟨c,ru⟩
  |_=>cases x<;>exact absurd (show(none:Option Bool)=some b from h) (fun z=>nomatch z)
 cases x with
 |non=>
  rw[Rep]at r1;subst r1;cases (show v'=Iu from rv)
  cases y<;>try exact absurd (show(none:Option Bool)=some b from h) (fun z=>nomatch z)
  ·rw[Rep]at r2;subst r2;cases (show u'=Iu from ru);cases (show some true=some b from h);exact⟨rfl,rfl⟩
  ·rw[Rep]at r2;subst r2;cases (show u'=IM _ from ru);cases (show some false=some b from h);exact⟨rfl,rfl⟩
 |bl c=>
  rw[Rep]at r1;subst r1;cases (show v'=IM _ from rv)
  cases y<;>try exact absurd (show(none:Option Bool)=some b from h) (fun z=>nomatch z)
  ·rw[Rep]at r2;subst r2;cases (show u'=Iu from ru);cases (show some false=some b from h);exact⟨rfl,rfl⟩
  ·rename_i c';rw[Rep]at r2;subst r2;cases (show u'=IM _ from ru);cases (show some (decide (c=c'))=some b from h);refine⟨rfl,?_⟩;cases c<;>cases c'<;>rfl
 |int i=>
  rw[Rep]at r1;subst r1;obtain⟨t,rfl⟩:=rv
  cases y<;>first|exact absurd (show(none:Option Bool)=some b from h) (fun z=>nomatch z)|(cases (show some false=some b from h);rcases hu with rfl|⟨c,rfl⟩<;>exact⟨rfl,rfl⟩)
 |str i=>
  rw[Rep]at r1;subst r1;obtain⟨t,rfl⟩:=rv
  cases y<;>first|exact absurd (show(none:Option Bool)=some b from h) (fun z=>nomatch z)|(cases (show some false=some b from h);rcases hu with rfl|⟨c,rfl⟩<;>exact⟨rfl,rfl⟩)
 |ty i=>
  rw[Rep]at r1;subst r1;cases (show v'=Value.type _ from rv)
  cases y<;>first|exact absurd (show(none:Option Bool)=some b from h) (fun z=>nomatch z)|(cases (show some false=some b from h);rcases hu with rfl|⟨c,rfl⟩<;>exact⟨rfl,rfl⟩)
 |ref i=>
  rw[Rep]at r1;subst r1;cases (show v'=Iq _ from rv)
  cases y<;>first|exact absurd (show(none:Option Bool)=some b from h) (fun z=>nomatch z)|(cases (show some false=some b from h);rcases hu with rfl|⟨c,rfl⟩<;>exact⟨rfl,rfl⟩)
 |rol i=>
  rw[Rep]at r1;obtain⟨a,xs,rfl,_,_⟩:=r1;cases (show v'=Iq _ from rv)
  cases y<;>first|exact absurd (show(none:Option Bool)=some b from h) (fun z=>nomatch z)|(cases (show some false=some b from h);rcases hu with rfl|⟨c,rfl⟩<;>exact⟨rfl,rfl⟩)
 |tup i=>
  rw[Rep]at r1;obtain⟨a,xs,rfl,_,_⟩:=r1;cases (show v'=Iq _ from rv)
  cases y<;>first|exact absurd (show(none:Option Bool)=some b from h) (fun z=>nomatch z)|(cases (show some false=some b from h);rcases hu with rfl|⟨c,rfl⟩<;>exact⟨rfl,rfl⟩)
theorem dN:OpD X (Hn .Is) GL:=by intro pins s σ H v u v' u' Q I rv ru h;obtain⟨x,y,M,R,r1,r2,a,⟨b,e,q⟩,fin⟩:=h;obtain⟨e1,e2⟩:=oS e r1 r2 rv ru;exact wpAny_is_plain e1 ⟨.bl b,H,I,by rw[e2];rfl,fin _ _ _ _ .refl (by rw[Rep]) a q⟩
theorem rM:OpD X (Hn .IsNot) AX:=by intro pins s σ H v u v' u' Q I rv ru h;obtain⟨x,y,M,R,r1,r2,a,⟨b,e,q⟩,fin⟩:=h;obtain⟨e1,e2⟩:=oS e r1 r2 rv ru;exact wpAny_isNot_plain e1 ⟨.bl (!b),H,I,by rw[e2];rfl,fin _ _ _ _ .refl (by rw[Rep]) a q⟩
end
abbrev RC:=List D->MH->DK->Prop
def Bv(K:cc)(r:RC):List V->Hp->VK->Prop:=fun vs H Q=>∃ds M R,aK K H ds vs/\Abs K H M/\r ds M R/\Fin K H R Q
def cX(X:Cx)(f:G0)(r:RC):Prop:=b8 X f (Bv X.K r)
theorem bT{X:Cx}{f:G0}{r r':List V->Hp->VK->Prop}(h:b8 X f r)(k:∀xs H Q,r' xs H Q->r xs H Q):b8 X f r':=fun pins s σ H xs us Q I a q=>h pins s σ H xs us Q I a (k _ _ _ q)
def Cj(r:RC)(t:TAD):TD:=fun δ M Q=>t δ M fun ds M1=>r ds M1 Q
theorem vF{K:cc}{r:RC}{t:TAD}{σ:L2.St}{H:Hp}{Q:VK}(h:lift K (Cj r t) σ H Q):tCB (Bv K r) (BD K t) σ H Q:=by obtain⟨δ,M,R,hs,hM,q,fin⟩:=h;exact⟨δ,M,_,hs,hM,q,fun ds M1 vs H1 g1 r1 a1 q1=>⟨ds,M1,R,r1,a1,q1,fin.go g1⟩⟩
section
variable{X:Cx}{x:Str}{p pos:Pos}{e:Expr}{es:List Expr}{t:TAD}{id T:String}{r:RC}
theorem aI(hc:cX X (.builtin id) r)(hg:Gl X x)(hm:X.mg x=none)(hv:HX x=some (.builtin id))(ha:DA X (e::es) t)(hn:x≠"__name__":=by decide)(hdb:(x==("__debug__":Str))=false:=by decide) (he:Hc (e::es) X.env=(false,eval e X.env)::Hc es X.env:=by rfl) (hpl:(IV pos (Hc es X.env)).any (·.1)=false:=by rfl):DE X (.Call (.Name x p) (e::es) [] pos) (Cj r t):=bD (xJ hc hg hm hv ha hn hdb he hpl) fun _ _ _ h=>vF h
theorem aT(hc:cX X (.type T) r)(hg:Gl X x)(hm:X.mg x=none)(hv:HX x=some (.type T))(ha:DA X (e::es) t)(hn:x≠"__name__":=by decide)(hdb:(x==("__debug__":Str))=false:=by decide) (he:Hc (e::es) X.env=(false,eval e X.env)::Hc es X.env:=by rfl) (hpl:(IV pos (Hc es X.env)).any (·.1)=false:=by rfl):DE X (.Call (.Name x p) (e::es) [] pos) (Cj r t):=bD (vS hc hg hm hv ha hn hdb he hpl) fun _ _ _ h=>vF h
theorem b6{K:cc}{H:Hp}{d:D}{vs:List V}(h:aK K H [d] vs):∃v,vs=[v]/\Rep K H d v:=by rw[aK]at h;obtain⟨x,r,rfl,h1,h2⟩:=h;rw[aK]at h2;subst h2;exact⟨x,rfl,h1⟩
theorem lV{K:cc}{H:Hp}{d e:D}{vs:List V}(h:aK K H [d,e] vs):∃v u,vs=[v,u]/\Rep K H d v/\Rep K H e u:=by rw[aK]at h;obtain⟨x,r,rfl,h1,h2⟩:=h;obtain⟨u,rfl,h3⟩:=b6 h2;exact⟨x,u,rfl,h1,h3⟩
def FN:RC:=fun ds M Q=>match ds with
 |[.int i]=>Q (.int (i.natAbs:Int)) M
 |_=>False
theorem pZ:cX X (.builtin "abs") FN:=bT zm fun vs H Q z9=>by
 obtain⟨ds,M,R,rs,a,q,fin⟩:=z9;unfold FN at q;split at q
 ·rename_i i;obtain⟨v,rfl,r⟩:=b6 rs;rw[Rep]at r;subst r;have e:(if i<0 then -i else i)=(i.natAbs:Int):=by split<;>omega
  exact⟨_,rfl,fin _ _ _ _ .refl (by rw[Rep,e]) a q⟩
 ·exact q.elim
def FG:RC:=fun ds M Q=>match ds with
 |[.int i,.int j]=>Q (.int (max i j)) M
 |_=>False
def Fj:RC:=fun ds M Q=>match ds with
 |[.int i,.int j]=>Q (.int (min i j)) M
 |_=>False
theorem C0(hc:X.calm=true):cX X (.builtin "max") FG:=bT (wI hc) fun vs H Q z9=>by
 obtain⟨ds,M,R,rs,a,q,fin⟩:=z9;unfold FG at q;split at q
 ·rename_i i j;obtain⟨v,u,rfl,r,r'⟩:=lV rs;rw[Rep]at r;subst r;have r2:u=.int j:=by rw[Rep]at r';exact r'
  subst r2;have e:(if j>i then j else i)=max i j:=by split<;>omega
  exact⟨_,_,rfl,fin _ _ _ _ .refl (by rw[Rep,e]) a q⟩
 ·exact q.elim
theorem C2(hc:X.calm=true):cX X (.builtin "min") Fj:=bT (wy hc) fun vs H Q z9=>by
 obtain⟨ds,M,R,rs,a,q,fin⟩:=z9;unfold Fj at q;split at q
 ·rename_i i j;obtain⟨v,u,rfl,r,r'⟩:=lV rs;rw[Rep]at r;subst r;have r2:u=.int j:=by rw[Rep]at r';exact r'
  subst r2;have e:(if j<i then j else i)=min i j:=by split<;>omega
  exact⟨_,_,rfl,fin _ _ _ _ .refl (by rw[Rep,e]) a q⟩
 ·exact q.elim
def DC:RC:=fun ds M Q=>match ds with
 |[.tup xs]=>Q (.int (xs.length:Int)) M
 |[.rol xs]=>Q (.int (xs.length:Int)) M
 |[.ref l]=>∃xs,M l=some (.lst xs)/\Q (.int (xs.length:Int)) M
 |_=>False
theorem tJ:cX X (.builtin "len") DC:=bT pV fun vs H Q z9=>by
 obtain⟨ds,M,R,rs,a,q,fin⟩:=z9;unfold DC at q;split at q
 ·obtain⟨v,rfl,r⟩:=b6 rs;rw[Rep]at r;obtain⟨l,xs,rfl,h1,h2⟩:=r;exact⟨l,xs,rfl,.inr h1,fin _ _ _ _ .refl (by rw[Rep,h2.length]) a q⟩
 ·obtain⟨v,rfl,r⟩:=b6 rs;rw[Rep]at r;obtain⟨l,xs,rfl,h1,h2⟩:=r;exact⟨l,xs,rfl,.inl h1.sql,fin _ _ _ _ .refl (by rw[Rep,h2.length]) a q⟩
 ·obtain⟨v,rfl,r⟩:=b6 rs;rw[Rep]at r;subst r;obtain⟨xs,e,q⟩:=q;obtain⟨ys,h1,h2⟩:=a _ _ e;exact⟨_,ys,rfl,.inl (SqL.of h1),fin _ _ _ _ .refl (by rw[Rep,h2.length]) a q⟩
 ·exact q.elim
def xM:RC:=fun ds M Q=>match ds with
 |[.tup xs]=>Q (.tup xs) M
 |[.rol xs]=>Q (.tup xs) M
 |[.ref l]=>∃xs,M l=some (.lst xs)/\Q (.tup xs) M
 |_=>False
theorem fu:cX X (.type "tuple") xM:=bT m7 fun vs H Q z9=>by
 obtain⟨ds,M,R,rs,a,q,fin⟩:=z9;unfold xM at q;split at q
 ·obtain⟨v,rfl,r⟩:=b6 rs;rw[Rep]at r;obtain⟨l,xs,rfl,h1,h2⟩:=r;exact⟨l,xs,rfl,.inr ⟨h1,fin _ _ _ _ .refl (by rw[Rep];exact⟨l,xs,rfl,h1,h2⟩) a q⟩⟩
 ·obtain⟨v,rfl,r⟩:=b6 rs;rw[Rep]at r;obtain⟨l,xs,rfl,h1,h2⟩:=r;exact⟨l,xs,rfl,.inl ⟨h1.sql,fun p hp=>fin _ _ _ _ (.new hp) (by rw[Rep];exact⟨p,xs,rfl,SqT.of aY,h2.mono (.new hp)⟩) (a.new hp) q⟩⟩
 ·obtain⟨v,rfl,r⟩:=b6 rs;rw[Rep]at r;subst r;obtain⟨xs,e,q⟩:=q;obtain⟨ys,h1,h2⟩:=a _ _ e;exact⟨_,ys,rfl,.inl ⟨SqL.of h1,fun p hp=>fin _ _ _ _ (.new hp) (by rw[Rep];exact⟨p,ys,rfl,SqT.of aY,h2.mono (.new hp)⟩) (a.new hp) q⟩⟩
 ·exact q.elim
def ze:RC:=fun ds M Q=>match ds with
 |[.int i]=>Q (.int i) M
 |[.bl k]=>Q (.int (if k=true then 1 else 0)) M
 |_=>False
theorem jN:cX X (.type "int") ze:=bT wx fun vs H Q z9=>by
 obtain⟨ds,M,R,rs,a,q,fin⟩:=z9;unfold ze at q;split at q
 ·obtain⟨v,rfl,r⟩:=b6 rs;rw[Rep]at r;subst r;exact .inl ⟨_,rfl,fin _ _ _ _ .refl (by rw[Rep]) a q⟩
 ·obtain⟨v,rfl,r⟩:=b6 rs;rw[Rep]at r;subst r;exact .inr ⟨_,rfl,fin _ _ _ _ .refl (by rw[Rep]) a q⟩
 ·exact q.elim
def tyN:D->Option String
 |.non=>some "NoneType"
 |.bl _=>some "bool"
 |.int _=>some "int"
 |.str _=>some "str"
 |.tup _=>some "tuple"
 |.rol _=>some "list"
 |_=>none
def pG(K:cc):RC:=fun ds M Q=>match ds with
 |[x,.ty n]=>∃t b,tyN x=some t/\Io K (.type t) (.type n)=some b/\Q (.bl b) M
 |_=>False
theorem xb:cX X (.builtin "isinstance") (pG X.K):=by
 intro pins s σ H vs us Q I rv z0;obtain⟨ds,M,R,rs,a,q,fin⟩:=z0;unfold pG at q;split at q
 ·rename_i x n;obtain⟨v,u,rfl,r,r'⟩:=lV rs;rw[Rep]at r';subst r';obtain⟨v',u',rfl,rw0,ru⟩:=vals2 rv;cases (show u'=Value.type n from ru);obtain⟨t,b,et,e,q⟩:=q;have h:∀tk,EP X pins σ Q (.bool b) { s with toks:=tk }:=fun tk=>⟨.bl b,H,I.tok tk,rfl,fin _ _ _ _ .refl (by rw[Rep]) a q⟩;cases x with
  |non=>cases et;rw[Rep]at r;subst r;cases (show v'=Iu from rw0);exact JD PySem.W.kitx_none I.kIn True.intro e (fun z=>nomatch z) h
  |bl y=>cases et;rw[Rep]at r;subst r;cases (show v'=IM y from rw0);exact JD PySem.W.kitx_bool I.kIn True.intro e (fun z=>nomatch z) h
  |int y=>cases et;rw[Rep]at r;subst r;obtain⟨t,q⟩:=(show ∃t,v'=Value.int y t from rw0);cases q;exact JD PySem.W.kitx_int I.kIn True.intro e (fun z=>nomatch z) h
  |str y=>cases et;rw[Rep]at r;subst r;obtain⟨t,q⟩:=(show ∃t,v'=Value.str y t from rw0);cases q;exact JD PySem.W.kitx_str I.kIn True.intro e (fun z=>nomatch z) h
  |tup y=>
   cases et;rw[Rep]at r
   obtain⟨p,xs,rfl,h1,_⟩:=r
   cases (show v'=Iq p from rw0)
   obtain⟨its,_,⟨o,z1,z2,_⟩,_⟩:=I.tuple h1
   exact JD PySem.W.kitx_tuple I.kIn ⟨o,z1,z2⟩ e (fun z=>nomatch z) h
  |rol y=>
   cases et;rw[Rep]at r
   obtain⟨p,xs,rfl,h1,_⟩:=r
   cases (show v'=Iq p from rw0)
   obtain⟨its,_,⟨o,n,z1,z2,_⟩,_⟩:=I.list h1.sql
   exact JD PySem.W.kitx_list I.kIn ⟨o,z1,z2⟩ e (fun z=>nomatch z) h
  |_=>cases et
 ·exact q.elim
end
abbrev TGD:=D->DS->MH->(DS->MH->Prop)->Prop
abbrev mI:=List D->DS->MH->(DS->MH->Prop)->Prop
section
variable(K:cc)
def yt(H:Hp)(R:DS->MH->Prop)(Q:L2.St->Hp->Prop):Prop:=∀δ' M' σ' H',Grow K H H'->Slots K H' δ' σ'->Abs K H' M'->R δ' M'->Q σ' H'
def Ez(t:TGD):TG:=fun v σ H Q=>∃d δ M R,Rep K H d v/\Slots K H δ σ/\Abs K H M/\t d δ M R/\yt K H R Q
def Ec(t:mI):TGs:=fun vs σ H Q=>∃ds δ M R,aK K H ds vs/\Slots K H δ σ/\Abs K H M/\t ds δ M R/\yt K H R Q
end
theorem yt.go{K:cc}{H H1:Hp}{R:DS->MH->Prop}{Q:L2.St->Hp->Prop}(g:Grow K H H1)(h:yt K H R Q):yt K H1 R Q:=fun d M v H' g'=>h d M v H' (g.trans g')
def DG(X:Cx)(e:Expr)(t:TGD):Prop:=PG X e (Ez X.K t)
def DGs(X:Cx)(es:List Expr)(t:mI):Prop:=PGs X es (Ec X.K t)
theorem mV{X:Cx}{e:Expr}{t t':TG}(h:PG X e t)(k:∀v σ H Q,t' v σ H Q->t v σ H Q):PG X e t':=fun pins s σ H v u Q I r q=>h pins s σ H v u Q I r (k _ _ _ _ q)
theorem uX{X:Cx}{e:List Expr}{t t':TGs}(h:PGs X e t)(k:∀v σ H Q,t' v σ H Q->t v σ H Q):PGs X e t':=fun pins s σ H v u Q I r q=>h pins s σ H v u Q I r (k _ _ _ _ q)
section
variable{X:Cx}{pos:Pos}
def aJ(i:Nat):TGD:=fun d δ M Q=>Q (δ.set i (some d)) M
theorem aB(i:Nat){x:Str}(hN:X.N.Nodup)(hi:X.N[i]?=some x:=by rfl)(hx:Loc X.env.scope x:=by first|exact Or.inl rfl|exact Or.inr rfl)(hf:X.fn x=true\/X.env.scope.names.lookup x=some .local:=by first|exact .inl rfl|exact .inr rfl|assumption):DG X (.Name x pos) (aJ i):=mV (vk hN hi hx hf) fun v σ H Q zz1_0=>by obtain⟨d,δ,M,R,r,hs,a,q,fin⟩:=zz1_0;exact(fin _ _ _ _ .refl (hs.set r i) a q)
def Cc:mI:=fun ds δ M Q=>ds=[]/\Q δ M
inductive gConsD(t:TGD)(u:mI)(ds:List D)(δ:DS)(M:MH)(Q:DS->MH->Prop):Prop
 |mk (d:D) (r:List D) (h:ds=d::r) (q:t d δ M fun δ' M'=>u r δ' M' Q):gConsD t u ds δ M Q
theorem aX:DGs X [] Cc:=uX vA fun vs σ H Q z9=>by obtain⟨ds,δ,M,R,rs,hs,a,⟨e,q⟩,fin⟩:=z9;subst e;rw[aK]at rs;exact⟨rs,fin _ _ _ _ .refl hs a q⟩
theorem aw{e:Expr}{es:List Expr}{t:TGD}{u:mI}(h1:DG X e t)(h2:DGs X es u) (hs:(Im (e::es) X.env).map (·.2)=assign e X.env::(Im es X.env).map (·.2):=by rfl):DGs X (e::es) (gConsD t u):=uX (lh h1 h2 hs) fun vs σ H Q z9=>by obtain⟨ds,δ,M,R,rs,hs,a,⟨d,r,e,q⟩,fin⟩:=z9;subst e;rw[aK]at rs;obtain⟨x,xs,rfl,r1,r2⟩:=rs;exact⟨x,xs,rfl,d,δ,M,_,r1,hs,a,q,fun δ' M' σ' H' g' s' a' q'=>⟨r,δ',M',R,r2.mono g',s',a',q',fin.go g'⟩⟩
inductive gTupD(n:Nat)(t:mI)(d:D)(δ:DS)(M:MH)(Q:DS->MH->Prop):Prop
 |mk (ds:List D) (h:d=.tup ds) (q:ds.length=n/\t ds δ M Q):gTupD n t d δ M Q
theorem bC{es:List Expr}{k:Nat}{t:mI}{n:Nat}(hc:X.calm=true)(h:DGs X es t) (hn:(Im es X.env).length=n:=by rfl) (hst:(Im es X.env).findIdx? (·.1)=none:=by rfl):DG X (.Tuple es k pos) (gTupD n t):=mV (y8 hc h hn hst) fun v σ H Q z9=>by obtain⟨d,δ,M,R,r,hs,a,⟨ds,e,hl,q⟩,fin⟩:=z9;subst e;rw[Rep]at r;obtain⟨p,xs,rfl,h1,h2⟩:=r;exact⟨p,xs,rfl,h1,by rw[<-h2.length];exact hl,ds,δ,M,R,h2,hs,a,q,fin⟩
def BE:D->D->D->MH->(MH->Prop)->Prop:=fun o i v M Q=>match o,i with
 |.ref p,.int k=>∃ds j,M p=some (.lst ds)/\ixN ds.length k=some j/\Q (av M p (.lst (ds.set j v)))
 |_,_=>False
def FF(to ti:TD):TGD:=fun v δ M Q=>to δ M fun o M1=>ti δ M1 fun i M2=>BE o i v M2 fun M3=>Q δ M3
theorem tF{o i:Expr}{to ti:TD}(ho:DE X o to)(hi:DE X i ti)
 (ha:∀v,assign (.Subscript o i pos) X.env v=(do
  let ov <-holding [v] (eval o X.env)
  let iv <-holding [v,ov] (eval i X.env)
  standAt pos
  holding [v,ov,iv] (setItem ov iv v)
  release [v,ov,iv] []):=by intro _;rfl):DG X (.Subscript o i pos) (FF to ti):=
 mV (Cg ho hi set_list ha) fun v σ H Q ⟨d,δ,M,R,r,hs,a,q,fin⟩=>
  ⟨δ,M,_,hs,a,q,fun o M1 vo H1 g1 r1 a1 q1=>⟨δ,M1,_,hs.mono g1,a1,q1,fun i M2 vi H2 g2 r2 a2 q2=>by
   unfold BE at q2
   split at q2
   ·obtain⟨ds,j,e1,e2,q2⟩:=q2
    obtain rfl:vo=.ref _:=r1
    obtain rfl:vi=.int _:=r2
    obtain⟨xs,h1,h2⟩:=a2 _ _ e1
    refine⟨_,xs,_,j,rfl,rfl,h1,by rw[<-h2.length];exact e2,?_⟩
    have g3:Grow X.K H2 (upd H2 _ (.lst (xs.set j v))):=.lst h1
    exact fin _ _ _ _ ((g1.trans g2).trans g3) (hs.mono ((g1.trans g2).trans g3)) (a2.C1 h1 (h2.set (r.mono (g1.trans g2)) j)) q2
   ·exact q2.elim⟩⟩
end
section
variable{X:Cx}{pos:Pos}{st:Stmt}{rest:List Stmt}{t u:TSD}
def a9:TSD:=fun B δ M=>B.nx δ M
def bK(t u:TSD):TSD:=fun B δ M=>t { B with nx:=u B } δ M
theorem aD:DSs X [] a9:=qw Aq fun E σ H zz2_0=>by obtain⟨δ,M,hs,a,B,ok,q⟩:=zz2_0;exact(ok.nx _ _ _ _ .refl hs a q)
theorem ai(h1:DSt X st t)(h2:DSs X rest u):DSs X (st::rest) (bK t u):=qw (rF h1 h2) fun E σ H zz3_0=>by obtain⟨δ,M,hs,a,B,ok,q⟩:=zz3_0;exact(⟨δ,M,hs,a,{ B with nx:=u B },⟨fun δ' M' σ' H' g s' a' q'=>⟨δ',M',s',a',B,ok.go g,q'⟩,ok.rt,ok.bk,ok.ct⟩,q⟩)
theorem aj(h1:DSt X st t):DSs X [st] t:=uJ h1
def uZ:TSD:=fun _ _ _=>False
theorem lK:DSt X st uZ:=dA yE fun E σ H zz7_0=>by obtain⟨δ,M,hs,a,B,ok,q⟩:=zz7_0;exact(q.elim)
theorem nL{sts:List Stmt}:DSs X sts uZ:=qw wo fun E σ H zz8_0=>by obtain⟨δ,M,hs,a,B,ok,q⟩:=zz8_0;exact(q.elim)
def bg(te:TD):TSD:=fun B δ M=>te δ M fun _ M1=>B.nx δ M1
theorem cO{e:Expr}{te:TD}(he:DE X e te)(hs:swapsWith e none pos.line X.env=pure false:=by rfl):DSt X (.Expr e pos) (bg te):=dA (vB he hs) fun E σ H zz9_0=>by obtain⟨δ,M,hs,a,B,ok,q⟩:=zz9_0;exact(⟨δ,M,_,hs,a,q,fun d M1 v H1 g1 r1 a1 q1=>ok.nx _ _ _ _ g1 (hs.mono g1) a1 q1⟩)
def bO(te:TD):TSD:=fun B δ M=>te δ M B.rt
theorem ay{e:Expr}{te:TD}(he:DE X e te):DSt X (.Return (some e) pos) (bO te):=dA (Dq he) fun E σ H zz10_0=>by obtain⟨δ,M,hs,a,B,ok,q⟩:=zz10_0;exact(⟨δ,M,_,hs,a,q,fun d M1 v H1 g1 r1 a1 q1=>ok.rt _ _ _ _ g1 r1 a1 q1⟩)
def bR(c:TTD)(t u:TSD):TSD:=fun B δ M=>c δ M fun b M1=>if b=true then t B δ M1 else u B δ M1
theorem aL{c:Expr}{a b:List Stmt}{tc:TTD}(hc:DT X c tc)(ha:DSs X a t)(hb:DSs X b u):DSt X (.If c a b pos) (bR tc t u):=
 dA (Eo hc ha hb) fun E σ H zz12_0=>by obtain⟨δ,M,hs,a,B,ok,q⟩:=zz12_0;exact(⟨δ,M,_,hs,a,q,fun c M1 H1 g1 a1 q1=>by
  cases c with
  |true=>rw[if_pos rfl]at q1 ⊢;exact⟨δ,M1,hs.mono g1,a1,B,ok.go g1,q1⟩
  |false=>rw[if_neg G6]at q1 ⊢;exact⟨δ,M1,hs.mono g1,a1,B,ok.go g1,q1⟩⟩)
def bH(te:TD)(g:TGD):TSD:=fun B δ M=>te δ M fun d M1=>g d δ M1 B.nx
theorem cI{tg e:Expr}{te:TD}{g:TGD}(he:DE X e te)(hg:DG X tg g)(hs:swapsWithSole [tg] e pos.line X.env=pure false:=by rfl)(hw:swappedStores [tg] e X.env=pure none:=by rfl)
 (h1:(Im [tg] X.env).map (·.2)=[assign tg X.env]:=by rfl):DSt X (.Assign [tg] e pos) (bH te g):=
 dA (Eb he hg hs hw h1) fun E σ H zz13_0=>by obtain⟨δ,M,hs,a,B,ok,q⟩:=zz13_0;exact(⟨δ,M,_,hs,a,q,fun d M1 v H1 g1 r1 a1 q1=>
  ⟨d,δ,M1,B.nx,r1,hs.mono g1,a1,q1,fun δ' M' σ' H' g' s' a' q'=>ok.nx _ _ _ _ (g1.trans g') s' a' q'⟩⟩)
theorem ax(i:Nat){x:Str}{e:Expr}{te:TD}{pos':Pos}(hN:X.N.Nodup)(he:DE X e te)(hi:X.N[i]?=some x:=by rfl)(hx:Loc X.env.scope x:=by first|exact Or.inl rfl|exact Or.inr rfl)(hs:swapsWith e (some (.Name x pos')) pos.line X.env=pure false:=by rfl) (hf:X.fn x=true\/X.env.scope.names.lookup x=some .local:=by first|exact .inl rfl|exact .inr rfl|assumption):DSt X (.Assign [.Name x pos'] e pos) (bH te (aJ i)):=dA (D4 hN hi hx he hs hf) fun E σ H zz14_0=>by obtain⟨δ,M,hs,a,B,ok,q⟩:=zz14_0;exact(⟨δ,M,_,hs,a,q,fun d M1 v H1 g1 r1 a1 q1=>ok.nx _ _ _ _ g1 ((hs.mono g1).set r1 i) a1 q1⟩)
def E3(i j:Nat)(ta:TAD):TSD:=fun B δ M=>ta δ M fun ds M1=>∃d e,ds=[d,e]/\B.nx ((δ.set i (some d)).set j (some e)) M1
theorem fo(i j:Nat){x y:Str}{a b:Expr}{ta:TAD}{px py pt:Pos}{kt k2 pt2}(hc:X.calm=true)(hN:X.N.Nodup)(ha:DA X [a,b] ta)(hij:i≠j:=by decide)(hi:X.N[i]?=some x:=by rfl)(hj:X.N[j]?=some y:=by rfl)
 (hx:X.env.scope.names.lookup x=some .local:=by rfl) (hy:X.env.scope.names.lookup y=some .local:=by rfl)
 (hw:swappedStores [.Tuple [.Name x px,.Name y py] kt pt] (.Tuple [a,b] k2 pt2) X.env=pure (some [x,y]):=by rfl)
 (hs:swapsWithSole [.Tuple [.Name x px,.Name y py] kt pt] (.Tuple [a,b] k2 pt2) pos.line X.env=pure false:=by rfl) :
 DSt X (.Assign [.Tuple [.Name x px,.Name y py] kt pt] (.Tuple [a,b] k2 pt2) pos) (E3 i j ta):=
 dA (Dm hc hN hi hj hij hx hy ha hw hs) fun E σ H zz15_0=>by obtain⟨δ,M,hs,a,B,ok,q⟩:=zz15_0;exact(⟨δ,M,_,hs,a,q,fun ds M1 vs H1 g1 r1 a1 z9=>by
  obtain⟨d,e,z,q1⟩:=z9
  subst z
  obtain⟨v,u,rfl,r2,r3⟩:=lV r1
  exact⟨v,u,rfl,ok.nx _ _ _ _ g1 (((hs.mono g1).set r2 i).set r3 j) a1 q1⟩⟩)
def AD(c:TTD)(tb:TSD):TSD:=fun B δ M=>∃W:Nat->DS->MH->Prop,(∃m,W m δ M)/\∀m δ M,W m δ M->
 c δ M fun b M1=>if b=true then tb { B with nx:=fun δ' M'=>∃m',m'<m/\W m' δ' M',ct:=fun δ' M'=>∃m',m'<m/\W m' δ' M',bk:=B.nx } δ M1 else B.nx δ M1
theorem qC{c:Expr}{body:List Stmt}{tc:TTD}{tb:TSD}(hp:PassesOwn (Hm X.prog X.w) X.A X.env X.xe)(hc:DT X c tc)(hb:DSs X body tb):DSt X (.While c body [] pos) (AD tc tb):=
 dA (xl hp hc hb) fun E σ H z9=>by
  obtain⟨δ,M,hs,a,B,ok,W,⟨m,w0⟩,turn⟩:=z9
  refine⟨fun m σ H'=>Grow X.K H H'/\∃δ M,Slots X.K H' δ σ/\Abs X.K H' M/\W m δ M,⟨m,.refl,δ,M,hs,a,w0⟩,?_⟩
  rintro m σ H' ⟨g,δ,M,hs,a,w0⟩
  refine⟨δ,M,_,hs,a,turn m δ M w0,fun b M1 H1 g1 a1 q1=>?_⟩
  cases b with
  |true=>
   rw[if_pos rfl]at q1 ⊢
   refine⟨fun σ2 H2=>∃m',m'<m/\(Grow X.K H H2/\∃δ M,Slots X.K H2 δ σ2/\Abs X.K H2 M/\W m' δ M),fun σ' H' h=>h,δ,M1,hs.mono g1,a1,_,?_,q1⟩
   refine⟨fun δ' M' σ' H' g' s' a' zz16_0=>by obtain⟨m',l,w'⟩:=zz16_0;exact(⟨m',l,(g.trans g1).trans g',δ',M',s',a',w'⟩),fun d M v H' g'=>ok.rt d M v H' ((g.trans g1).trans g'),fun δ' M' σ' H' g' s' a' q'=>ok.nx _ _ _ _ ((g.trans g1).trans g') s' a' q',fun δ' M' σ' H' g' s' a' zz17_0=>by obtain⟨m',l,w'⟩:=zz17_0;exact(⟨m',l,(g.trans g1).trans g',δ',M',s',a',w'⟩)⟩
  |false=>
   rw[if_neg G6]at q1 ⊢
   exact ok.nx _ _ _ _ (g.trans g1) (hs.mono g1) a1 q1
inductive ForW(g:TGD)(tb:TSD)(B:EndsD)(n:Nat)(δ0:DS)(M0:MH):Prop
 |mk (W:Nat->DS->MH->Prop) (w0:W 0 δ0 M0) (turn:∀i δ M,i<n->W i δ M->g (.int (i:Int)) δ M fun δ2 M2=>tb { B with nx:=W (i+1),ct:=W (i+1),bk:=B.nx } δ2 M2) (done:∀δ M,W n δ M->B.nx δ M):ForW g tb B n δ0 M0
inductive ForR(g:TGD)(tb:TSD)(B:EndsD)(ds:List D)(δ0:DS)(M0:MH):Prop
 |mk (n:Nat) (e:ds=[.int (n:Int)]) (q:n<2^60/\ForW g tb B n δ0 M0):ForR g tb B ds δ0 M0
def CN(ta:TAD)(g:TGD)(tb:TSD):TSD:=fun B δ M=>ta δ M fun ds M1=>ForR g tb B ds δ M1
theorem jC{tg e:Expr}{body:List Stmt}{ta:TAD}{g:TGD}{tb:TSD}{p p2:Pos}(hp:PassesOwn (Hm X.prog X.w) X.A X.env X.xe)(hc:X.calm=true)(hg:Gl X "range")(hm:X.mg "range"=none)(ha:DA X [e] ta)(hG:DG X tg g)(hb:DSs X body tb)
 (hs:Hc [e] X.env=[(false,eval e X.env)]:=by rfl) (hf:∀x,IK (.Call (.Name "range" p) [e] [] p2) X.env x=pure x:=by intro _;rfl):DSt X (.For tg (.Call (.Name "range" p) [e] [] p2) body [] pos) (CN ta g tb):=
 dA (xm hp hc (oB hg hm ha hs) hG hb hf) fun E σ H ⟨δ,M,hs,a,B,ok,q⟩=>⟨δ,M,_,hs,a,q,fun ds M1 vs H1 g1 r1 a1 z9=>by
  obtain⟨n,e,hn,W,w0,turn,done⟩:=z9
  subst e
  obtain⟨v,rfl,r⟩:=b6 r1
  rw[Rep]at r;subst r
  refine⟨(n:Int),rfl,by omega,by omega,?_⟩
  rw[show((n:Int)).toNat=n from by simp]
  refine wF (fun i σ H'=>Grow X.K H H'/\∃δ M,Slots X.K H' δ σ/\Abs X.K H' M/\W i δ M) ⟨g1,δ,M1,hs.mono g1,a1,w0⟩ ?_ ?_
  ·rintro i σ H2 hi ⟨g2,δ,M,s2,a2,w2⟩
   refine⟨.int (i:Int),δ,M,_,by rw[Rep];simp,s2,a2,turn i δ M hi w2,fun δ3 M3 σ3 H3 g3 s3 a3 q3=>?_⟩
   refine⟨δ3,M3,s3,a3,_,?_,q3⟩
   exact⟨fun δ' M' σ' H' g' s' a' w'=>⟨(g2.trans g3).trans g',δ',M',s',a',w'⟩,fun d M v H' g'=>ok.rt d M v H' ((g2.trans g3).trans g'),fun δ' M' σ' H' g' s' a' q'=>ok.nx _ _ _ _ ((g2.trans g3).trans g') s' a' q',fun δ' M' σ' H' g' s' a' w'=>⟨(g2.trans g3).trans g',δ',M',s',a',w'⟩⟩
  ·rintro σ H2 ⟨g2,δ,M,s2,a2,w2⟩
   exact ok.nx _ _ _ _ g2 s2 a2 (done δ M w2)⟩
end
theorem bJ{b:Bool}{A B:Prop}(e:b=true)(h:A):if b=true then A else B:=by rw[if_pos e];exact h
theorem b7{b:Bool}{A B:Prop}(e:b=false)(h:B):if b=true then A else B:=by rw[if_neg (by rw[e];exact G6)];exact h
theorem orV{ta tb:TD}{δ:DS}{M:MH}{Q:DK}(c1 c2:Bool)(ha:∀K:DK,K (.bl c1) M->ta δ M K)(hb:c1=false->∀K:DK,K (.bl c2) M->tb δ M K)(hq:Q (.bl (c1||c2)) M):Cb ta tb δ M Q:=
 ha _ ⟨c1,rfl,by
  cases c1 with
  |true=>rw[if_pos rfl];exact hq
  |false=>rw[if_neg G6];exact hb rfl _ hq⟩
theorem wD{ta tb:TD}{δ:DS}{M:MH}{Q:DK}(c1 c2:Bool)(ha:∀K:DK,K (.bl c1) M->ta δ M K)(hb:c1=true->∀K:DK,K (.bl c2) M->tb δ M K)(hq:Q (.bl (c1&&c2)) M):yn ta tb δ M Q:=
 ha _ ⟨c1,rfl,by
  cases c1 with
  |true=>rw[if_pos rfl];exact hb rfl _ hq
  |false=>rw[if_neg G6];exact hq⟩
theorem orT{ta tb:TTD}{δ:DS}{M:MH}{Q:Bool->MH->Prop}(c1 c2:Bool)(ha:∀K:Bool->MH->Prop,K c1 M->ta δ M K)(hb:c1=false->∀K:Bool->MH->Prop,K c2 M->tb δ M K)(hq:Q (c1||c2) M):Ff ta tb δ M Q:=
 ha _ (by
  cases c1 with
  |true=>rw[if_pos rfl];exact hq
  |false=>rw[if_neg G6];exact hb rfl _ hq)
theorem kb{ta tb:TTD}{δ:DS}{M:MH}{Q:Bool->MH->Prop}(c1 c2:Bool)(ha:∀K:Bool->MH->Prop,K c1 M->ta δ M K)(hb:c1=true->∀K:Bool->MH->Prop,K c2 M->tb δ M K)(hq:Q (c1&&c2) M):BS ta tb δ M Q:=
 ha _ (by
  cases c1 with
  |true=>rw[if_pos rfl];exact hb rfl _ hq
  |false=>rw[if_neg G6];exact hq)
def qk(r r':R2D)(ta tb tc:TD):TD:=fun δ M Q=>ta δ M fun x M1=>tb δ M1 fun y M2=>r x y M2 fun z M3=>∃k,z=.bl k/\if k=true then tc δ M3 fun u M4=>r' y u M4 Q else Q (.bl false) M3
theorem yP{X:Cx}{a b c:Expr}{ta tb tc:TD}{pos:Pos}{op op':CmpOp}{r r':R2D}(ho:OpD X (Hn op) r)(ho':OpD X (Hn op') r')(ha:DE X a ta)(hb:DE X b tb)(hc:DE X c tc)
 (hm:lastMarks [op,op'] [b,c]=false:=by with_unfolding_all rfl):DE X (.Compare a [op,op'] [b,c] pos) (qk r r' ta tb tc):=
 bD (xX ho ho' ha hb hc hm) fun σ H Q z9=>by
  obtain⟨δ,M,R,hs,hM,q,fin⟩:=z9
  refine⟨δ,M,_,hs,hM,q,fun x M1 v H1 g1 r1 a1 q1=>?_⟩
  refine⟨δ,M1,_,hs.mono g1,a1,q1,fun y M2 u H2 g2 r2 a2 q2=>?_⟩
  refine⟨x,y,M2,_,r1.mono g2,r2,a2,q2,fun z M3 w H3 g3 r3 a3 zz18_0=>?_⟩
  obtain⟨k,e,q3⟩:=zz18_0
  subst e
  rw[Rep]at r3
  refine⟨k,r3,?_⟩
  cases k with
  |true=>
   rw[if_pos rfl]at q3 ⊢
   exact⟨δ,M3,_,hs.mono ((g1.trans g2).trans g3),a3,q3,fun u' M4 w' H4 g4 r4 a4 q4=>⟨y,u',M4,R,r2.mono (g3.trans g4),r4,a4,q4,fin.go (((g1.trans g2).trans g3).trans g4)⟩⟩
  |false=>
   rw[if_neg G6]at q3 ⊢
   exact fin _ _ _ _ ((g1.trans g2).trans g3) (by rw[Rep]) a3 q3
theorem aV{t u:TSD}{B:EndsD}{δ:DS}{M:MH}(W:DS->MH->Prop)(hu:∀δ' M',W δ' M'->u B δ' M')(ht:(∀δ' M',W δ' M'->u B δ' M')->t { B with nx:=u B } δ M):bK t u B δ M:=ht hu
def Sub(M' M:MH):Prop:=∀a o,M' a=some o->M a=some o
def qo(r:Addr)(M' M:MH):Prop:=∀a o,a≠r->M' a=some o->M a=some o
theorem Sub.refl{M:MH}:Sub M M:=fun _ _ h=>h
theorem Sub.trans{M M1 M2:MH}(a:Sub M M1)(b:Sub M1 M2):Sub M M2:=fun x o h=>b x o (a x o h)
theorem Sub.new{M M':MH}{p:Addr}{o:MO}(hp:M p=none)(s:Sub M' M):Sub M' (av M p o):=fun a u h=>by rw[ao (fun e=>by subst e;rw[s _ _ h]at hp;cases hp)];exact s _ _ h
theorem qo.refl{M:MH}{r:Addr}:qo r M M:=fun _ _ _ h=>h
theorem qo.new{M M':MH}{r p:Addr}{o:MO}(hp:M p=none)(s:qo r M' M):qo r M' (av M p o):=fun a u ne h=>by rw[ao (fun e=>by subst e;rw[s _ _ ne h]at hp;cases hp)];exact s _ _ ne h
theorem qo.same{M M':MH}{r:Addr}{o:MO}(s:qo r M' M):qo r M' (av M r o):=fun a u ne h=>by rw[ao ne];exact s _ _ ne h
theorem Sub.Ei{M M':MH}{r:Addr}{o:MO}(s:qo r M' M):Sub (av M' r o) (av M r o):=fun a u h=>by
 by_cases e:a=r
 ·subst e;rw[ag]at h ⊢;exact h
 ·rw[ao e]at h ⊢;exact s _ _ e h
inductive Ret(Q:DK)(d:D)(M:MH):Prop
 |mk (M':MH) (s:Sub M' M) (q:Q d M'):Ret Q d M
theorem rtn{Q:DK}{d:D}{M:MH}(q:Q d M):Ret Q d M:=⟨M,.refl,q⟩
abbrev SpD:=List D->MH->DK->Prop
def iV(K:cc)(sp:SpD):Sp:=fun vs H Q _=>∃ds M R,aK K H ds vs/\Abs K H M/\sp ds M R/\Fin K H R Q
def Cal(P:Hi)(w:HL)(K:cc)(mg:Str->Option G0)(base:Heap)(k:Nat)(x:Str)(sp:SpD):Prop:=
 ∃f fd ps,FnOk P w K mg base CX0 k f fd ps (iV K sp)/\mg x=some (.ref f)/\Jd K (.ref f)=true/\Binds K fd ps []
theorem Cal.mono{P:Hi}{w:HL}{K:cc}{mg:Str->Option G0}{base:Heap}{j k:Nat}{x:Str}{sp:SpD}(h:Cal P w K mg base j x sp)(l:j<=k):Cal P w K mg base k x sp:=let⟨f,fd,ps,F,r⟩:=h;⟨f,fd,ps,F.mono l,r⟩
section
variable{X:Cx}{k:Nat}{x:Str}{sp:SpD}{p pos:Pos}{e:Expr}{es:List Expr}{t:TAD}
def DL(sp:SpD)(t:TAD):TD:=fun δ M Q=>t δ M fun ds M1=>sp ds M1 Q
theorem ak(C:Cal X.prog X.w X.K X.mg X.base k x sp)(hr:Room k X.A)(ha:DA X (e::es) t)(hg:Gl X x:=by rfl)(hdb:(x==("__debug__":Str))=false:=by decide)
 (he:Hc (e::es) X.env=(false,eval e X.env)::Hc es X.env:=by rfl) (hpl:(IV pos (Hc es X.env)).any (·.1)=false:=by rfl):DE X (.Call (.Name x p) (e::es) [] pos) (DL sp t):=by
 obtain⟨f,fd,ps,F,hm,hk,hb⟩:=C
 refine bD (A5 F hr hg hm hk hb .nil FK ha hdb he hpl) fun σ H Q zz19_0=>?_
 obtain⟨δ,M,R,hs,hM,q,fin⟩:=zz19_0
 refine⟨δ,M,_,hs,hM,q,fun ds M1 vs H1 g1 r1 a1 q1=>?_⟩
 show iV X.K sp (vs++[]) H1 Q E0
 rw[J0]
 exact⟨ds,M1,R,r1,a1,q1,fin.go g1⟩
end
def fX(N:List Str)(ds:List D):DS:=ds.map some++Jx (N.length-ds.length) none
section
variable{P:Hi}{w:HL}{K:cc}{mg:Str->Option G0}{base:Heap}
theorem fnD{x qual:Str}{st:Stmt}{f:Addr}{fd:Jc}{N ps:List Str}{k:Nat}{sp:SpD}(F:Fun K x qual st f fd)(S:FnScope N ps (aq st))(len:∀ds M Q,sp ds M Q->ds.length=ps.length)
 (hbody:∀X:Cx,X.prog=P->True) (body:∀(cdv:G0) (A:HM) (outer:List Env) (s:G3) (H:Hp) (E:XK),Room k (A.deeper (envOfC qual (aq st) s.heap.objs.size f cdv))->
  ∃t,DSs (bQ CX0 P w K mg base N qual (aq st) f cdv A outer s H E).nox (bo st) t/\∀ds M Q,sp ds M Q->t { nx:=fun _ M'=>Ret Q .non M',rt:=Ret Q } (fX N ds) M):FnOk P w K mg base CX0 (k+1) f fd ps (iV K sp):=by
 refine F.ok S (fun vs H Q E zz20_0=>by obtain⟨ds,M,R,rs,_,q,_⟩:=zz20_0;rw[<-rs.length];exact len _ _ _ q) fun cdv A outer s H vs Q E hr zz21_0=>?_
 obtain⟨ds,M,R,rs,a,q,fin⟩:=zz21_0
 obtain⟨t,h,hq⟩:=body cdv A outer s H E hr
 refine⟨_,h,fX N ds,M,kq rs,a,{ nx:=fun _ M'=>Ret R .non M',rt:=Ret R },⟨fun δ' M' σ' H' g s' a' q'=>?_,fun d M' v H' g r a' zz22_0=>by obtain⟨M2,s2,q'⟩:=zz22_0;exact(fin _ _ _ _ g r (a'.sub s2) q'),fun _ _ _ _ _ _ _ z=>z,fun _ _ _ _ _ _ _ z=>z⟩,hq ds M R q⟩
 obtain⟨M2,s2,q'⟩:=q'
 exact fin .non M2 .non H' g (by rw[Rep]) (a'.sub s2) q'
def Txt(K:cc)(mg:Str->Option G0)(x:Str)(st:Stmt):Prop:=∃f fd,Fun K x x st f fd/\mg x=some (.ref f)
theorem Txt.mk{h:Heap}{x:Str}{st:Stmt}{f:Addr}{oc:G0}{od an:Option Addr}{osl:Array (Option G0)}{kV doc pm cdv ct:G0}(X:K.In h)(G:h.Ns HK mg)(a:Ih K HK x=some (some (.ref f))) (l:K.lookup f=some ⟨oc,od,.func (IQ x x (cb st) (bo st) (aq st) .none kV doc pm an cdv ct),osl⟩) (c:PySem.W.codeIn K cdv x=true) (k:Jd K (.ref f)=true):Txt K mg x st:=⟨f,_,zr l c k,PySem.W.mg_of X G a⟩
theorem sE{x:Str}{st:Stmt}{N ps:List Str}{k:Nat}{sp:SpD}(T:Txt K mg x st)(S:FnScope N ps (aq st))
 (hb:∀(kV doc pm:G0) (an:Option Addr) (cdv ct:G0) (us:List G0),us.length=ps.length->bindArgs (IQ x x (cb st) (bo st) (aq st) .none kV doc pm an cdv ct) ⟨us,[]⟩=pure (ps.zip us))
 (len:∀ds M Q,sp ds M Q->ds.length=ps.length)
 (body:∀(f:Addr) (cdv:G0) (A:HM) (outer:List Env) (s:G3) (H:Hp) (E:XK),Room k (A.deeper (envOfC x (aq st) s.heap.objs.size f cdv))->
  ∃t,DSs (bQ CX0 P w K mg base N x (aq st) f cdv A outer s H E).nox (bo st) t/\∀ds M Q,sp ds M Q->t { nx:=fun _ M'=>Ret Q .non M',rt:=Ret Q } (fX N ds) M):Cal P w K mg base (k+1) x sp:=by
 obtain⟨f,fd,F,hm⟩:=T
 exact⟨f,fd,ps,fnD F S len (fun _ _=>trivial) (body f),hm,F.kp,F.binds hb⟩
end
theorem qa:HX "abs"=some (.builtin "abs"):=by decide +kernel
theorem yM:HX "max"=some (.builtin "max"):=by decide +kernel
theorem yJ:HX "min"=some (.builtin "min"):=by decide +kernel
theorem cz:HX "len"=some (.builtin "len"):=by decide +kernel
theorem x9:HX "all"=some (.builtin "all"):=by decide +kernel
theorem bB:HX "isinstance"=some (.builtin "isinstance"):=by decide +kernel
theorem fB:HX "tuple"=some (.type "tuple"):=by decide +kernel
theorem zW:HX "list"=some (.type "list"):=by decide +kernel
theorem dj:HX "int"=some (.type "int"):=by decide +kernel
theorem xG:HX "str"=some (.type "str"):=by decide +kernel
section
variable{P:Hi}{w:HL}{K:cc}{mg:Str->Option G0}
theorem Ga{x:Str}{st:Stmt}{N:List Str}{p:Str}{k:Nat}{sp:SpD}{fa:Addr}(T:Txt K mg x st)(hfa:mg x=some (.ref fa))(S:FnScope N [p] (aq st))
 (hb:∀(kV doc pm:G0) (an:Option Addr) (cdv ct:G0) (us:List G0),us.length=[p].length->bindArgs (IQ x x (cb st) (bo st) (aq st) .none kV doc pm an cdv ct) ⟨us,[]⟩=pure ([p].zip us))
 (len:∀ds M Q,sp ds M Q->ds.length=[p].length)
 (body:∀(base:Heap) (f:Addr) (cdv:G0) (A:HM) (outer:List Env) (s:G3) (H:Hp) (E:XK),Room k (A.deeper (envOfC x (aq st) s.heap.objs.size f cdv))->
  ∃t,DSs (bQ CX0 P w K mg base N x (aq st) f cdv A outer s H E).nox (bo st) t/\∀ds M Q,sp ds M Q->t { nx:=fun _ M'=>Ret Q .non M',rt:=Ret Q } (fX N ds) M) :
 ∃fd,(∀(s:G3) (u:G0),BindsTo s fd ⟨[u],[]⟩ [(p,u)])/\∀base:Heap,FnOk P w K mg base CX0 (k+1) fa fd [p] (iV K sp):=by
 obtain⟨f,fd,F,hm⟩:=T
 have e:=hfa.symm.trans hm
 cases e
 refine⟨fd,fun s u=>?_,fun base=>fnD F S len (fun _ _=>trivial) (body base _)⟩
 obtain⟨oc,od,kV,doc,pm,an,cdv,ct,osl,rfl,lk,hcd⟩:=F.ex
 exact .of_eq (hb kV doc pm an cdv ct [u] rfl)
end
theorem yG{l:PySem.W.OpenLaw}{k:Nat}{q:Hi}{loose:List Str}{XP:(Str->Option G0)->Heap->Prop}{YP:HL->Heap->Prop}{d:DefRec}{K:GW->cc}{sp:SpD}{x:Str}
 (hn:l.most=some 63) (hdf:d.params.defaults=[]) (hr:Room k callerA)
 (hY:∀(w:HL) (h:Heap),YP w h->(K w.params).In h)
 (F:∀(w:HL) (mg:Str->Option G0) (fa:Addr) (h:Heap),(K w.params).In h->h.Ns HK mg->mg d.name=some (.ref fa)->
  ∃fd:Jc,(∀(s:G3) (u:G0),BindsTo s fd ⟨[u],[]⟩ [(x,u)])/\
   ∀base:Heap,FnOk l.prog w (K w.params) mg base CX0 k fa fd [x] (iV (K w.params) sp))
 (hsp:∀(ns:List Int) (M:MH),ns.length<=63->sp [.rol (ns.map D.int)] M (fun d _=>d=.bl true)) :
 PySem.W.WalkO q loose XP YP l.row.toRowW d [] (fun f vs=>PySem.call f vs):=by
 refine Ah (x:=x) (n:=63) (CX:=fun _=>CX0) (sp:=fun w=>iV (K w.params) sp) hn (by decide) hdf hr hY (fun w mg fa h a b c=>?_) (fun w H a ns hl hO hS=>?_) fun _ _ _ _ _ z=>z
 ·obtain⟨fd,h1,h2⟩:=F w mg fa h a b c
  exact⟨fd,h1,fun base _ _=>h2 base⟩
 ·have hF:SqF (K w.params) H a (ns.map V.int):=by
   rcases hS with(z|z)|z
   ·rcases hO a with y|⟨o,xs,y⟩
    ·rw[z]at y;cases y
    ·rw[z]at y;cases y
   ·exact .inl z
   ·exact .inr z
  refine⟨[.rol (ns.map D.int)],fun _=>none,_,.cons (by rw[Rep];exact⟨a,_,rfl,hF,n6 ns⟩) .nil,(fun _ _ e=>nomatch e:Abs (K w.params) H fun _=>none),hsp ns _ hl,fun d M' v H' g r a' e=>?_⟩
  subst e
  rw[Rep]at r
  exact r
end SD
namespace Ma
open PySem PySem.Spec PyProof.Rows L2 SD
abbrev fr(q:Rat):D:=.tup [.int q.num,.int (q.den:Int)]
theorem den_pos(q:Rat):(0:Int)<(q.den:Int):=by have:=q.den_pos;omega
def Bq(n:Nat)(q:Rat):Prop:=Bd n q.num/\Bd n (q.den:Int)
theorem Bq.mono{m n:Nat}{q:Rat}(h:Bq m q)(l:m<=n):Bq n q:=⟨h.1.mono l,h.2.mono l⟩
theorem qH{t b:Int}(hb:0<b):t.fdiv b=t/b:=Int.fdiv_eq_ediv_of_nonneg _ (by omega)
theorem fdiv_neg{t b:Int}(hd:b ∣ t)(hb:0<b):t.fdiv (-b)=-(t/b):=by
 obtain⟨c,rfl⟩:=hd;have hb':b≠0:=by omega
 rw[Int.mul_ediv_cancel_left _ hb'];have:b*c=-b * -c:=by rw[Int.neg_mul_neg]
 rw[this];exact Int.mul_fdiv_cancel_left _ (by omega)
theorem vC(t b:Int):((Nat.gcd t.natAbs b.natAbs:Nat):Int) ∣ t:=Int.ofNat_dvd_left.mpr (Nat.gcd_dvd_left _ _)
theorem uF(t b:Int):((Nat.gcd t.natAbs b.natAbs:Nat):Int) ∣ b:=Int.ofNat_dvd_left.mpr (Nat.gcd_dvd_right _ _)
theorem om(t b:Int):Int.gcd b t=Nat.gcd t.natAbs b.natAbs:=by unfold Int.gcd;exact Nat.gcd_comm _ _
theorem uW{t b:Int}(hb:b≠0):0<Nat.gcd t.natAbs b.natAbs:=Nat.gcd_pos_of_pos_right _ (by omega)
theorem uY{t b:Int}(hb:0<b):t.fdiv (Nat.gcd t.natAbs b.natAbs:Nat)=(Rat.divInt t b).num/\b.fdiv (Nat.gcd t.natAbs b.natAbs:Nat)=((Rat.divInt t b).den:Int):=by
 have hg:=uW (t:=t) (b:=b) (by omega);rw[qH (by omega),qH (by omega),Rat.num_divInt,Rat.den_divInt,if_neg (by omega),HI hb,Int.one_mul,om];refine⟨rfl,?_⟩;rw[Int.natCast_ediv]
 congr 1
 omega
theorem uC{t b:Int}(hb:b<0):t.fdiv (-((Nat.gcd t.natAbs b.natAbs:Nat):Int))=(Rat.divInt t b).num/\b.fdiv (-((Nat.gcd t.natAbs b.natAbs:Nat):Int))=((Rat.divInt t b).den:Int):=by
 have hg:=uW (t:=t) (b:=b) (by omega);rw[fdiv_neg (vC t b) (by omega),fdiv_neg (uF t b) (by omega),Rat.num_divInt,Rat.den_divInt,if_neg (by omega),Ht hb,om];constructor
 ·rw[show(-1:Int)*t=-t from by omega,Int.neg_ediv_of_dvd (vC t b)]
 ·rw[Int.natCast_ediv,show((b.natAbs:Nat):Int)=-b from by omega,Int.neg_ediv_of_dvd (uF t b)]
theorem me{t b:Int}(hb:b≠0):(Rat.divInt t b).num.natAbs<=t.natAbs/\(Rat.divInt t b).den<=b.natAbs:=by
 constructor
 ·rw[Rat.num_divInt];refine He (Int.natAbs_ediv_le_natAbs _ _) ?_;rw[Int.natAbs_mul];rcases Ij b 0 with h|h|h
  ·rw[Ht h];simp
  ·exact absurd h hb
  ·rw[HI h];simp
 ·rw[Rat.den_divInt,if_neg hb];exact Nat.div_le_self _ _
theorem Bq.divInt{n:Nat}{t b:Int}(hb:b≠0)(h1:Bd n t)(h2:Bd n b):Bq n (Rat.divInt t b):=by obtain⟨a1,a2⟩:=me (t:=t) hb;exact⟨Nat.lt_of_le_of_lt a1 h1,Nat.lt_of_le_of_lt (by simpa using a2) h2⟩
theorem vd(x y:Nat):Int.fmod (x:Int) (y:Int)=((x%y:Nat):Int):=by rw[Int.fmod_eq_emod_of_nonneg _ (by omega)];rfl
theorem mH(q r:Rat):Hz (.tuple [.int q.num,.int (q.den:Int)]) (.tuple [.int r.num,.int (r.den:Int)])=decide (q=r):=by
 simp only[Hz,Hq,Bool.and_true];by_cases h:q=r
 ·subst h;simp
 ·rw[decide_eq_false h];rw[Bool.eq_false_iff];intro z;rw[Hl,beq_iff_eq,beq_iff_eq]at z;exact h (Rat.ext z.1 (by have:=z.2;omega))
theorem BO(q r:Rat):decide (q.num*(r.den:Int)<r.num*(q.den:Int))=decide (q<r):=by rw[decide_eq_decide,Rat.lt_iff]
abbrev spt(a b:Rat):D:=.tup [fr a,fr b]
theorem ik(a b c d:Rat):Hz (.tuple [.tuple [.int a.num,.int (a.den:Int)],.tuple [.int b.num,.int (b.den:Int)]]) (.tuple [.tuple [.int c.num,.int (c.den:Int)],.tuple [.int d.num,.int (d.den:Int)]])=decide (a=c/\b=d):=by rw[Hz,Hq,Hq,Hq,mH,mH,Bool.and_true,Bool.decide_and]
theorem fg(q:Rat):(q.den:Int)≠0:=by have:=q.den_pos;omega
theorem add_eq(q r:Rat):Rat.divInt (q.num*(r.den:Int)+r.num*(q.den:Int)) ((q.den:Int)*(r.den:Int))=q+r:=by rw[<-Rat.divInt_add_divInt _ _ (fg q) (fg r),Ic,Ic]
theorem sub_eq(q r:Rat):Rat.divInt (q.num*(r.den:Int)-r.num*(q.den:Int)) ((q.den:Int)*(r.den:Int))=q-r:=by rw[<-Rat.divInt_sub_divInt _ _ (fg q) (fg r),Ic,Ic]
theorem mul_eq(q r:Rat):Rat.divInt (q.num*r.num) ((q.den:Int)*(r.den:Int))=q*r:=by rw[<-Rat.divInt_mul_divInt,Ic,Ic]
theorem div_eq(q r:Rat):Rat.divInt (q.num*(r.den:Int)) ((q.den:Int)*r.num)=q/r:=by rw[<-Rat.divInt_mul_divInt,Ic,<-Rat.inv_divInt,Ic,Rat.div_def]
theorem i8(q r:Rat):(q.den:Int)*(r.den:Int)≠0:=Int.mul_ne_zero (fg q) (fg r)
theorem Bq.E8{n:Nat}{q r:Rat}(a:Bq n q)(b:Bq n r):Bd (2*n+1) (q.num*(r.den:Int)+r.num*(q.den:Int)):=((a.1.mul b.2).add (b.1.mul a.2)).mono (by omega)
theorem Bq.iG{n:Nat}{q r:Rat}(a:Bq n q)(b:Bq n r):Bd (2*n+1) (q.num*(r.den:Int)-r.num*(q.den:Int)):=((a.1.mul b.2).sub (b.1.mul a.2)).mono (by omega)
theorem Bq.Ek{n:Nat}{q r:Rat}(a:Bq n q)(b:Bq n r):Bd (2*n+1) (q.num*r.num):=(a.1.mul b.1).mono (by omega)
theorem Bq.uN{n:Nat}{q r:Rat}(a:Bq n q)(b:Bq n r):Bd (2*n+1) ((q.den:Int)*(r.den:Int)):=(a.2.mul b.2).mono (by omega)
theorem Bq.sub{n:Nat}{q r:Rat}(a:Bq n q)(b:Bq n r):Bq (2*n+1) (q-r):=by rw[<-sub_eq];exact .divInt (i8 q r) (a.iG b) (a.uN b)
theorem Bq.mOk{n:Nat}{q r:Rat}(a:Bq n q)(b:Bq n r)(h:n<=8000):IntMulOk q.num r.num/\IntMulOk q.num (r.den:Int)/\IntMulOk r.num (q.den:Int)/\IntMulOk (q.den:Int) (r.den:Int):=
 have m:∀{i:Int},Bd n i->Bd 1000000 i:=fun z=>z.mono (by omega)
 ⟨cL (m a.1) (m b.1),cL (m a.1) (m b.2),cL (m b.1) (m a.2),cL (m a.2) (m b.2)⟩
def sgn(z:Rat):Int:=if 0<z then 1 else if z<0 then -1 else 0
def cr(a b c d x y:Rat):Rat:=(c-a)*(y-b)-(d-b)*(x-a)
abbrev wll(a b c d:Rat):D:=.tup [spt a b,spt c d]
def ah(a b c d:Rat):Prop:=a<c\/a=c/\b<d
instance(a b c d:Rat):Decidable (ah a b c d):=inferInstanceAs (Decidable (_\/_))
theorem pos_int{i:Int}(h:0<i):(0:Rat)<(i:Rat):=by rw[Rat.lt_iff];simpa using h
theorem pick{xs:List Int}{v:Int}(h0:0<=v)(h1:v<xs.length){P:Int->Prop}(h:∀m∈xs,P m):∃m,atI (xs.map D.int) v=some (.int m)/\P m:=by
 obtain⟨j,rfl⟩:∃j:Nat,v=(j:Int):=⟨v.toNat,by omega⟩;have hj:j<xs.length:=by omega
 exact⟨xs[j],eQ (by simp[hj]),h _ (List.getElem_mem hj)⟩
theorem uo{i:Int}(h1:-(10^31)<=i)(h2:i<=10^31):Bd 110 i:=by show i.natAbs<2^110;omega
end Ma
namespace SD
open PySem PySem.Spec PyProof.Rows L2
def gv(names:List (Str×Jp))(env:Env):List (Str×Addr):=(names.filter fun y=>y.2==.free).reverse.map fun y=>(y.1,(env.cells.lookup y.1).getD 0)
theorem sU{scope:JH}{env:Env}(h:∀y∈scope.names,y.2=.free->∃c,env.cells.lookup y.1=some c):closureFor scope env=pure (gv scope.names env):=by
 have key:∀(names:List (Str×Jp)) (acc:List (Str×Addr)),(∀y∈names,y.2=.free->∃c,env.cells.lookup y.1=some c)->
  (forIn names acc (fun(x:Str×Jp) (r:List (Str×Addr))=>if(x.2==Jt)=true then do let a <-cellOf env x.1;pure (ForInStep.yield ((x.1,a)::r))else pure (ForInStep.yield r)):Sem (List (Str×Addr)))=pure (gv names env++acc):=by
  intro names
  induction names with
  |nil=>intro acc _;rfl
  |cons y ys ih=>
   intro acc hy
   obtain⟨n,k⟩:=y
   rw[List.forIn_cons]
   by_cases hk:(k==Jt)=true
   ·obtain⟨c,hc⟩:=hy (n,k) (Hx ..) (by simpa using hk)
    have e1:cellOf env n=pure c:=by unfold cellOf;rw[hc]
    dsimp only
    rw[if_pos hk,e1]
    simp only[pure_bind]
    rw[ih _ fun y hm=>hy y (GZ _ hm)]
    unfold gv
    rw[List.filter_cons_of_pos (by simpa using hk),List.reverse_cons,Ik,List.append_assoc]
    simp[hc]
   ·dsimp only
    rw[if_neg hk]
    simp only[pure_bind]
    rw[ih _ fun y hm=>hy y (GZ _ hm)]
    unfold gv
    rw[List.filter_cons_of_neg (by simpa using hk)]
 have:=key scope.names [] h;rw[J0]at this;unfold closureFor;exact Eq.trans (congrArg (fun t:Sem (List (Str×Addr))=>t >>= fun cs=>pure cs) this) rfl
theorem rE{env:Env}{y:Str}{c:Addr}:∀{names:List (Str×Jp)},(∀z∈names,z.2=.free->∃c,env.cells.lookup z.1=some c)->(gv names env).lookup y=some c->env.cells.lookup y=some c:=by intro names h e;have hm:=HQ e;unfold gv at hm;obtain⟨z,hz,e2⟩:=IB.mp hm;rw[List.mem_reverse,List.mem_filter]at hz;obtain⟨c',hc⟩:=h z hz.1 (by simpa using hz.2);rw[hc]at e2;cases e2;exact hc
theorem qQ{env:Env}{y:Str}{names:List (Str×Jp)}(hm:(y,Jt)∈names):∃c,(gv names env).lookup y=some c:=by
 cases e:(gv names env).lookup y with
 |some c=>exact⟨c,rfl⟩
 |none=>
  have:=List.lookup_eq_none_iff.mp e (y,(env.cells.lookup y).getD 0) (IB.mpr ⟨(y,.free),List.mem_reverse.mpr (List.mem_filter.mpr ⟨hm,rfl⟩),rfl⟩)
  simp at this
theorem gZ{env:Env}(hk:env.scope.kind=.function):∀{names:List (Str×Jp)} {y:Str} {k:Jp},
 (names.map fun(n,k)=>if(k==Jt&&env.scope.kind==.function&&env.kindOf n==some .cell)then(n,NameKind.cell)else(n,k)).lookup y=some k->
  names.lookup y=some k\/(k=.cell/\names.lookup y=some .free)
 |[],_,_,h=>by simp at h
 |(n,q)::r,y,k,h=>by
  have ih:=@gZ env hk r y k
  rw[Ho]at h
  dsimp only at h
  by_cases hy:(y==n)=true
  ·by_cases hc:(q==Jt&&env.scope.kind==.function&&env.kindOf n==some .cell)=true
   ·rw[if_pos hc,IH,hy]at h
    have hf:q=.free:=by
     rw[Hl,Hl]at hc
     simpa using hc.1.1
    cases h
    right
    exact⟨rfl,by rw[IH,hy,hf]⟩
   ·rw[if_neg hc,IH,hy]at h
    left
    rw[IH,hy];exact h
  ·have hy':(y==n)=false:=by simpa using hy
   have h':(r.map fun(n,k)=>if(k==Jt&&env.scope.kind==.function&&env.kindOf n==some .cell)then(n,NameKind.cell)else(n,k)).lookup y=some k:=by
    split at h
    ·rw[IH,hy']at h;exact h
    ·rw[IH,hy']at h;exact h
   rw[IH,hy']
   exact ih h'
theorem pR{X:Cx}{tg iter:Expr}{wi wi':TI}(h:PI X tg iter wi)(k:∀σ H R,wi' σ H R->wi σ H R):PI X tg iter wi':=fun pins s σ H R I q=>h pins s σ H R I (k _ _ _ q)
def Gh(K:cc)(tl:TE):TI:=fun σ H R=>tl σ H fun x H1=>∃a,x=.ref a/\(((∃xs,SqL K H1 a xs)/\R (Itl K a) H1)\/((∃xs,SqT K H1 a xs)/\R (Itt K a) H1))
theorem CV{X:Cx}{tg l:Expr}{tl:TE}(hl:PE X l tl):PI X tg l (Gh X.K tl):=by
 intro pins s σ H R I h;refine thn (hl pins s σ H _ I h) fun v s1 zz1_0=>?_;obtain⟨x,H1,I1,r1,q1⟩:=zz1_0;obtain⟨a,e,z⟩:=q1;subst e;cases r1
 have fp:∀b∈[s1.heap.objs.size],gE X pins H1 b:=fun b hb=>by
  obtain rfl:b=s1.heap.objs.size:=by simpa using hb
  exact I1.zc (GY _) (I1.hok.fresh (GY _))
 rcases z with⟨⟨xs,hq⟩,q⟩|⟨⟨xs,hq⟩,q⟩
 ·obtain⟨its,rv,p,hz⟩:=I1.list hq;exact wpAny_pyIter_list p.isList ⟨_,[s1.heap.objs.size],_,_,H1,rfl,I1.kept (t':=s1.toks) fun b o e=>G5 _ e,vL a _,⟨_,Hk _ rfl,rfl,rfl⟩,fp,q⟩
 ·obtain⟨its,rv,p,hz⟩:=I1.tuple hq;exact wpAny_pyIter_tuple (show s1.heap.IsTuple a its.toArray from p) ⟨_,[s1.heap.objs.size],_,_,H1,rfl,I1.kept (t':=s1.toks) fun b o e=>G5 _ e,sI a _,⟨_,Hk _ rfl,rfl,rfl⟩,fp,q⟩
structure ItD where
 n:Nat
 item:Nat->Option D
 C:MH->Prop
abbrev TID:=DS->MH->(ItD->MH->Prop)->Prop
structure ItOk(K:cc)(H1:Hp)(I:ItD)(J:It):Prop where
 stop:∀H2 M2,Grow K H1 H2->Abs K H2 M2->I.C M2->J.stop I.n H2
 go:∀i H2 M2,i<I.n->Grow K H1 H2->Abs K H2 M2->I.C M2->J.go i H2
 yld:∀i H2 M2 v H3,i<I.n->Grow K H1 H2->Abs K H2 M2->I.C M2->J.yld i H2 v H3->Grow K H2 H3/\Abs K H3 M2/\∃d,I.item i=some d/\Rep K H3 d v
def Bw(K:cc)(t:TID):TI:=fun σ H R=>∃δ M RD,Slots K H δ σ/\Abs K H M/\t δ M RD/\∀I M' H' J,Grow K H H'->Abs K H' M'->RD I M'->ItOk K H' I J->R J H'
def DI(X:Cx)(tg iter:Expr)(t:TID):Prop:=PI X tg iter (Bw X.K t)
def zz(M:MH):D->List D->Prop
 |.tup ds,es=>es=ds
 |.rol ds,es=>es=ds
 |.ref a,es=>M a=some (.lst es)
 |_,_=>False
inductive Rn1(ds:List D)(M:MH)(R:ItD->MH->Prop):Prop
 |mk (n:Nat) (h:ds=[.int (n:Int)]) (q:n<2^60/\R ⟨n,fun i=>some (.int (i:Int)),fun _=>True⟩ M):Rn1 ds M R
inductive Sq1(d:D)(M:MH)(R:ItD->MH->Prop):Prop
 |mk (ds:List D) (h:zz M d ds) (q:R ⟨ds.length,fun i=>ds[i]?,fun M=>zz M d ds⟩ M):Sq1 d M R
def FI(ta:TAD):TID:=fun δ M R=>ta δ M fun ds M1=>Rn1 ds M1 R
def Gd(tl:TD):TID:=fun δ M R=>tl δ M fun d M1=>Sq1 d M1 R
section
variable{X:Cx}{tg:Expr}
theorem nZ{a:Expr}{ta:TAD}{p pos:Pos}(hg:Gl X "range")(hm:X.mg "range"=none)(ha:DA X [a] ta)(hs:Hc [a] X.env=[(false,eval a X.env)]:=by rfl):DI X tg (.Call (.Name "range" p) [a] [] pos) (FI ta):=
 pR (oB hg hm ha hs) fun σ H R ⟨δ,M,RD,hs,hM,q,fin⟩=>⟨δ,M,_,hs,hM,q,fun ds M1 vs H1 g1 r1 a1 z9=>by
  obtain⟨n,e,hn,q1⟩:=z9
  subst e
  obtain⟨v,rfl,r⟩:=b6 r1
  rw[Rep]at r;subst r
  refine⟨(n:Int),rfl,by omega,by omega,fin _ M1 H1 _ g1 a1 q1 ⟨fun _ _ _ _ _=>by show((n:Int)).toNat<=n;simp,fun i _ _ hi _ _ _=>by show i<((n:Int)).toNat;simpa using hi,?_⟩⟩
  rintro i H2 M2 v H3 hi g2 a2 _ ⟨rfl,rfl⟩
  exact⟨.refl,a2,_,rfl,by rw[Rep];simp⟩⟩
theorem cm{l:Expr}{tl:TD}(hl:DE X l tl):DI X tg l (Gd tl):=
 pR (CV hl) fun σ H R ⟨δ,M,RD,hs,hM,q,fin⟩=>⟨δ,M,_,hs,hM,q,fun d M1 v H1 g1 r1 a1 z9=>by
  obtain⟨ds,sq,q1⟩:=z9
  cases d with
  |tup es=>
   obtain rfl:ds=es:=sq
   rw[Rep]at r1
   obtain⟨a,xs,rfl,hq,rs⟩:=r1
   refine⟨a,rfl,.inr ⟨⟨xs,hq⟩,fin _ M1 H1 _ g1 a1 q1 ⟨fun H2 _ g2 _ _=>⟨xs,g2.t _ _ hq,by rw[rs.length];exact GY _⟩,fun i H2 _ hi g2 _ _=>?_,?_⟩⟩⟩
   ·have hi':i<xs.length:=by rw[<-rs.length];exact hi
    exact⟨xs,xs[i],g2.t _ _ hq,by simp[hi']⟩
   ·rintro i H2 M2 v H3 hi g2 a2 _ ⟨rfl,hy⟩
    have hi:i<ds.length:=hi
    obtain⟨x,e1,e2⟩:=(rs.mono g2).get (show ds[i]?=some ds[i] by simp[hi])
    have:=hy xs (g2.t _ _ hq)
    rw[e1]at this;cases this
    exact⟨.refl,a2,_,by simp[hi],e2⟩
  |rol es=>
   obtain rfl:ds=es:=sq
   rw[Rep]at r1
   obtain⟨a,xs,rfl,hq,rs⟩:=r1
   refine⟨a,rfl,.inl ⟨⟨xs,hq.sql⟩,fin _ M1 H1 _ g1 a1 q1 ⟨fun H2 _ g2 _ _=>⟨xs,(g2.f _ _ hq).sql,by rw[rs.length];exact GY _⟩,fun i H2 _ hi g2 _ _=>?_,?_⟩⟩⟩
   ·have hi':i<xs.length:=by rw[<-rs.length];exact hi
    exact⟨xs,xs[i],(g2.f _ _ hq).sql,by simp[hi']⟩
   ·rintro i H2 M2 v H3 hi g2 a2 _ ⟨rfl,hy⟩
    have hi:i<ds.length:=hi
    obtain⟨x,e1,e2⟩:=(rs.mono g2).get (show ds[i]?=some ds[i] by simp[hi])
    have:=hy xs (g2.f _ _ hq).sql
    rw[e1]at this;cases this
    exact⟨.refl,a2,_,by simp[hi],e2⟩
  |ref a=>
   rw[Rep]at r1;subst r1
   obtain⟨xs,hx,rs⟩:=a1 _ _ (show M1 a=some (.lst ds)from sq)
   refine⟨a,rfl,.inl ⟨⟨xs,SqL.of hx⟩,fin _ M1 H1 _ g1 a1 q1 ⟨fun H2 M2 g2 a2 c2=>?_,fun i H2 M2 hi g2 a2 c2=>?_,?_⟩⟩⟩
   ·obtain⟨ys,hy,ry⟩:=a2 _ _ (show M2 a=some (.lst ds)from c2)
    exact⟨ys,SqL.of hy,by rw[ry.length];exact GY _⟩
   ·obtain⟨ys,hy,ry⟩:=a2 _ _ (show M2 a=some (.lst ds)from c2)
    have hi':i<ys.length:=by rw[<-ry.length];exact hi
    exact⟨ys,ys[i],SqL.of hy,by simp[hi']⟩
   ·rintro i H2 M2 v H3 hi g2 a2 c2 ⟨rfl,hy⟩
    have hi:i<ds.length:=hi
    obtain⟨ys,hys,ry⟩:=a2 _ _ (show M2 a=some (.lst ds)from c2)
    obtain⟨x,e1,e2⟩:=ry.get (show ds[i]?=some ds[i] by simp[hi])
    have:=hy ys (SqL.of hys)
    rw[e1]at this;cases this
    exact⟨.refl,a2,_,by simp[hi],e2⟩
  |_=>exact sq.elim⟩
inductive ForD(g:TGD)(tb:TSD)(B:EndsD)(I:ItD)(δ0:DS)(M0:MH):Prop
 |mk (W:Nat->DS->MH->Prop) (w0:W 0 δ0 M0) (hC:∀i δ M,i<=I.n->W i δ M->I.C M) (turn:∀i d δ M,i<I.n->I.item i=some d->W i δ M->g d δ M fun δ2 M2=>tb { B with nx:=W (i+1),ct:=W (i+1),bk:=B.nx } δ2 M2) (done:∀δ M,W I.n δ M->B.nx δ M):ForD g tb B I δ0 M0
def E9(wd:TID)(g:TGD)(tb:TSD):TSD:=fun B δ M=>wd δ M fun I M1=>ForD g tb B I δ M1
theorem eG{iter:Expr}{body:List Stmt}{wd:TID}{g:TGD}{tb:TSD}{pos:Pos}(hp:PassesOwn (Hm X.prog X.w) X.A X.env X.xe)(hc:X.calm=true)(hi:DI X tg iter wd)(hG:DG X tg g)(hb:DSs X body tb)
 (hf:∀x,IK iter X.env x=pure x:=by intro _;rfl):DSt X (.For tg iter body [] pos) (E9 wd g tb):=
 dA (xm hp hc hi hG hb hf) fun E σ H ⟨δ,M,hs,a,B,ok,q⟩=>⟨δ,M,_,hs,a,q,fun I M1 H1 J g1 a1 z9 io=>by
  obtain⟨W,w0,hC,turn,done⟩:=z9
  refine⟨fun i m σ H2=>m=I.n-i/\i<=I.n/\Grow X.K H1 H2/\∃δ M,Slots X.K H2 δ σ/\Abs X.K H2 M/\W i δ M,⟨I.n,by simp,Jb _,.refl,δ,M1,hs.mono g1,a1,w0⟩,?_⟩
  rintro i m σ H2 ⟨rfl,hi,g2,δ2,M2,s2,a2,w2⟩
  by_cases hlt:i<I.n
  ·refine .inr ⟨io.go i H2 M2 hlt g2 a2 (hC _ _ _ hi w2),fun σ' H3=>Grow X.K H1 H3/\∃δ M,Slots X.K H3 δ σ'/\Abs X.K H3 M/\W (i+1) δ M,fun σ' H3 z=>⟨I.n-(i+1),by omega,rfl,hlt,z⟩,fun x H3 y=>?_⟩
   obtain⟨g3,a3,d,ed,rd⟩:=io.yld i H2 M2 x H3 hlt g2 a2 (hC _ _ _ hi w2) y
   refine⟨d,δ2,M2,_,rd,s2.mono g3,a3,turn i d δ2 M2 hlt ed w2,fun δ4 M4 σ4 H4 g4 s4 a4 q4=>⟨δ4,M4,s4,a4,_,?_,q4⟩⟩
   have G:Grow X.K H1 H4:=(g2.trans g3).trans g4
   exact⟨fun δ' M' σ' H' g' s' a' w'=>⟨G.trans g',δ',M',s',a',w'⟩,fun d M v H' g'=>ok.rt d M v H' ((g1.trans G).trans g'),fun δ' M' σ' H' g' s' a' q'=>ok.nx _ _ _ _ ((g1.trans G).trans g') s' a' q',fun δ' M' σ' H' g' s' a' w'=>⟨G.trans g',δ',M',s',a',w'⟩⟩
  ·obtain rfl:i=I.n:=by omega
   exact .inl ⟨io.stop H2 M2 g2 a2 (hC _ _ _ hi w2),ok.nx _ _ _ _ (g1.trans g2) s2 a2 (done δ2 M2 w2)⟩⟩
end
end SD
namespace Ma
open SD
theorem lI{a b:Int}(h:0<b):0<Rat.divInt a b↔0<a:=by
 have h1:=Rat.divInt_nonneg_iff_of_pos_right (a:=-a) h;rw[<-Rat.neg_divInt]at h1;have:¬(0<=-Rat.divInt a b)↔0<Rat.divInt a b:=by constructor<;>intro z<;>grind
 rw[<-this,h1];omega
theorem sH{a b:Int}(h:0<b):Rat.divInt a b<0↔a<0:=by
 have h1:=Rat.divInt_nonneg_iff_of_pos_right (a:=a) h;have:¬(0<=Rat.divInt a b)↔Rat.divInt a b<0:=by constructor<;>intro z<;>grind
 rw[<-this,h1];omega
theorem ui{t b:Int}(h:0<b):sgn (Rat.divInt t b)=if 0<t then 1 else if t<0 then -1 else 0:=by unfold sgn;simp only[lI h,sH h]
theorem vm(a b c d x y:Rat) :
 Rat.divInt ((c.num*(a.den:Int)-a.num*(c.den:Int))*(y.num*(b.den:Int)-b.num*(y.den:Int))*((d.den:Int)*(b.den:Int)*((x.den:Int)*(a.den:Int))) -
  (d.num*(b.den:Int)-b.num*(d.den:Int))*(x.num*(a.den:Int)-a.num*(x.den:Int))*((c.den:Int)*(a.den:Int)*((y.den:Int)*(b.den:Int))))
  ((c.den:Int)*(a.den:Int)*((y.den:Int)*(b.den:Int))*((d.den:Int)*(b.den:Int)*((x.den:Int)*(a.den:Int))))=cr a b c d x y:=by
 rw[<-Rat.divInt_sub_divInt _ _ (Int.mul_ne_zero (i8 c a) (i8 y b)) (Int.mul_ne_zero (i8 d b) (i8 x a)),<-Rat.divInt_mul_divInt,<-Rat.divInt_mul_divInt,sub_eq,sub_eq,sub_eq,sub_eq]
 rfl
end Ma
namespace SD
open PySem PySem.Spec PyProof.Rows L2
abbrev NoE:G0->G3->Prop:=fun _ _=>False
def cN(X:Cx)(xs:List Str)(js:List Nat):List Str:=xs++js.map fun j=>(X.N[j]?).getD ("":Str)
def cσ(os:L2.St)(js:List Nat)(σ:L2.St):L2.St:=os++js.map fun j=>(σ[j]?).join
theorem cT:∀(names:List (Str×Jp)) (n:Nat) (acc:List (Str×Addr)),IW n names acc=IW n names []++acc
 |[],_,_=>rfl
 |(x,k)::r,n,acc=>by
  unfold IW
  split
  ·rw[cT r (n+1) ((x,n)::acc),cT r (n+1) [(x,n)],List.append_assoc];rfl
  ·exact cT r n acc
theorem jM:∀(names:List (Str×Jp)) (n:Nat) {y:Str} {c:Addr},(y,c)∈IW n names []->(y,NameKind.cell)∈names
 |[],_,_,_,h=>by cases h
 |(x,k)::r,n,y,c,h=>by
  unfold IW at h
  split at h
  ·rename_i hk
   rw[cT]at h
   rcases Hv.mp h with h|h
   ·exact GZ _ (jM r _ h)
   ·have e:(y,c)=(x,n):=by simpa using h
    cases e
    obtain rfl:k=.cell:=by simpa using hk
    exact Hx
  ·exact GZ _ (jM r _ h)
theorem rN{l r:List (Str×Addr)}{y:Str}{c:Addr}(h:(l++r).lookup y=some c):l.lookup y=some c\/(l.lookup y=none/\r.lookup y=some c):=by
 rw[List.lookup_append]at h;cases e:l.lookup y with
 |some c'=>rw[e]at h;exact .inl h
 |none=>rw[e]at h;exact .inr ⟨rfl,h⟩
theorem zf{env:Env}{y:Str}{c:Addr}{names:List (Str×Jp)}(h:(gv names env).lookup y=some c):(y,Jt)∈names:=by
 have hm:=HQ h;unfold gv at hm;obtain⟨z,hz,e⟩:=IB.mp hm;rw[List.mem_reverse,List.mem_filter]at hz;obtain⟨n,k⟩:=z;obtain rfl:k=.free:=by simpa using hz.2
 cases e;exact hz.1
theorem gj{env:Env}{k:Jp}(hk:k≠.free):∀{names:List (Str×Jp)} {x:Str},names.lookup x=some k->
 (names.map fun(n,k)=>if(k==Jt&&env.scope.kind==.function&&env.kindOf n==some .cell)then(n,NameKind.cell)else(n,k)).lookup x=some k
 |[],_,h=>by simp at h
 |(n,q)::r,x,h=>by
  have ih:=@gj env k hk r x
  rw[Ho]
  dsimp only
  by_cases hx:(x==n)=true
  ·rw[IH,hx]at h
   cases h
   rw[if_neg (by intro z;rw[Hl,Hl]at z;exact hk (by simpa using z.1.1)),IH,hx]
  ·have hx':(x==n)=false:=by simpa using hx
   rw[IH,hx']at h
   split<;>(rw[IH,hx'];exact ih h)
theorem AH{M:Model}{A:HM}{E:G0->G3->Prop}{s:G3}{scope:JH}{globals:Addr}{cl:List (Str×Addr)}{qual:Str}{env:Env}{Q:Env->G3->Prop} (h:Q { scope:=scope,locals:=s.heap.objs.size,globals:=globals,cells:=IW (s.heap.objs.size+1) scope.names cl,qual:=qual,func:=none,code:=env.code,frame:=env.frame,builtins:=env.builtins } { s with heap:=pushCells (s.heap.push { cls:=.type "dict",data:=.dict #[] }) scope.names }) : Hf M A (newFunctionEnv scope globals cl [] qual none .none (some env)) Q E s:=by simp only[newFunctionEnv,Option.isSome_some,if_true];refine G2 (wpAny_alloc ?_);refine G2 (wpAny_layCells _ (fun name kind cells=>by cases hkc:kind==NameKind.cell<;>simp[hkc]) _ _ _ _ ?_);rw[show({ s with heap:=s.heap.push { cls:=.type "dict",data:=.dict #[] } }:G3).heap.objs.size=s.heap.objs.size+1 from Jz ..];refine G2 ?_;rw[List.forIn_nil];exact Hd (Hd h)
def pN(scope:JH)(C:Addr)(env:Env):Env:=
 { scope:=relabel scope env,locals:=C,globals:=env.globals,cells:=IW (C+1) scope.names (gv scope.names env),qual:=env.qual,func:=none,code:=env.code,frame:=env.frame,builtins:=env.builtins }
def cxC(X:Cx)(xs:List Str)(js:List Nat)(scope:JH)(C:Addr)(s:G3)(H:Hp)(fp:List Addr):Cx where
 prog:=X.prog
 w:=X.w
 K:=X.K
 mg:=X.mg
 base:=X.base
 A:=X.A
 N:=cN X xs js
 s₀:=s
 H₀:=H
 env:=pN scope C X.env
 outer:=X.stack
 stack:=X.stack
 ex:=fp
 fn:=fun y=>xs.contains y
 calm:=X.calm
 pn:=[]
 xe:=fun _ _=>False
structure CScope(X:Cx)(xs:List Str)(js:List Nat)(scope:JH):Prop where
 kind:scope.kind=.function
 cell:∀y∈scope.names,y.2=.cell->y.1∈xs
 free':∀y∈scope.names,y.2=.free->y.1∉xs
 names:∀y∈scope.names,y.2=.local->scope.names.lookup y.1=some .local
 own:∀x∈xs,scope.names.lookup x=some .local\/scope.names.lookup x=some .cell
 out:∀y∈scope.names,y.2=.free->X.env.kindOf y.1=some .cell\/X.env.kindOf y.1=some .free
 nd:(cN X xs js).Nodup
 js:∀j∈js,scope.names.lookup ((X.N[j]?).getD ("":Str))≠some .local
section
variable{X:Cx}{xs:List Str}{js:List Nat}{scope:JH}{pins:List (Addr×Obj)}{σ:L2.St}{H:Hp}{s:G3}{fp:List Addr}
theorem CScope.cells(c:CScope X xs js scope)(ok:X.Ok):∀y∈scope.names,y.2=.free->∃a,X.env.cells.lookup y.1=some a:=fun y hy hf=>ok.has _ (c.out y hy hf)
theorem CScope.Fp(c:CScope X xs js scope)(ok:X.Ok):closureFor scope X.env=pure (gv scope.names X.env):=sU (c.cells ok)
theorem CScope.kindOf(c:CScope X xs js scope)(ok:X.Ok){C:Addr}{y:Str}{k:Jp}(e:(pN scope C X.env).kindOf y=some k):scope.names.lookup y=some k\/(k=.cell/\scope.names.lookup y=some .free):=gZ ok.kind e
theorem yT(c:CScope X xs js scope)(I:Inv X pins σ H s)(hf:∀b∈fp,gE X pins H b)(hfp:∀b∈fp,b<s.heap.objs.size){h':Heap}(eh:h'=pushCells (s.heap.push { cls:=.type "dict",data:=.dict #[] }) scope.names)(k:∀b o,s.heap.get? b=some o->h'.get? b=some o) :
 Inv (cxC X xs js scope s.heap.objs.size s H fp) [] (cσ (Jx xs.length none) js σ) H { s with heap:=h' }:=by
 have ok:=I.ok
 have hn:h'.Ns s.heap.objs.size fun _=>none:=by rw[eh];exact(Heap.Ns.new s.heap (.type "dict")).keeps (pushCells_keeps _ _)
 have cok:CellsOk h' (s.heap.objs.size+1) (IW (s.heap.objs.size+1) scope.names []):=by
  have:=cellsFrom_ok scope.names (s.heap.push { cls:=.type "dict",data:=.dict #[] }) (s.heap.objs.size+1) [] ⟨fun _ _ hm=>(nomatch hm),List.Pairwise.nil⟩ (by rw[Jz];exact GY _)
  rw[Jz]at this
  rw[eh];exact this
 have cl:∀{y:Str} {a:Addr},(gv scope.names X.env).lookup y=some a->X.env.cells.lookup y=some a:=fun e=>rE (c.cells ok) e
 have olt:∀{y:Str} {a:Addr},X.env.cells.lookup y=some a->a<s.heap.objs.size:=fun e=>by obtain⟨v,z⟩:=I.cell _ _ e;exact z.lt
 have both:∀{y:Str} {a:Addr},(pN scope s.heap.objs.size X.env).cells.lookup y=some a->((y,a)∈IW (s.heap.objs.size+1) scope.names []/\s.heap.objs.size<a)\/X.env.cells.lookup y=some a:=fun{y a} e=>by
  have e:(IW (s.heap.objs.size+1) scope.names (gv scope.names X.env)).lookup y=some a:=e
  rw[cT]at e
  rcases rN e with z|⟨_,z⟩
  ·exact .inl ⟨HQ z,(cok.empty _ _ (HQ z)).2⟩
  ·exact .inr (cl z)
 have free:∀{y:Str},(pN scope s.heap.objs.size X.env).kindOf y=some .cell\/(pN scope s.heap.objs.size X.env).kindOf y=some .free->scope.names.lookup y=some .cell\/scope.names.lookup y=some .free:=fun{y} e=>by
  rcases e with e|e
  ·rcases c.kindOf ok e with z|⟨_,z⟩
   ·exact .inl z
   ·exact .inr z
  ·rcases c.kindOf ok e with z|⟨z,_⟩
   ·exact .inr z
   ·cases z
 refine⟨⟨ok.mod,c.kind,ok.glob,ok.blt,GY _,fun y z a h1 h2=>?_,fun y hy=>?_,fun y a h e=>?_,ok.hd,ok.frames,.inl rfl,fun b hb=>⟨HJ (hfp b hb),fun y a e=>?_⟩,
  I.bs,He ok.bsz I.sz,fun b o e hb=>?_,fun b hb=>?_,I.stack,I.iB⟩,rfl,I.bare,Un.kept k,?_,fun y a e=>?_,I.hok.fresh (GY _),fun y a e=>?_,fun p hp=>absurd (show p∈([]:List (Addr×Obj))from hp) (by simp),I.hok.kept k,?_⟩
 ·rcases both h1 with⟨m1,l1⟩|o1<;>rcases both h2 with⟨m2,l2⟩|o2
  ·exact name_of_addr cok.apart m1 m2
  ·exact absurd (olt o2) (Nat.not_lt.mpr (Nat.le_of_lt l1))
  ·exact absurd (olt o1) (Nat.not_lt.mpr (Nat.le_of_lt l2))
  ·exact ok.inj y z a o1 o2
 ·show ∃c,(IW (s.heap.objs.size+1) scope.names (gv scope.names X.env)).lookup y=some c
  rw[cT,List.lookup_append]
  rcases free hy with z|z
  ·obtain⟨a,e⟩:=mE (n:=s.heap.objs.size+1) z
   exact⟨a,by rw[e];rfl⟩
  ·obtain⟨a,e⟩:=qQ (env:=X.env) (HQ z)
   cases q:(IW (s.heap.objs.size+1) scope.names []).lookup y with
   |none=>exact⟨a,by rw[e];rfl⟩
   |some a'=>exact⟨a',rfl⟩
 ·have hx:y∈xs:=by simpa[cxC]using h
  have e:(IW (s.heap.objs.size+1) scope.names (gv scope.names X.env)).lookup y=some a:=e
  rw[cT]at e
  rcases rN e with z|⟨_,z⟩
  ·exact Nat.le_of_lt (cok.empty _ _ (HQ z)).2
  ·exact absurd hx (c.free' _ (zf z) rfl)
 ·rcases both e with⟨_,l⟩|o
  ·exact Nat.ne_of_gt (Nat.lt_trans (hfp b hb) l)
  ·exact(hf b hb).2.2.2.2.1 y a o
 ·rcases(hf b hb).2.2.2.1 with z|z
  ·exact ok.noex b o e z
  ·exact absurd (G8 (G8 (Hb e) ok.bsz) z) (IX _)
 ·intro z
  rcases Hr.mp (I.sX b z)with y|y
  ·exact(hf b hb).2.1 y
  ·exact(hf b hb).2.2.1 y
 ·refine⟨_,hn,fun i y v h1 h2 h3=>?_⟩
  have h1:(xs++js.map fun j=>(X.N[j]?).getD ("":Str))[i]?=some y:=h1
  have h2:(Jx xs.length (none:Option V)++js.map fun j=>(σ[j]?).join)[i]?=some (some v):=h2
  by_cases hi:i<xs.length
  ·rw[Ig (by simpa using hi),List.getElem?_replicate,if_pos hi]at h2
   cases h2
  ·have hout:y∉xs:=fun hy=>by
    rw[HZ (by omega)]at h1
    have nd:=c.nd
    unfold cN at nd
    exact(List.nodup_append.mp nd).2.2 y hy y (Hh h1) rfl
   rw[HZ (by omega)]at h1
   rw[HZ (by simp;omega)]at h2
   rw[List.length_replicate]at h2
   rw[G9]at h1 h2
   cases ej:js[i-xs.length]? with
   |none=>rw[ej]at h1;cases h1
   |some j=>
    rw[ej]at h1 h2
    have e1:(X.N[j]?).getD ("":Str)=y:=Option.some.inj h1
    have e2:(σ[j]?).join=some v:=Option.some.inj h2
    have e3:σ[j]?=some (some v):=by
     cases q:σ[j]? with
     |none=>rw[q]at e2;cases e2
     |some o=>rw[q]at e2;exact congrArg some e2
    have hj:j<X.N.length:=by rw[<-I.len];exact(Hj.mp e3).1
    have e4:X.N[j]?=some y:=by
     rw[HG hj]at e1 ⊢
     exact congrArg some e1
    have nl:scope.names.lookup y≠some .local:=by
     have:=c.js j (Hh ej)
     rw[e1]at this
     exact this
    have kc:(pN scope s.heap.objs.size X.env).kindOf y=some .cell\/(pN scope s.heap.objs.size X.env).kindOf y=some .free:=by
     rcases h3 with z|z|z
     ·rcases c.kindOf (C:=s.heap.objs.size) ok z with q|⟨q,_⟩
      ·exact absurd q nl
      ·cases q
     ·exact .inl z
     ·exact .inr z
    have hm:(y,Jt)∈scope.names:=by
     rcases free kc with z|z
     ·exact absurd (c.cell _ (HQ z) rfl) hout
     ·exact HQ z
    obtain⟨a,ha⟩:=qQ (env:=X.env) hm
    have ha2:(pN scope s.heap.objs.size X.env).cells.lookup y=some a:=by
     show(IW (s.heap.objs.size+1) scope.names (gv scope.names X.env)).lookup y=some a
     rw[cT,List.lookup_append]
     cases q:(IW (s.heap.objs.size+1) scope.names []).lookup y with
     |none=>rw[ha];rfl
     |some a'=>exact absurd (c.cell _ (jM _ _ (HQ q)) rfl) hout
    have hvis:Vis X.env.scope y:=by
     rcases c.out _ hm rfl with z|z
     ·exact .inr (.inl z)
     ·exact .inr (.inr z)
    obtain⟨m,_,hl⟩:=I.loc
    obtain⟨u,r,l⟩:=hl j y v e4 e3 hvis
    refine⟨u,r,?_⟩
    rcases l with⟨z,_⟩|⟨_,a',ha',o,ho,hd⟩
    ·rcases c.out _ hm rfl with q|q
     ·have z':X.env.kindOf y=some .local:=z
      rw[q]at z';cases z'
     ·have z':X.env.kindOf y=some .local:=z
      rw[q]at z';cases z'
    ·refine .inr ⟨kc,a',?_,o,k _ _ ho,hd⟩
     have:=cl ha
     rw[ha']at this
     cases this
     exact ha2
 ·rcases both e with⟨m,_⟩|o
  ·exact⟨_,(cok.empty _ _ m).1⟩
  ·obtain⟨v,o,ho,hd⟩:=I.cell y a o
   exact⟨v,o,k _ _ ho,hd⟩
 ·rcases both e with⟨_,l⟩|o
  ·exact I.hok.fresh (Nat.le_of_lt l)
  ·exact I.freeC y a o
 ·show(cσ (Jx xs.length none) js σ).length=(cN X xs js).length
  unfold cσ cN
  simp
end
def PTs(X:Cx)(ifs:List Expr)(t:TT):Prop:=∀(pins:List (Addr×Obj)) (s:G3) (σ:L2.St) (H:Hp) (Q:Bool->Hp->Prop),Inv X pins σ H s->t σ H Q->
 Hf (Hm X.prog X.w) X.A (forIn ifs true fun c r=>if r=true then do let ok <-isTrue c X.env (eval c X.env);pure (ForInStep.yield ok)else pure (ForInStep.yield r)) (TP X pins σ Q) X.xe s
theorem Ag{X:Cx}:PTs X [] (fun _ H Q=>Q true H):=fun pins s σ H Q I q=>wpAny_tests_nil ⟨H,I,q⟩
theorem zG{X:Cx}{c:Expr}{t:TT}(h:PT X c t):PTs X [c] t:=fun pins s σ H Q I q=>wpAny_tests_one (h pins s σ H Q I q)
theorem vO{prog:Hi}{w:HL}{A:HM}{R:Result->G3->Prop}{s:G3}{elt target iter:Expr}{ifs:List Expr}{scope:JH}{pos:Pos}{it acc:G0}{env:Env}(J:Nat->G3->Prop)
 (step:∀n s,J n s->Hf (Hm prog w) A (pyNext it) (fun r s1=>match r with
  |none=>R (.ok .next) s1
  |some v=>Hf (Hm prog w) A (letOwnedTupleGo target it v) (fun _ s2=>Hf (Hm prog w) A (assign target env v) (fun _ s3=>
   Hf (Hm prog w) A (forIn ifs true fun c r=>if r=true then do let ok <-isTrue c env (eval c env);pure (ForInStep.yield ok)else pure (ForInStep.yield r)) (fun ok s4=>
    if ok=true then Hf (Hm prog w) A (eval elt env) (fun x s5=>Hf (Hm prog w) A (call (.builtin "list.append") [acc,x]) (fun _ s6=>∃m,m<n/\J m s6) NoE s5) NoE s4
    else ∃m,m<n/\J m s4) NoE s3) NoE s2) NoE s1) NoE s)
 (n:Nat) (h:J n s):codeAny (Hm prog w) A (.compLoop (.ListComp elt [⟨target,iter,ifs,0⟩] scope pos) 0 it acc env) R s:=by
 have no:∀{E:G0->G3->Prop} e s',NoE e s'->E e s':=fun _ _ z=>z.elim
 refine codeAny_loop rfl J (fun n s hJ=>?_) n h
 show Hf _ _ (Sem.onRaise (compTurn (.ListComp elt [⟨target,iter,ifs,0⟩] scope pos) 0 it acc env) (fun x=>do noteFrame x env;theTreesLotGoes x)) _ _ s
 refine wpAny_noted ?_
 rw[compTurn_list]
 refine G2 (JL (G2 (HS (step n s hJ) (fun r s1 h1=>?_) no)))
 cases r with
 |none=>exact Hd h1
 |some v=>
  refine G2 (HS h1 (fun _ s2 h2=>G2 (HS h2 (fun _ s3 h3=>G2 (HS h3 (fun ok s4 h4=>?_) no)) no)) no)
  cases ok with
  |false=>exact Hd ⟨rfl,h4⟩
  |true=>exact G2 (G2 (HS h4 (fun x s5 h5=>G2 (HS h5 (fun _ s6 h6=>Hd (Hd ⟨rfl,h6⟩)) no)) no))
abbrev Own:=V->Hp->L2.St->Prop
structure TgOk(n:Nat)(g:TG)(own:Own):Prop where
 len:∀y H os,own y H os->os.length=n
 run:∀y H os0 tail os (Q:L2.St->Hp->Prop),os0.length=n->own y H os->Q (os++tail) H->g y (os0++tail) H Q
def B8(js:List Nat)(own:Own)(tc:TT)(te:TE)(σ:L2.St)(J:It)(H1:Hp)(Q:VK):Prop:=∀D,H1 D=none->∃W:Nat->Nat->Hp->Prop,(∃m,W 0 m (upd H1 D (.lst [])))/\∀i m H,W i m H->
 (J.stop i H/\Q (.ref D) H)\/(J.go i H/\∀y H',J.yld i H y H'->∃os,own y H' os/\tc (cσ os js σ) H' fun b H2=>if b=true then
  te (cσ os js σ) H2 fun v H3=>∃xs,H3 D=some (.lst xs)/\xs.length<GX/\∃m',m'<m/\W (i+1) m' (upd H3 D (.lst (xs++[v])))else ∃m',m'<m/\W (i+1) m' H2)
def td(js:List Nat)(own:Own)(wi:TI)(tc:TT)(te:TE):TE:=fun σ H Q=>wi σ H fun J H1=>B8 js own tc te σ J H1 Q
section
variable{X:Cx}{xs:List Str}{tg:Expr}{pos:Pos}{js:List Nat}{scope:JH}{elt iter:Expr}{ifs:List Expr}{te:TE}{tc:TT}{g:TG}{own:Own}{wi:TI}{pins:List (Addr×Obj)}{σ:L2.St}{H:Hp}{s:G3}{fp:List Addr}{it:Addr}{tn:Nat->Heap->Prop}{J:It}
theorem rB(c:CScope X xs js scope)(hc:X.calm=true)(hG:TgOk xs.length g own)(hg:∀C s H fp,PG (cxC X xs js scope C s H fp) tg g)(ht:∀C s H fp,PTs (cxC X xs js scope C s H fp) ifs tc)(he:∀C s H fp,PE (cxC X xs js scope C s H fp) elt te)
 {R:G0->Addr->Result->G3->Prop} {E:G0->G3->Prop} {Q:VK}
 (I:Inv X pins σ H s) (T:Turn X.prog X.w X.K tg J fp it tn) (st:tn 0 s.heap) (hf:∀b∈fp,gE X pins H b) (wc:B8 js own tc te σ J H Q)
 (hR:∀D C H' s',Inv X pins σ H' s'->gE X pins H' C->(∃m,s'.heap.Ns C m)->Q (.ref D) H'->R (.ref D) C (.ok .next) s') :
 Hf (Hm X.prog X.w) X.A (newList []) (fun acc s₃=>Hf (Hm X.prog X.w) X.A (newFunctionEnv scope X.env.globals (gv scope.names X.env) [] X.env.qual none .none (some X.env)) (fun cenv s₄=>
  codeAny (Hm X.prog X.w) X.A (.compStart (.ListComp elt [⟨tg,iter,ifs,0⟩] scope pos) 0 (.ref it) acc { cenv with scope:=relabel scope X.env }) (R acc cenv.locals) s₄) E s₃) E s:=by
 have hfp:∀b∈fp,b<s.heap.objs.size:=fun b hb=>let⟨o,e,_⟩:=T.obj 0 _ st b hb;Hb e
 have hD:H s.heap.objs.size=none:=I.hok.fresh (GY _)
 refine IJ (AH ?_)
 generalize hh:s.heap.push { cls:=.type "list",dict:=none,data:=.seq ([]:List G0).toArray }=h3
 generalize hh1:pushCells (({ s with heap:=h3 }:G3).heap.push { cls:=.type "dict",data:=.dict #[] }) scope.names=h₁
 have k3:∀b o,s.heap.get? b=some o->h3.get? b=some o:=fun b o e=>by rw[<-hh];exact G5 _ e
 have I3:Inv X pins σ (upd H s.heap.objs.size (.lst [])) { s with heap:=h3 }:=by
  refine I.laid (t':=s.toks) k3 (GY _) ?_
  refine⟨Jb _,[],0,.nil,?_⟩
  rw[<-hh]
  exact Hk _ rfl
 have hf3:∀b∈fp,gE X pins (upd H s.heap.objs.size (.lst [])) b:=fun b hb=>⟨by rw[aR (HJ (hfp b hb))];exact(hf b hb).1,(hf b hb).2⟩
 have hsz:h3.objs.size=s.heap.objs.size+1:=by rw[<-hh,Jz]
 have hfp3:∀b∈fp,b<h3.objs.size:=fun b hb=>by rw[hsz];exact Nat.lt_succ_of_lt (hfp b hb)
 have k4:∀b o,h3.get? b=some o->h₁.get? b=some o:=fun b o e=>by rw[<-hh1];exact pushCells_keeps _ _ b o (G5 _ e)
 have I4:=yT c I3 hf3 hfp3 (h':=h₁) hh1.symm k4
 obtain⟨W,⟨m0,w0⟩,turn⟩:=wc _ hD
 have st4:tn 0 h₁:=T.keep 0 _ _ st fun b hb o e=>k4 b o (k3 b o e)
 generalize hX:cxC X xs js scope h3.objs.size { s with heap:=h3 } (upd H s.heap.objs.size (.lst [])) fp=X' at I4
 have fok:∀{pins':List (Addr×Obj)} {H':Hp} {σ':L2.St} {s':G3},Inv X' [] σ' H' s'->(∀b∈fp,H' b=none)->∀b∈fp,gE X' [] H' b:=fun{pins' H' σ' s'} J' hn b hb=>by
  subst hX
  obtain⟨a1,a2⟩:=J'.ok.exf b hb
  exact⟨hn b hb,a1,J'.ok.exfs b hb,.inl hb,a2,fun p hp=>absurd (show p∈([]:List (Addr×Obj))from hp) (by simp)⟩
 have loop:codeAny (Hm X.prog X.w) X.A (.compLoop (.ListComp elt [⟨tg,iter,ifs,0⟩] scope pos) 0 (.ref it) (.ref s.heap.objs.size) (pN scope h3.objs.size X.env)) (R (.ref s.heap.objs.size) h3.objs.size)
  { s with heap:=h₁ }:=by
  refine vO (fun n s'=>∃i os H',os.length=xs.length/\Inv X' [] (cσ os js σ) H' s'/\tn i s'.heap/\(∀b∈fp,H' b=none)/\W i n H') ?_ m0 ⟨0,_,_,by simp,I4,st4,fun b hb=>(hf3 b hb).1,w0⟩
  rintro n s5 ⟨i,os,H5,hl5,I5,st5,fr5,w5⟩
  rcases turn i n H5 w5 with⟨stop,q⟩|⟨go,step⟩
  ·subst hX
   refine HS (T.done (cxC X xs js scope h3.objs.size { s with heap:=h3 } (upd H s.heap.objs.size (.lst [])) fp) rfl rfl rfl hc i [] s5 _ H5 NoE I5 (fok (pins':=[]) I5 fr5) st5 stop) (fun r s6 zz1_0=>?_) fun _ _ z=>z
   obtain⟨hr,I6⟩:=zz1_0
   subst hr
   refine hR _ _ H5 s6 (I3.zt I6.os I6.base I6.hok I6.bare fun b hb=>⟨(hf3 b hb).2.2.2.1,(hf3 b hb).2.1,(hf3 b hb).2.2.2.2.1,(hf3 b hb).2.2.2.2.2⟩) (I3.zc (GY _) I6.free) (let⟨m,hm,_⟩:=I6.loc;⟨m,hm⟩) q
  ·subst hX
   refine HS (T.item (cxC X xs js scope h3.objs.size { s with heap:=h3 } (upd H s.heap.objs.size (.lst [])) fp) rfl rfl rfl hc i [] s5 _ H5 NoE I5 (fok (pins':=[]) I5 fr5) st5 go) (fun r s6 zz2_0=>?_) fun _ _ z=>z
   obtain⟨u,hr,h6⟩:=zz2_0
   subst hr
   refine HS h6 (fun _ s7 zz3_0=>?_) fun _ _ z=>z
   obtain⟨y,H7,I7,r7,y7,st7,fr7⟩:=zz3_0
   have I7':=I7.pinned (fok (pins':=[]) I7 fr7) (T.obj _ _ st7)
   obtain⟨os8,ow8,q8⟩:=step y H7 y7
   have l8:=hG.len _ _ _ ow8
   refine HS (hg _ _ _ _ _ s7 _ H7 y u (fun σ' H'=>σ'=cσ os8 js σ/\H'=H7) I7' r7 (hG.run y H7 os _ os8 _ hl5 ow8 ⟨rfl,rfl⟩)) (fun _ s8 zz4_0=>?_) fun _ _ z=>z
   obtain⟨σ8,H8,I8,e8,e8'⟩:=zz4_0
   subst e8 e8'
   refine HS (ht _ _ _ _ _ s8 _ _ _ I8 q8) (fun ok s9 zz5_0=>?_) fun _ _ z=>z
   obtain⟨H9,I9,q9⟩:=zz5_0
   have back:∀{m':Nat} {H10:Hp} {s10:G3},Inv (cxC X xs js scope h3.objs.size { s with heap:=h3 } (upd H s.heap.objs.size (.lst [])) fp) ([]++lF fp s7.heap) (cσ os8 js σ) H10 s10->m'<n->W (i+1) m' H10->
    ∃m,m<n/\∃i os H',os.length=xs.length/\Inv (cxC X xs js scope h3.objs.size { s with heap:=h3 } (upd H s.heap.objs.size (.lst [])) fp) [] (cσ os js σ) H' s10/\tn i s10.heap/\(∀b∈fp,H' b=none)/\W i m H':=fun{m' H10 s10} I10 hm' w10=>by
    refine⟨m',hm',i+1,os8,H10,l8,I10.jj,T.keep _ _ _ st7 fun b hb o e=>(I10.pin (b,o) (Ib _ (Ib _ (gc hb e)))).1,fun b hb=>?_,w10⟩
    obtain⟨o',e,d⟩:=T.obj _ _ st7 b hb
    exact(I10.pin (b,o') (Ib _ (Ib _ (gc hb e)))).2.1
   cases ok with
   |false=>
    rw[if_neg G6]at q9 ⊢
    obtain⟨m',hm',w9⟩:=q9
    exact back I9 hm' w9
   |true=>
    rw[if_pos rfl]at q9 ⊢
    refine HS (he _ _ _ _ _ s9 _ _ _ I9 q9) (fun v s10 zz6_0=>?_) fun _ _ z=>z
    obtain⟨vv,H10,I10,r10,ys,hd10,hl10,q10⟩:=zz6_0
    refine HS (nE (X:=(cxC X xs js scope h3.objs.size { s with heap:=h3 } (upd H s.heap.objs.size (.lst [])) fp)) _ s10 _ H10 (.ref s.heap.objs.size) [vv] (.ref s.heap.objs.size) [v] (fun _ H'=>∃m',m'<n/\W (i+1) m' H') I10 rfl (.cons r10 .nil) ⟨_,ys,vv,rfl,rfl,hd10,hl10,q10⟩) (fun _ s11 zz7_0=>?_) fun _ _ z=>z
    obtain⟨_,H11,I11,_,m',hm',w11⟩:=zz7_0
    exact back I11 hm' w11
 exact codeAny_compStart_list loop (T.self X.A 0 _ _ _ st4 loop)
theorem zJ(c:CScope X xs js scope)(hc:X.calm=true)(hi:PI X tg iter wi)(hG:TgOk xs.length g own)(hg:∀C s H fp,PG (cxC X xs js scope C s H fp) tg g)(ht:∀C s H fp,PTs (cxC X xs js scope C s H fp) ifs tc)(he:∀C s H fp,PE (cxC X xs js scope C s H fp) elt te)(hs:∀x,IK iter X.env x=pure x:=by intro _;rfl) : PE X (.ListComp elt [⟨tg,iter,ifs,0⟩] scope pos) (td js own wi tc te):=by intro pins s σ H Q I h;rw[eval_ListComp];refine wpAny_comprehension_free (use:=none) rfl hs (c.Fp I.ok) c.kind c.names (thn (hi pins s σ H _ I h) fun v s1 h1=>thn h1 fun itv s2 zz8_0=>?_);obtain⟨it,fp,tn,J,H2,e,I2,T,st,f2,w⟩:=zz8_0;subst e;refine rB (R:=fun acc C=>compPost (Hm X.prog X.w) X.A X.xe none (EP X pins σ Q) acc C) c hc hG hg ht he I2 T st f2 w fun D C H' s' I' fC zz9_0 q=>?_;obtain⟨m,hm⟩:=zz9_0;exact⟨m,hm,fun h' hsb=>⟨.ref D,H',I'.turned (t':=s'.toks) (fun b o ne e=>hsb.extBut b o ne e) fC.1 fC.2.1 fC.2.2.2.1 fC.2.2.2.2.1 fC.2.2.2.2.2,rfl,q⟩⟩
theorem A0{i:Nat}{y:Str}{py spos:Pos}(c:CScope X xs js scope)(hc:X.calm=true)(hN:X.N.Nodup)(hi:PI X tg iter wi)(hG:TgOk xs.length g own)(hg:∀C s H fp,PG (cxC X xs js scope C s H fp) tg g)(ht:∀C s H fp,PTs (cxC X xs js scope C s H fp) ifs tc)(he:∀C s H fp,PE (cxC X xs js scope C s H fp) elt te)(hy:X.N[i]?=some y)(hl:X.env.scope.names.lookup y=some .local)
 (hsw:swapsWith (.ListComp elt [⟨tg,iter,ifs,0⟩] scope pos) (some (.Name y py)) spos.line X.env=pure true) (hs:∀x,IK iter X.env x=pure x:=by intro _;rfl) :
 PS X (.Assign [.Name y py] (.ListComp elt [⟨tg,iter,ifs,0⟩] scope pos) spos) (CW (td js own wi tc te) (jd i)):=by
 intro pins s σ H B I h
 rw[exec_Assign_Name_used _ _ _ _ hsw]
 refine G2 (JL (G2 ?_))
 show Hf _ X.A (do let _ <-comprehension (.ListComp elt [⟨tg,iter,ifs,0⟩] scope pos) scope X.env _ (newList []) false (eval iter X.env) (some (assign (.Name y py) X.env))) _ _ s
 refine G2 (HS (wpAny_comprehension_free (use:=some (assign (.Name y py) X.env)) (Q:=fun _ s'=>SP X pins B .next s') rfl hs (c.Fp I.ok) c.kind c.names
  (thn (hi pins s σ H _ I h) fun v s1 h1=>thn h1 fun itv s2 z=>?_)) (fun _ s' hq=>Hd (Hd hq)) fun _ _ e=>e)
 obtain⟨it,fp,tn,J,H2,e,I2,T,st,f2,w⟩:=z
 subst e
 refine rB (R:=fun acc C=>compPost (Hm X.prog X.w) X.A X.xe (some (assign (.Name y py) X.env)) (fun _ s'=>SP X pins B .next s') acc C) c hc hG hg ht he I2 T st f2 w fun D C H' s' I' fC zz10_0 q=>?_
 obtain⟨m,hm⟩:=zz10_0
 show Hf _ X.A (assign (.Name y py) X.env (.ref D)) _ _ _
 refine wpAny_assign_Name (nS I' hN hy (.inl hl) (v:=.ref D) rfl (fun s9 I9 zz11_0=>?_) (.inr hl))
 obtain⟨a,sb,ha⟩:=zz11_0
 have hne:C≠a:=by
  rcases ha with z|z
  ·rw[z];exact fC.2.1
  ·exact fun e=>fC.2.2.2.2.1 y a z e.symm
 refine⟨m,hm.sameBut sb hne,fun h' hsb=>?_⟩
 exact⟨_,H',I9.turned (t':=s9.toks) (fun b o ne e=>hsb.extBut b o ne e) fC.1 fC.2.1 fC.2.2.2.1 fC.2.2.2.2.1 fC.2.2.2.2.2,q⟩
end
inductive Tgt where
 |one|many (n:Nat)
def xc(K:cc):Tgt->Own
 |.one=>fun y _ os=>os=[some y]
 |.many n=>fun y H os=>∃a xs,y=.ref a/\SqT K H a xs/\xs.length=n/\os=xs.map some
theorem yc{K:cc}:TgOk 1 (jd 0) (xc K .one):=⟨fun _ _ os h=>by rw[h];rfl,fun y H os0 tail os Q hl ho q=>by
 obtain⟨o,rfl⟩:=xR hl
 rw[show os=[some y]from ho]at q;exact q⟩
theorem CI{K:cc}:TgOk 2 (Dg K 2 (rh (jd 0) (rh (jd 1) DZ))) (xc K (.many 2)):=⟨fun _ _ os z=>by
 obtain⟨a,xs,_,_,hl,e⟩:=z
 rw[e];simpa using hl,fun y H os0 tail os Q hl z q=>by
 obtain⟨a,xs,e,hq,hx,ho⟩:=z
 obtain⟨o,o',rfl⟩:=zR hl
 obtain⟨u,v,rfl⟩:=zR hx
 rw[ho]at q;exact⟨a,_,e,hq,hx,u,_,rfl,v,_,rfl,rfl,q⟩⟩
def An:Tgt->D->DS->Prop
 |.one,d,os=>os=[some d]
 |.many n,d,os=>∃ds,d=.tup ds/\ds.length=n/\os=ds.map some
def cδ(os:DS)(js:List Nat)(δ:DS):DS:=os++js.map fun j=>(δ[j]?).join
theorem AR{K:cc}{H:Hp}{δ os:DS}{σ us:L2.St}{js:List Nat}(hs:Slots K H δ σ)(r:Slots K H os us):Slots K H (cδ os js δ) (cσ us js σ):=by
 refine⟨by simp[cδ,cσ,r.len],fun i e q=>?_⟩;unfold cδ at q;unfold cσ;by_cases hi:i<os.length
 ·rw[Ig hi]at q;rw[Ig (by rw[<-r.len];exact hi)];exact r.at' i e q
 ·rw[HZ (by omega)]at q;rw[HZ (by rw[<-r.len];omega),<-r.len];rw[G9]at q ⊢;cases ej:js[i-os.length]? with
  |none=>rw[ej]at q;cases q
  |some j=>
   rw[ej]at q
   have e2:(δ[j]?).join=some e:=Option.some.inj q
   have e3:δ[j]?=some (some e):=by
    cases z:δ[j]? with
    |none=>rw[z]at e2;cases e2
    |some o=>rw[z]at e2;exact congrArg some e2
   obtain⟨v',e4,e5⟩:=hs.at' j e e3
   exact⟨v',by rw[show(some j).map (fun j=>(σ[j]?).join)=some ((σ[j]?).join)from rfl,e4];rfl,e5⟩
theorem nT{K:cc}{H:Hp}{ds:List D}{xs:List V}(r:aK K H ds xs):Slots K H (ds.map some) (xs.map some):=by
 refine⟨by simp[r.length],fun i d e=>?_⟩;rw[G9]at e ⊢;cases q:ds[i]? with
 |none=>rw[q]at e;cases e
 |some d'=>
  rw[q]at e;cases e
  obtain⟨x,e1,e2⟩:=r.get q
  exact⟨x,by rw[e1];rfl,e2⟩
theorem zp{K:cc}{H:Hp}{tk:Tgt}{d:D}{v:V}{os:DS}(r:Rep K H d v)(h:An tk d os):∃us,xc K tk v H us/\Slots K H os us:=by
 cases tk with
 |one=>
  rw[show os=[some d]from h]
  exact⟨[some v],rfl,nT (.cons r .nil)⟩
 |many n=>
  obtain⟨ds,rfl,hl,rfl⟩:=h
  rw[Rep]at r
  obtain⟨a,xs,rfl,hq,rs⟩:=r
  exact⟨_,⟨a,xs,rfl,hq,by rw[<-rs.length];exact hl,rfl⟩,nT rs⟩
def pK:TTD:=fun _ M Q=>Q true M
def xq(I:ItD)(tk:Tgt)(js:List Nat)(tc:TTD)(te:TD)(δ:DS)(M1:MH)(Q:DK):Prop:=I.n<=1000000/\∀p,M1 p=none->∃W:Nat->List D->MH->Prop,W 0 [] (av M1 p (.lst []))/\(∀i ys M,i<=I.n->W i ys M->I.C M)/\
 (∀i ys d M,i<I.n->I.item i=some d->W i ys M->∃os,An tk d os/\tc (cδ os js δ) M fun b M2=>if b=true then te (cδ os js δ) M2 fun e M'=>∃M3,Sub M3 M'/\M3 p=some (.lst ys)/\W (i+1) (ys++[e]) (av M3 p (.lst (ys++[e])))else ∃M3,Sub M3 M2/\W (i+1) ys M3)/\∀ys M,W I.n ys M->Q (.ref p) M
def jQ(wd:TID)(tk:Tgt)(js:List Nat)(tc:TTD)(te:TD):TD:=fun δ M Q=>wd δ M fun I M1=>xq I tk js tc te δ M1 Q
section
variable{X:Cx}{K:cc}
theorem oN{wd:TID}{tk:Tgt}{js:List Nat}{tc:TTD}{te:TD}{σ:L2.St}{H:Hp}{Q:VK}(h:lift K (jQ wd tk js tc te) σ H Q):td js (xc K tk) (Bw K wd) (liftT K tc) (lift K te) σ H Q:=by
 obtain⟨δ,M,R,hs,hM,q,fin⟩:=h;refine⟨δ,M,_,hs,hM,q,fun I M1 H1 J g1 a1 kc io p hp=>?_⟩;obtain⟨hn,kc⟩:=kc;obtain⟨W,w0,hC,turn,done⟩:=kc p (a1.fresh hp);refine⟨fun i m H2=>m=I.n-i/\i<=I.n/\Grow K H1 H2/\∃ys M,ys.length<=i/\Abs K H2 M/\W i ys M,⟨I.n,by simp,Jb _,.new hp,[],_,GY _,a1.kJ hp .nil,w0⟩,?_⟩;rintro i m H2 ⟨rfl,hi,g2,ys,M2,hl,a2,w2⟩;by_cases hin:i<I.n
 ·refine .inr ⟨io.go i H2 M2 hin g2 a2 (hC _ _ _ hi w2),fun v H3 hy=>?_⟩;obtain⟨g3,a3,d,ed,rd⟩:=io.yld i H2 M2 v H3 hin g2 a2 (hC _ _ _ hi w2) hy;obtain⟨os,ow,q3⟩:=turn i ys d M2 hin ed w2;obtain⟨us,uv,su⟩:=zp rd ow;have s3:=AR (js:=js) (hs.mono ((g1.trans g2).trans g3)) su;refine⟨us,uv,cδ os js δ,M2,_,s3,a3,q3,fun b M4 H4 g4 a4 q4=>?_⟩;cases b with
  |false=>
   rw[if_neg G6]at q4 ⊢
   obtain⟨M5,s5,w5⟩:=q4
   exact⟨I.n-(i+1),by omega,rfl,hin,(g2.trans g3).trans g4,ys,M5,by omega,a4.sub s5,w5⟩
  |true=>
   rw[if_pos rfl]at q4 ⊢
   refine⟨cδ os js δ,M4,_,s3.mono g4,a4,q4,fun e M' u H5 g5 r5 a5 zz2_0=>?_⟩
   obtain⟨M6,s6,e6,w6⟩:=zz2_0
   obtain⟨zs,hx,rs⟩:=(a5.sub s6) _ _ e6
   refine⟨zs,hx,?_,I.n-(i+1),by omega,rfl,hin,(((g2.trans g3).trans g4).trans g5).trans (.lst hx),ys++[e],_,by simp;omega,(a5.sub s6).C1 hx (rs.append (.cons r5 .nil)),w6⟩
   rw[<-rs.length]
   exact Nat.lt_of_le_of_lt hl (G8 hin (He hn (by decide)))
 ·obtain rfl:i=I.n:=by omega
  exact .inl ⟨io.stop H2 M2 g2 a2 (hC _ _ _ hi w2),fin _ _ _ _ (g1.trans g2) (by rw[Rep]) a2 (done ys M2 w2)⟩
variable{xs:List Str}{tg:Expr}{pos:Pos}{js:List Nat}{scope:JH}{elt iter:Expr}{ifs:List Expr}{te:TD}{tc:TTD}{g:TG}{tk:Tgt}{wd:TID}
def DTs(X:Cx)(ifs:List Expr)(t:TTD):Prop:=PTs X ifs (liftT X.K t)
theorem bZ:DTs X [] pK:=fun pins s σ H Q I zz3_0=>by obtain⟨δ,M,R,hs,hM,q,fin⟩:=zz3_0;exact(Ag pins s σ H Q I (fin _ _ _ .refl hM q))
theorem vb{c:Expr}{t:TTD}(h:DT X c t):DTs X [c] t:=zG h
theorem vc(c:CScope X xs js scope)(hc:X.calm=true)(hi:DI X tg iter wd)(hG:TgOk xs.length g (xc X.K tk))(hg:∀C s H fp,PG (cxC X xs js scope C s H fp) tg g)(ht:∀C s H fp,DTs (cxC X xs js scope C s H fp) ifs tc)(he:∀C s H fp,DE (cxC X xs js scope C s H fp) elt te) (hs:∀x,IK iter X.env x=pure x:=by intro _;rfl):DE X (.ListComp elt [⟨tg,iter,ifs,0⟩] scope pos) (jQ wd tk js tc te):=bD (zJ (te:=lift X.K te) (tc:=liftT X.K tc) c hc hi hG hg ht he hs) fun _ _ _ h=>oN h
theorem Bj(i:Nat){y:Str}{py spos:Pos}(hN:X.N.Nodup)(c:CScope X xs js scope)(hc:X.calm=true)(hi:DI X tg iter wd)(hG:TgOk xs.length g (xc X.K tk))(hg:∀C s H fp,PG (cxC X xs js scope C s H fp) tg g)(ht:∀C s H fp,DTs (cxC X xs js scope C s H fp) ifs tc)(he:∀C s H fp,DE (cxC X xs js scope C s H fp) elt te) (hy:X.N[i]?=some y:=by rfl) (hl:X.env.scope.names.lookup y=some .local:=by rfl) (hsw:swapsWith (.ListComp elt [⟨tg,iter,ifs,0⟩] scope pos) (some (.Name y py)) spos.line X.env=pure true:=by rfl) (hs:∀x,IK iter X.env x=pure x:=by intro _;rfl) : DSt X (.Assign [.Name y py] (.ListComp elt [⟨tg,iter,ifs,0⟩] scope pos) spos) (bH (jQ wd tk js tc te) (aJ i)):=dA (A0 (te:=lift X.K te) (tc:=liftT X.K tc) c hc hN hi hG hg ht he hy hl hsw hs) fun E σ H zz4_0=>by obtain⟨δ,M,hs,a,B,ok,q⟩:=zz4_0;exact(oN ⟨δ,M,_,hs,a,q,fun d M1 v H1 g1 r1 a1 q1=>ok.nx _ _ _ _ g1 ((hs.mono g1).set r1 i) a1 q1⟩)
theorem comp_map{I:ItD}{tk:Tgt}{js:List Nat}{te:TD}{δ:DS}{M1:MH}{Q:DK}(f:Nat->D)(hn:I.n<=1000000)(hC:∀p ys,M1 p=none->I.C (av M1 p (.lst ys))) (h:∀i d M,i<I.n->I.item i=some d->Sub M1 M->∃os,An tk d os/\∀K:DK,(∀M',Sub M M'->K (f i) M')->te (cδ os js δ) M K) (hq:∀p,M1 p=none->Q (.ref p) (av M1 p (.lst ((HF I.n).map f)))):xq I tk js pK te δ M1 Q:=by
 refine⟨hn,fun p hp=>⟨fun i ys M=>ys=(HF i).map f/\M=av M1 p (.lst ys),⟨rfl,rfl⟩,?_,?_,?_⟩⟩
 ·rintro i ys M _ ⟨_,rfl⟩;exact hC p ys hp
 ·rintro i ys d M hi hd ⟨rfl,rfl⟩;obtain⟨os,ow,k⟩:=h i d _ hi hd (.new hp .refl);refine⟨os,ow,?_⟩;unfold pK;refine E6 (k _ ?_);exact fun M' s'=>⟨_,s',ag,by rw[List.range_succ,Ik];rfl,by rw[cS]⟩
 ·rintro ys M ⟨rfl,rfl⟩;exact hq p hp
end
def En(X:Cx)(xs:List Str)(js:List Nat)(scope:JH):Bool:=
 scope.kind==.function&&scope.names.all (fun y=>(y.2 != .cell||xs.contains y.1)&&(y.2 != .free||!xs.contains y.1))&&scope.names.all (fun y=>y.2 != .local||scope.names.lookup y.1==some .local)&&xs.all (fun x=>scope.names.lookup x==some .local||scope.names.lookup x==some .cell) &&
  scope.names.all (fun y=>y.2 != .free||(X.env.kindOf y.1==some .cell||X.env.kindOf y.1==some .free))&&decide (cN X xs js).Nodup&&js.all (fun j=>scope.names.lookup ((X.N[j]?).getD ("":Str)) != some .local)
theorem CScope.of{X:Cx}{xs:List Str}{js:List Nat}{scope:JH}(h:En X xs js scope=true):CScope X xs js scope:=by
 unfold En at h;simp only[Hl]at h;obtain⟨⟨⟨⟨⟨⟨h1,h2⟩,h3⟩,h4⟩,h5⟩,h6⟩,h7⟩:=h;refine⟨by simpa using h1,fun y hy hc=>?_,fun y hy hf=>?_,fun y hy hl=>?_,fun x hx=>?_,fun y hy hf=>?_,of_decide_eq_true h6,fun j hj=>?_⟩
 ·have:=IS.mp h2 y hy;rw[hc]at this;simpa using this
 ·have:=IS.mp h2 y hy;rw[hf]at this;simpa using this
 ·have:=IS.mp h3 y hy;rw[hl]at this;simpa using this
 ·have:=IS.mp h4 x hx;simpa using this
 ·have:=IS.mp h5 y hy;rw[hf]at this;simpa using this
 ·have:=IS.mp h7 j hj;simpa using this
abbrev TOD:=DS->MH->(Option Int->MH->Prop)->Prop
def oJ(K:cc)(t:TOD):TO:=fun σ H Q=>∃δ M R,Slots K H δ σ/\Abs K H M/\t δ M R/\∀o M' H',Grow K H H'->Abs K H' M'->R o M'->Q o H'
def rH:TOD:=fun _ M Q=>Q none M
def Dt(t:TD):TOD:=fun δ M Q=>t δ M fun x M1=>∃i,x=.int i/\Q (some i) M1
def cutD(xs:List D)(lo hi:Option Int):List D:=(xs.drop (HT.sIx xs.length 0 lo)).take (HT.sIx xs.length xs.length hi-HT.sIx xs.length 0 lo)
def AQ:D->Option Int->Option Int->MH->DK->Prop:=fun x lo hi M Q=>match x with
 |.ref a=>∃ds,M a=some (.lst ds)/\∀p,M p=none->Q (.ref p) (av M p (.lst (cutD ds lo hi)))
 |.rol ds=>∀p,M p=none->Q (.ref p) (av M p (.lst (cutD ds lo hi)))
 |.tup ds=>¬(HT.sIx ds.length 0 lo=0/\HT.sIx ds.length ds.length hi=ds.length)/\Q (.tup (cutD ds lo hi)) M
 |_=>False
def Gs(te:TD)(tl th:TOD):TD:=fun δ M Q=>te δ M fun x M1=>tl δ M1 fun l M2=>th δ M2 fun u M3=>AQ x l u M3 Q
theorem aK.cut{K:cc}{H:Hp}{ds:List D}{xs:List V}(h:aK K H ds xs)(lo hi:Option Int):aK K H (cutD ds lo hi) (rp xs lo hi):=by unfold cutD rp;rw[h.length];exact(h.drop _).take _
section
variable{X:Cx}{e a:Expr}{te:TD}{tl th:TOD}{lo hi:Option Expr}{pos p2:Pos}
theorem y6{e:Option Expr}{t t':TO}(h:PO X e t)(k:∀σ H Q,t' σ H Q->t σ H Q):PO X e t':=fun pins s σ H Q I q=>h pins s σ H Q I (k _ _ _ q)
theorem bh:PO X none (oJ X.K rH):=y6 uH fun σ H Q zz5_0=>by obtain⟨δ,M,R,hs,a,q,fin⟩:=zz5_0;exact(fin _ _ _ .refl a q)
theorem aZ(h:DE X e te):PO X (some e) (oJ X.K (Dt te)):=y6 (vt h) fun σ H Q zz6_0=>by obtain⟨δ,M,R,hs,a,q,fin⟩:=zz6_0;exact(⟨δ,M,_,hs,a,q,fun d M1 v H1 g1 r1 a1 z9=>by
 obtain⟨i,ei,q1⟩:=z9
 subst ei
 rw[Rep]at r1
 exact⟨i,r1,fin _ _ _ g1 a1 q1⟩⟩)
theorem yq(he:DE X a te)(hl:PO X lo (oJ X.K tl))(hu:PO X hi (oJ X.K th)):DE X (.Subscript a (.Slice lo hi none p2) pos) (Gs te tl th):=
 bD (mQ (uI.or za) he hl hu) fun σ H Q zz7_0=>by obtain⟨δ,M,R,hs,a,q,fin⟩:=zz7_0;exact(⟨δ,M,_,hs,a,q,fun x M1 v H1 g1 r1 a1 q1=>⟨δ,M1,_,hs.mono g1,a1,q1,fun l M2 H2 g2 a2 q2=>⟨δ,M2,_,hs.mono (g1.trans g2),a2,q2,fun u M3 H3 g3 a3 q3=>by
  have G:=(g1.trans g2).trans g3
  have r3:=r1.mono (g2.trans g3)
  unfold AQ at q3
  split at q3
  ·obtain⟨ds,e3,q3⟩:=q3
   obtain rfl:v=.ref _:=r3
   obtain⟨xs,hx,rs⟩:=a3 _ _ e3
   exact .inl ⟨_,xs,rfl,SqL.of hx,fun z hz=>fin _ _ _ _ (G.trans (.new hz)) (by rw[Rep]) (a3.kJ hz (rs.cut _ _)) (q3 z (a3.fresh hz))⟩
  ·rw[Rep]at r3
   obtain⟨b,xs,rfl,hx,rs⟩:=r3
   exact .inl ⟨_,xs,rfl,hx.sql,fun z hz=>fin _ _ _ _ (G.trans (.new hz)) (by rw[Rep]) (a3.kJ hz (rs.cut _ _)) (q3 z (a3.fresh hz))⟩
  ·obtain⟨hw,q3⟩:=q3
   rw[Rep]at r3
   obtain⟨b,xs,rfl,hx,rs⟩:=r3
   exact .inr ⟨_,xs,rfl,hx,by rw[<-rs.length];exact hw,fun z hz=>fin _ _ _ _ (G.trans (.new hz)) (by rw[Rep];exact⟨z,_,rfl,SqT.of aY,(rs.cut _ _).mono (.new hz)⟩) (a3.new hz) q3⟩
  ·exact q3.elim⟩⟩⟩)
end
section
variable{X:Cx}{x y z:Str}{px py pz pt pos:Pos}{kt:Nat}{js:List Nat}{scope:JH}{elt iter:Expr}{ifs:List Expr}{te:TD}{tc:TTD}{wd:TID}{xs:List Str}
theorem pJ(c:CScope X xs js scope)(i:Nat)(hx:xs[i]?=some x){C:Addr}{s:G3}{H:Hp}{fp:List Addr}:PG (cxC X xs js scope C s H fp) (.Name x px) (jd i):=by
 have hi:i<xs.length:=(Hj.mp hx).1;have hm:=Hh hx
 have hl:Loc (cxC X xs js scope C s H fp).env.scope x:=by
  rcases c.own x hm with z|z
  ·exact .inl (gj (by decide) z)
  ·exact .inr (gj (by decide) z)
 refine vk (i:=i) c.nd ?_ hl (.inl (by show xs.contains x=true;simpa using hm));show(xs++js.map fun j=>(X.N[j]?).getD ("":Str))[i]?=some x;rw[Ig hi];exact hx
theorem zS(c:CScope X [x,y] js scope)(hc:X.calm=true){C:Addr}{s:G3}{H:Hp}{fp:List Addr}:PG (cxC X [x,y] js scope C s H fp) (.Tuple [.Name x px,.Name y py] kt pt) (Dg X.K 2 (rh (jd 0) (rh (jd 1) DZ))):=y8 (X:=cxC X [x,y] js scope C s H fp) hc (lh (pJ c 0 rfl) (lh (pJ c 1 rfl) vA)) rfl rfl
theorem c8(c:CScope X [x] js scope)(hc:X.calm=true)(hi:DI X (.Name x px) iter wd)(ht:∀C s H fp,DTs (cxC X [x] js scope C s H fp) ifs tc)(he:∀C s H fp,DE (cxC X [x] js scope C s H fp) elt te) (hs:∀x,IK iter X.env x=pure x:=by intro _;rfl):DE X (.ListComp elt [⟨.Name x px,iter,ifs,0⟩] scope pos) (jQ wd .one js tc te):=vc c hc hi yc (fun _ _ _ _=>pJ c 0 rfl) ht he hs
theorem qL(c:CScope X [x,y] js scope)(hc:X.calm=true)(hi:DI X (.Tuple [.Name x px,.Name y py] kt pt) iter wd)(ht:∀C s H fp,DTs (cxC X [x,y] js scope C s H fp) ifs tc)(he:∀C s H fp,DE (cxC X [x,y] js scope C s H fp) elt te) (hs:∀x,IK iter X.env x=pure x:=by intro _;rfl):DE X (.ListComp elt [⟨.Tuple [.Name x px,.Name y py] kt pt,iter,ifs,0⟩] scope pos) (jQ wd (.many 2) js tc te):=vc c hc hi CI (fun _ _ _ _=>zS c hc) ht he hs
theorem eo(i:Nat){v:Str}{pv spos:Pos}(hN:X.N.Nodup)(c:CScope X [x] js scope)(hc:X.calm=true)(hi:DI X (.Name x px) iter wd)(ht:∀C s H fp,DTs (cxC X [x] js scope C s H fp) ifs tc)(he:∀C s H fp,DE (cxC X [x] js scope C s H fp) elt te) (hy:X.N[i]?=some v:=by rfl) (hl:X.env.scope.names.lookup v=some .local:=by rfl) (hsw:swapsWith (.ListComp elt [⟨.Name x px,iter,ifs,0⟩] scope pos) (some (.Name v pv)) spos.line X.env=pure true:=by rfl) (hs:∀x,IK iter X.env x=pure x:=by intro _;rfl) : DSt X (.Assign [.Name v pv] (.ListComp elt [⟨.Name x px,iter,ifs,0⟩] scope pos) spos) (bH (jQ wd .one js tc te) (aJ i)):=Bj i hN c hc hi yc (fun _ _ _ _=>pJ c 0 rfl) ht he hy hl hsw hs
end
section
variable{prog:Hi}{w:HL}{A:HM}{E:G0->G3->Prop}{s:G3}
theorem max_two{a b:G0}{c:Bool}{Q:G0->G3->Prop}(hh:A.handled=none)
 (cmp:∀(t:G3) (Q':G0->G3->Prop) (E':G0->G3->Prop),(∀x o,s.heap.get? x=some o->t.heap.get? x=some o)->Q' (.bool c) t->Hf (Hm prog w) A.in1 (richCompare .Gt b a) Q' E' t)
 (h:∀h' tk,(∀x o,s.heap.get? x=some o->h'.get? x=some o)->Q (if c=true then b else a) { s with heap:=h',toks:=tk }) :
 Hf (Hm prog w) A (call (.builtin "max") [a,b]) Q E s:=by
 have nm:(toString "max"++toString ".loop":String)="max.loop":=by decide
 refine call_function_tree F.kind_max F.plain_max F.entry_max (F.args_max2 _ _) ?_
 show Hf _ A.in1 (Builtin.Builtins.bindParams "max" ["key","default"] 0 ⟨[],[]⟩ >>= fun _=>_) _ _ s
 refine G2 (wpAny_of_eq (a:=[none,none]) rfl ?_)
 show Hf _ A.in1 (newTuple [a,b] >>= fun _=>_) _ _ s
 refine G2 (IJ ?_)
 generalize e1:s.heap.push { cls:=.type "tuple",dict:=none,data:=.seq ([a,b]:List G0).toArray }=h1
 have k1:∀x o,s.heap.get? x=some o->h1.get? x=some o:=fun x o q=>by rw[<-e1];exact G5 _ q
 have hT:h1.IsTuple s.heap.objs.size #[a,b]:=by rw[<-e1];exact⟨_,Hk _ rfl,rfl,0,rfl⟩
 have z1:h1.objs.size=s.heap.objs.size+1:=by rw[<-e1,Jz]
 refine G2 (wpAny_pyIter_tuple (s:={ s with heap:=h1 }) hT ?_)
 refine G2 (IJ ?_)
 dsimp only
 generalize eI:h1.objs.size=I
 generalize e2:h1.push _=h2
 have k2:∀x o,h1.get? x=some o->h2.get? x=some o:=fun x o q=>by rw[<-e2];exact G5 _ q
 have hI:h2.IsTupleIter I s.heap.objs.size 0:=by rw[<-e2,<-eI];exact⟨_,Hk _ rfl,rfl,rfl⟩
 have z2:h2.objs.size=I+1:=by rw[<-e2,Jz,eI]
 generalize eS:h2.objs.size=S
 generalize e3:h2.push _=h3
 have k3:∀x o,h2.get? x=some o->h3.get? x=some o:=fun x o q=>by rw[<-e3];exact G5 _ q
 have hS:h3.get? S=some { cls:=.type "list",dict:=none,data:=.seq #[] 0,slots:=#[] }:=by rw[<-e3,<-eS];exact Hk _ rfl
 have SI:S≠I:=by omega
 have old:∀x o,s.heap.get? x=some o->x≠I/\x≠S:=fun x o q=>⟨HJ (G8 (Hb q) (by omega)),HJ (G8 (Hb q) (by omega))⟩
 have hT3:h3.IsTuple s.heap.objs.size #[a,b]:=by
  obtain⟨o,q,r⟩:=hT
  exact⟨o,k3 _ _ (k2 _ _ q),r⟩
 have hI3:h3.IsTupleIter I s.heap.objs.size 0:=hI.at fun o q=>k3 _ _ q
 have TI:s.heap.objs.size≠I:=by omega
 have TS:s.heap.objs.size≠S:=by omega
 have keep3:∀x o,s.heap.get? x=some o->h3.get? x=some o:=fun x o q=>k3 _ _ (k2 _ _ (k1 _ _ q))
 rw[nm]
 refine Hd ⟨JM Ju _,?_⟩
 have last:∀(t:G3) (v:G0) (n:Nat),t.heap.IsTupleIter I s.heap.objs.size 2->t.heap.IsTuple s.heap.objs.size #[a,b]->t.heap.get? S=some { cls:=.type "list",dict:=none,data:=.seq #[v,v] n,slots:=#[] }->
  (∃h' tk,t={ s with heap:=h',toks:=tk }/\∀x o,s.heap.get? x=some o->h'.get? x=some o)->v=(if c=true then b else a)->codeAny (Hm prog w) A (.builtin "max.loop" ⟨[.ref I,.none,.ref S],[]⟩) (fun r s'=>match r with|.ok (.ret v)=>Q v s'|.ok _=>False|.error e=>E e s') t:=by
  rintro t v n i2 tT lS ⟨h',tk,rfl,kt⟩ ev
  refine JE F.entry_max_loop ?_
  rw[Je Ju _]
  show Hf _ A.in1 (seqItems? (.ref S) >>= fun _=>_) _ _ _
  refine G2 (wpAny_seqItems lS rfl ?_)
  show Hf _ A.in1 (tryCatch (pyNext (.ref I)) _ >>= fun _=>_) _ _ _
  refine G2 (JA (wpAny_pyNext_tuple_end (A:=A.in1) hh i2 tT (by simp) fun h4 q4=>?_))
  have lS4:h4.get? S=some _:=q4 _ _ SI lS
  show Hf _ A.in1 (updateSeq S (fun _=>#[]) >>= fun _=>_) _ _ _
  refine G2 (wpAny_updateSeq lS4 rfl (G2 (wpAny_letGo (Hd ?_))))
  show Q v _
  rw[ev]
  exact h _ _ fun x o q=>(Hs _ _ (old x o q).2.symm).trans (q4 x o (old x o q).1 (kt x o q))
 refine JE F.entry_max_loop ?_
 rw[Je Ju _]
 show Hf _ A.in1 (seqItems? (.ref S) >>= fun _=>_) _ _ _
 refine G2 (wpAny_seqItems (s:={ s with heap:=h3 }) hS rfl ?_)
 show Hf _ A.in1 (tryCatch (pyNext (.ref I)) _ >>= fun _=>_) _ _ _
 refine G2 (JA (Jh (s:={ s with heap:=h3 }) hI3 hT3 (x:=a) (by simp) fun h4 i4 q4=>?_))
 have hS4:h4.get? S=some _:=(q4.2 _ SI).trans hS
 have hT4:h4.IsTuple s.heap.objs.size #[a,b]:=by
  obtain⟨o,q,r⟩:=hT3
  exact⟨o,(q4.2 _ TI).trans q,r⟩
 show Hf _ A.in1 (updateSeq S (fun _=>#[a,a]) >>= fun _=>_) _ _ _
 refine G2 (wpAny_updateSeq hS4 rfl ?_)
 rw[nm]
 refine Hd ⟨JM Ju _,?_⟩
 generalize e5:h4.update S _=h5
 have o5:∀x,x≠S->h5.get? x=h4.get? x:=fun x q=>by rw[<-e5];exact Hs _ _ q.symm
 have hS5:∃n,h5.get? S=some { cls:=.type "list",dict:=none,data:=.seq #[a,a] n,slots:=#[] }:=⟨_,by rw[<-e5];exact IA _ hS4 rfl⟩
 obtain⟨n5,hS5⟩:=hS5
 have i5:h5.IsTupleIter I s.heap.objs.size 1:=i4.at fun o q=>(o5 _ SI.symm).trans q
 have hT5:h5.IsTuple s.heap.objs.size #[a,b]:=by
  obtain⟨o,q,r⟩:=hT4
  exact⟨o,(o5 _ TS).trans q,r⟩
 have keep5:∀x o,s.heap.get? x=some o->h5.get? x=some o:=fun x o q=>(o5 _ (old x o q).2).trans ((q4.2 _ (old x o q).1).trans (keep3 x o q))
 refine JE F.entry_max_loop ?_
 rw[Je Ju _]
 show Hf _ A.in1 (seqItems? (.ref S) >>= fun _=>_) _ _ _
 refine G2 (wpAny_seqItems (s:={ s with heap:=h5 }) hS5 rfl ?_)
 show Hf _ A.in1 (tryCatch (pyNext (.ref I)) _ >>= fun _=>_) _ _ _
 refine G2 (JA (Jh (s:={ s with heap:=h5 }) i5 hT5 (x:=b) (by simp) fun h6 i6 q6=>?_))
 have hS6:h6.get? S=some _:=(q6.2 _ SI).trans hS5
 have hT6:h6.IsTuple s.heap.objs.size #[a,b]:=by
  obtain⟨o,q,r⟩:=hT5
  exact⟨o,(q6.2 _ TI).trans q,r⟩
 have keep6:∀x o,s.heap.get? x=some o->h6.get? x=some o:=fun x o q=>(q6.2 _ (old x o q).1).trans (keep5 x o q)
 show Hf _ A.in1 (tryCatch (holding [b,b] (richCompare .Gt b a >>= fun _=>_)) _ >>= fun _=>_) _ _ _
 refine G2 (JA (IG (G2 (cmp _ _ _ keep6 ?_))))
 refine G2 (IG (Iv ?_))
 refine G2 (wpAny_letGo (Hd ?_))
 cases c with
 |true=>
  simp only[if_true]at last ⊢
  refine G2 (wpAny_updateSeq hS6 rfl (G2 (wpAny_letGo ?_)))
  rw[nm]
  refine Hd ⟨JM Ju _,last _ b _ (i6.at fun o q=>(Hs _ _ SI).trans q) ?_ (IA _ hS6 rfl) ⟨_,_,rfl,fun x o q=>(Hs _ _ (old x o q).2.symm).trans (keep6 x o q)⟩ rfl⟩
  obtain⟨o,q,r⟩:=hT6
  exact⟨o,(Hs _ _ TS.symm).trans q,r⟩
 |false=>
  simp only[Bool.false_eq_true,if_false]at last ⊢
  refine G2 (wpAny_letGo ?_)
  rw[nm]
  exact Hd ⟨JM Ju _,last _ a _ i6 hT6 hS6 ⟨_,_,rfl,keep6⟩ rfl⟩
theorem min_two{a b:G0}{c:Bool}{Q:G0->G3->Prop}(hh:A.handled=none)
 (cmp:∀(t:G3) (Q':G0->G3->Prop) (E':G0->G3->Prop),(∀x o,s.heap.get? x=some o->t.heap.get? x=some o)->Q' (.bool c) t->Hf (Hm prog w) A.in1 (richCompare .Lt b a) Q' E' t)
 (h:∀h' tk,(∀x o,s.heap.get? x=some o->h'.get? x=some o)->Q (if c=true then b else a) { s with heap:=h',toks:=tk }) :
 Hf (Hm prog w) A (call (.builtin "min") [a,b]) Q E s:=by
 have nm:(toString "min"++toString ".loop":String)="min.loop":=by decide
 refine call_function_tree F.kind_min F.plain_min F.entry_min (F.args_min2 _ _) ?_
 show Hf _ A.in1 (Builtin.Builtins.bindParams "min" ["key","default"] 0 ⟨[],[]⟩ >>= fun _=>_) _ _ s
 refine G2 (wpAny_of_eq (a:=[none,none]) rfl ?_)
 show Hf _ A.in1 (newTuple [a,b] >>= fun _=>_) _ _ s
 refine G2 (IJ ?_)
 generalize e1:s.heap.push { cls:=.type "tuple",dict:=none,data:=.seq ([a,b]:List G0).toArray }=h1
 have k1:∀x o,s.heap.get? x=some o->h1.get? x=some o:=fun x o q=>by rw[<-e1];exact G5 _ q
 have hT:h1.IsTuple s.heap.objs.size #[a,b]:=by rw[<-e1];exact⟨_,Hk _ rfl,rfl,0,rfl⟩
 have z1:h1.objs.size=s.heap.objs.size+1:=by rw[<-e1,Jz]
 refine G2 (wpAny_pyIter_tuple (s:={ s with heap:=h1 }) hT ?_)
 refine G2 (IJ ?_)
 dsimp only
 generalize eI:h1.objs.size=I
 generalize e2:h1.push _=h2
 have k2:∀x o,h1.get? x=some o->h2.get? x=some o:=fun x o q=>by rw[<-e2];exact G5 _ q
 have hI:h2.IsTupleIter I s.heap.objs.size 0:=by rw[<-e2,<-eI];exact⟨_,Hk _ rfl,rfl,rfl⟩
 have z2:h2.objs.size=I+1:=by rw[<-e2,Jz,eI]
 generalize eS:h2.objs.size=S
 generalize e3:h2.push _=h3
 have k3:∀x o,h2.get? x=some o->h3.get? x=some o:=fun x o q=>by rw[<-e3];exact G5 _ q
 have hS:h3.get? S=some { cls:=.type "list",dict:=none,data:=.seq #[] 0,slots:=#[] }:=by rw[<-e3,<-eS];exact Hk _ rfl
 have SI:S≠I:=by omega
 have old:∀x o,s.heap.get? x=some o->x≠I/\x≠S:=fun x o q=>⟨HJ (G8 (Hb q) (by omega)),HJ (G8 (Hb q) (by omega))⟩
 have hT3:h3.IsTuple s.heap.objs.size #[a,b]:=by
  obtain⟨o,q,r⟩:=hT
  exact⟨o,k3 _ _ (k2 _ _ q),r⟩
 have hI3:h3.IsTupleIter I s.heap.objs.size 0:=hI.at fun o q=>k3 _ _ q
 have TI:s.heap.objs.size≠I:=by omega
 have TS:s.heap.objs.size≠S:=by omega
 have keep3:∀x o,s.heap.get? x=some o->h3.get? x=some o:=fun x o q=>k3 _ _ (k2 _ _ (k1 _ _ q))
 rw[nm]
 refine Hd ⟨JM Jv _,?_⟩
 have last:∀(t:G3) (v:G0) (n:Nat),t.heap.IsTupleIter I s.heap.objs.size 2->t.heap.IsTuple s.heap.objs.size #[a,b]->t.heap.get? S=some { cls:=.type "list",dict:=none,data:=.seq #[v,v] n,slots:=#[] }->
  (∃h' tk,t={ s with heap:=h',toks:=tk }/\∀x o,s.heap.get? x=some o->h'.get? x=some o)->v=(if c=true then b else a)->codeAny (Hm prog w) A (.builtin "min.loop" ⟨[.ref I,.none,.ref S],[]⟩) (fun r s'=>match r with|.ok (.ret v)=>Q v s'|.ok _=>False|.error e=>E e s') t:=by
  rintro t v n i2 tT lS ⟨h',tk,rfl,kt⟩ ev
  refine JE F.entry_min_loop ?_
  rw[Je Jv _]
  show Hf _ A.in1 (seqItems? (.ref S) >>= fun _=>_) _ _ _
  refine G2 (wpAny_seqItems lS rfl ?_)
  show Hf _ A.in1 (tryCatch (pyNext (.ref I)) _ >>= fun _=>_) _ _ _
  refine G2 (JA (wpAny_pyNext_tuple_end (A:=A.in1) hh i2 tT (by simp) fun h4 q4=>?_))
  have lS4:h4.get? S=some _:=q4 _ _ SI lS
  show Hf _ A.in1 (updateSeq S (fun _=>#[]) >>= fun _=>_) _ _ _
  refine G2 (wpAny_updateSeq lS4 rfl (G2 (wpAny_letGo (Hd ?_))))
  show Q v _
  rw[ev]
  exact h _ _ fun x o q=>(Hs _ _ (old x o q).2.symm).trans (q4 x o (old x o q).1 (kt x o q))
 refine JE F.entry_min_loop ?_
 rw[Je Jv _]
 show Hf _ A.in1 (seqItems? (.ref S) >>= fun _=>_) _ _ _
 refine G2 (wpAny_seqItems (s:={ s with heap:=h3 }) hS rfl ?_)
 show Hf _ A.in1 (tryCatch (pyNext (.ref I)) _ >>= fun _=>_) _ _ _
 refine G2 (JA (Jh (s:={ s with heap:=h3 }) hI3 hT3 (x:=a) (by simp) fun h4 i4 q4=>?_))
 have hS4:h4.get? S=some _:=(q4.2 _ SI).trans hS
 have hT4:h4.IsTuple s.heap.objs.size #[a,b]:=by
  obtain⟨o,q,r⟩:=hT3
  exact⟨o,(q4.2 _ TI).trans q,r⟩
 show Hf _ A.in1 (updateSeq S (fun _=>#[a,a]) >>= fun _=>_) _ _ _
 refine G2 (wpAny_updateSeq hS4 rfl ?_)
 rw[nm]
 refine Hd ⟨JM Jv _,?_⟩
 generalize e5:h4.update S _=h5
 have o5:∀x,x≠S->h5.get? x=h4.get? x:=fun x q=>by rw[<-e5];exact Hs _ _ q.symm
 have hS5:∃n,h5.get? S=some { cls:=.type "list",dict:=none,data:=.seq #[a,a] n,slots:=#[] }:=⟨_,by rw[<-e5];exact IA _ hS4 rfl⟩
 obtain⟨n5,hS5⟩:=hS5
 have i5:h5.IsTupleIter I s.heap.objs.size 1:=i4.at fun o q=>(o5 _ SI.symm).trans q
 have hT5:h5.IsTuple s.heap.objs.size #[a,b]:=by
  obtain⟨o,q,r⟩:=hT4
  exact⟨o,(o5 _ TS).trans q,r⟩
 have keep5:∀x o,s.heap.get? x=some o->h5.get? x=some o:=fun x o q=>(o5 _ (old x o q).2).trans ((q4.2 _ (old x o q).1).trans (keep3 x o q))
 refine JE F.entry_min_loop ?_
 rw[Je Jv _]
 show Hf _ A.in1 (seqItems? (.ref S) >>= fun _=>_) _ _ _
 refine G2 (wpAny_seqItems (s:={ s with heap:=h5 }) hS5 rfl ?_)
 show Hf _ A.in1 (tryCatch (pyNext (.ref I)) _ >>= fun _=>_) _ _ _
 refine G2 (JA (Jh (s:={ s with heap:=h5 }) i5 hT5 (x:=b) (by simp) fun h6 i6 q6=>?_))
 have hS6:h6.get? S=some _:=(q6.2 _ SI).trans hS5
 have hT6:h6.IsTuple s.heap.objs.size #[a,b]:=by
  obtain⟨o,q,r⟩:=hT5
  exact⟨o,(q6.2 _ TI).trans q,r⟩
 have keep6:∀x o,s.heap.get? x=some o->h6.get? x=some o:=fun x o q=>(q6.2 _ (old x o q).1).trans (keep5 x o q)
 show Hf _ A.in1 (tryCatch (holding [b,b] (richCompare .Lt b a >>= fun _=>_)) _ >>= fun _=>_) _ _ _
 refine G2 (JA (IG (G2 (cmp _ _ _ keep6 ?_))))
 refine G2 (IG (Iv ?_))
 refine G2 (wpAny_letGo (Hd ?_))
 cases c with
 |true=>
  simp only[if_true]at last ⊢
  refine G2 (wpAny_updateSeq hS6 rfl (G2 (wpAny_letGo ?_)))
  rw[nm]
  refine Hd ⟨JM Jv _,last _ b _ (i6.at fun o q=>(Hs _ _ SI).trans q) ?_ (IA _ hS6 rfl) ⟨_,_,rfl,fun x o q=>(Hs _ _ (old x o q).2.symm).trans (keep6 x o q)⟩ rfl⟩
  obtain⟨o,q,r⟩:=hT6
  exact⟨o,(Hs _ _ TS.symm).trans q,r⟩
 |false=>
  simp only[Bool.false_eq_true,if_false]at last ⊢
  refine G2 (wpAny_letGo ?_)
  rw[nm]
  exact Hd ⟨JM Jv _,last _ a _ i6 hT6 hS6 ⟨_,_,rfl,keep6⟩ rfl⟩
end
end SD
namespace HT
open PySem PyProof.Rows
def lexLe:List Int->List Int->Bool
 |[],[]=>true
 |[],_::_=>true
 |_::_,[]=>false
 |x::xs,y::ys=>if x=y then lexLe xs ys else decide (x<=y)
theorem tP(x y:Int)(xs ys:List Int):lexLe (x::xs) (y::ys)=if x=y then lexLe xs ys else decide (x<=y):=rfl
theorem nC:lexLe [] []=true:=rfl
theorem mn(y:Int)(ys:List Int):lexLe [] (y::ys)=true:=rfl
theorem lT(x:Int)(xs:List Int):lexLe (x::xs) []=false:=rfl
theorem yi(A:HM)(s:G3)(a:Int)(t:Tok)(c:Int)(u:Tok)(prog:Hi)(w:HL)(E:G0->G3->Prop)(Q:G0->G3->Prop)(h:Q (.bool (decide (a<=c))) s) : Hf (Hm prog w) A (richCompare .LtE (.int a t) (.int c u)) Q E s:=(PyProof.Rows.le_int h:Hf (Hm prog w) A (Hn .LtE (.int a t) (.int c u)) Q E s)
section
open PySem.SeqAt
open PySem.AutoSeq1 (wpAny_loadPart')
open PySem.MeetsSeq PySem.MeetsSeq2 PySem.MeetsSeq3
theorem nz(l b:Addr)(items items2:Array G0)(n n2:Nat)(dd dd2:Option Addr)(sl sl2:Array (Option G0))(ns ms:List Int)(hi:IE items.toList ns)(hj:IE items2.toList ms) :
 Meets (Builtin.«tuple.__le__» ⟨[.ref l,.ref b],[]⟩)
  (fun _ R s=>s.heap.get? l=some { cls:=.type "tuple",dict:=dd,data:=.seq items n,slots:=sl }/\s.heap.get? b=some { cls:=.type "tuple",dict:=dd2,data:=.seq items2 n2,slots:=sl2 }/\
   R (.ok (.ret (.bool (lexLe ns ms)))) s):=
 .of_wp fun prog w A R s h=>by
  obtain⟨hp,g,d,tk,os⟩:=s;obtain⟨hl,hb,h⟩:=h
  have f2:=AutoSeq1.sub_tuple_tuple
  have z1:items.size=ns.length:=by rw[<-hi.length];simp
  have z2:items2.size=ms.length:=by rw[<-hj.length];simp
  wp_walk using IF hl,IF hb,wpAny_forIn_list _ (fun rest b s'=>b.1=none/\s'=⟨hp,g,d,tk,os⟩/\∃(vs ws:List G0) (ns' ms':List Int),rest=vs.zip ws/\
   IE vs ns'/\IE ws ms'/\ns'.length+items2.size=ms'.length+items.size/\R (.ok (.ret (.bool (lexLe ns' ms')))) ⟨hp,g,d,tk,os⟩) _
  case turn=>
   rintro⟨y,x⟩ rest b s' ⟨hb',rfl,vs,ws,ns',ms',hz,hvi,hwi,hlen,hR⟩
   cases hvi with
   |nil=>rw[List.zip_nil_left]at hz;cases hz
   |cons a t hvi'=>
    cases hwi with
    |nil=>rw[List.zip_nil_right]at hz;cases hz
    |cons c u hwi'=>
     rw[IP]at hz
     injection hz with hyx hrest
     injection hyx with hy hx
     subst hy hx
     rw[tP]at hR
     simp only[Hw]at hlen
     obtain⟨e,he,hiff⟩:=jH A.in1 ⟨hp,g,d,tk,os⟩ a t c u
     refine G2 (he prog w _ _ ?_)
     cases e with
     |true=>
      rw[if_pos (hiff.mp rfl)]at hR
      wp_walk
      exact⟨rfl,rfl,_,_,_,_,hrest,hvi',hwi',by omega,hR⟩
     |false=>
      rw[if_neg (fun q=>absurd (hiff.mpr q) G6)]at hR
      have hri:=yi A.in1 ⟨hp,g,d,tk,os⟩ a t c u prog w
      wp_walk using hri
      exact⟨_,rfl,by simpa using hR⟩
  case fin=>
   rintro⟨b1,b2⟩ s' ⟨hb',rfl,vs,ws,ns',ms',hz,hvi,hwi,hlen,hR⟩
   simp only at hb'
   subst hb'
   have hv:lexLe ns' ms'=decide (items.size<=items2.size):=by
    cases hvi with
    |nil=>
     cases hwi with
     |nil=>
      simp only[IC]at hlen
      rw[nC]
      exact(decide_eq_true (by omega)).symm
     |cons c u hw=>
      simp only[IC,Hw]at hlen
      rw[mn]
      exact(decide_eq_true (by omega)).symm
    |cons a t hv=>
     cases hwi with
     |nil=>
      simp only[IC,Hw]at hlen
      rw[lT]
      exact(decide_eq_false (by omega)).symm
     |cons c u hw=>
      rw[IP]at hz
      cases hz
   rw[hv]at hR
   wp_walk
   exact⟨_,rfl,by simpa[J1]using hR⟩
  case h=>
   exact⟨rfl,rfl,items.toList,items2.toList,ns,ms,rfl,hi,hj,by omega,h⟩
end
section
variable{prog:Hi}{w:HL}{A:HM}{E:G0->G3->Prop}{s:G3}
theorem sG{l b:Addr}{items items2:Array G0}{ns ms:List Int}{Q:G0->G3->Prop}(hl:IsTup s.heap l items)(hb:IsTup s.heap b items2)(hi:IE items.toList ns)(hj:IE items2.toList ms) (hu:A.units<JI) (h:Q (.bool (lexLe ns ms)) s):Hf (Hm prog w) A (Hn .LtE (.ref l) (.ref b)) Q E s:=by obtain⟨⟨cls,dd,data,sl⟩,ho,hc,n,hd⟩:=id hl;obtain⟨⟨cls2,dd2,data2,sl2⟩,ho2,hc2,n2,hd2⟩:=id hb;simp only at hc hd hc2 hd2;subst hc hd hc2 hd2;exact richCompare_meets_room (op:=.LtE) ⟨_,ho,rfl⟩ ⟨_,ho2,rfl⟩ PySem.F.slot_tuple_le PySem.F.entry_tuple_le (PySem.F.args_tuple_le_2 _ _) (nz l b items items2 n n2 dd dd2 sl sl2 ns ms hi hj) ⟨ho,ho2,show IM (lexLe ns ms)≠Value.notImplemented/\Q (.bool (lexLe ns ms)) s from⟨(fun x=>nomatch x),h⟩⟩ hu
end
def bY:List Int->List Int->Bool
 |[],[]=>false
 |[],_::_=>false
 |_::_,[]=>true
 |x::xs,y::ys=>if x=y then bY xs ys else decide (y<x)
theorem sZ(x y:Int)(xs ys:List Int):bY (x::xs) (y::ys)=if x=y then bY xs ys else decide (y<x):=rfl
theorem nA:bY [] []=false:=rfl
theorem mJ(y:Int)(ys:List Int):bY [] (y::ys)=false:=rfl
theorem mY(x:Int)(xs:List Int):bY (x::xs) []=true:=rfl
theorem y9(A:HM)(s:G3)(a:Int)(t:Tok)(c:Int)(u:Tok)(prog:Hi)(w:HL)(E:G0->G3->Prop)(Q:G0->G3->Prop)(h:Q (.bool (decide (c<a))) s) : Hf (Hm prog w) A (richCompare .Gt (.int a t) (.int c u)) Q E s:=(PyProof.Rows.gt_int h:Hf (Hm prog w) A (Hn .Gt (.int a t) (.int c u)) Q E s)
section
open PySem.SeqAt
open PySem.AutoSeq1 (wpAny_loadPart')
open PySem.MeetsSeq PySem.MeetsSeq2 PySem.MeetsSeq3
theorem m5(l b:Addr)(items items2:Array G0)(n n2:Nat)(dd dd2:Option Addr)(sl sl2:Array (Option G0))(ns ms:List Int)(hi:IE items.toList ns)(hj:IE items2.toList ms) :
 Meets (Builtin.«tuple.__gt__» ⟨[.ref l,.ref b],[]⟩)
  (fun _ R s=>s.heap.get? l=some { cls:=.type "tuple",dict:=dd,data:=.seq items n,slots:=sl }/\s.heap.get? b=some { cls:=.type "tuple",dict:=dd2,data:=.seq items2 n2,slots:=sl2 }/\
   R (.ok (.ret (.bool (bY ns ms)))) s):=
 .of_wp fun prog w A R s h=>by
  obtain⟨hp,g,d,tk,os⟩:=s;obtain⟨hl,hb,h⟩:=h
  have f2:=AutoSeq1.sub_tuple_tuple
  have z1:items.size=ns.length:=by rw[<-hi.length];simp
  have z2:items2.size=ms.length:=by rw[<-hj.length];simp
  wp_walk using IF hl,IF hb,wpAny_forIn_list _ (fun rest b s'=>b.1=none/\s'=⟨hp,g,d,tk,os⟩/\∃(vs ws:List G0) (ns' ms':List Int),rest=vs.zip ws/\
   IE vs ns'/\IE ws ms'/\ns'.length+items2.size=ms'.length+items.size/\R (.ok (.ret (.bool (bY ns' ms')))) ⟨hp,g,d,tk,os⟩) _
  case turn=>
   rintro⟨y,x⟩ rest b s' ⟨hb',rfl,vs,ws,ns',ms',hz,hvi,hwi,hlen,hR⟩
   cases hvi with
   |nil=>rw[List.zip_nil_left]at hz;cases hz
   |cons a t hvi'=>
    cases hwi with
    |nil=>rw[List.zip_nil_right]at hz;cases hz
    |cons c u hwi'=>
     rw[IP]at hz
     injection hz with hyx hrest
     injection hyx with hy hx
     subst hy hx
     rw[sZ]at hR
     simp only[Hw]at hlen
     obtain⟨e,he,hiff⟩:=jH A.in1 ⟨hp,g,d,tk,os⟩ a t c u
     refine G2 (he prog w _ _ ?_)
     cases e with
     |true=>
      rw[if_pos (hiff.mp rfl)]at hR
      wp_walk
      exact⟨rfl,rfl,_,_,_,_,hrest,hvi',hwi',by omega,hR⟩
     |false=>
      rw[if_neg (fun q=>absurd (hiff.mpr q) G6)]at hR
      have hri:=y9 A.in1 ⟨hp,g,d,tk,os⟩ a t c u prog w
      wp_walk using hri
      exact⟨_,rfl,by simpa using hR⟩
  case fin=>
   rintro⟨b1,b2⟩ s' ⟨hb',rfl,vs,ws,ns',ms',hz,hvi,hwi,hlen,hR⟩
   simp only at hb'
   subst hb'
   have hv:bY ns' ms'=decide (items.size>items2.size):=by
    cases hvi with
    |nil=>
     cases hwi with
     |nil=>
      simp only[IC]at hlen
      rw[nA]
      exact(decide_eq_false (by omega)).symm
     |cons c u hw=>
      simp only[IC,Hw]at hlen
      rw[mJ]
      exact(decide_eq_false (by omega)).symm
    |cons a t hv=>
     cases hwi with
     |nil=>
      simp only[IC,Hw]at hlen
      rw[mY]
      exact(decide_eq_true (by omega)).symm
     |cons c u hw=>
      rw[IP]at hz
      cases hz
   rw[hv]at hR
   wp_walk
   exact⟨_,rfl,by simpa[J1]using hR⟩
  case h=>
   exact⟨rfl,rfl,items.toList,items2.toList,ns,ms,rfl,hi,hj,by omega,h⟩
end
section
variable{prog:Hi}{w:HL}{A:HM}{E:G0->G3->Prop}{s:G3}
theorem ly{l b:Addr}{items items2:Array G0}{ns ms:List Int}{Q:G0->G3->Prop}(hl:IsTup s.heap l items)(hb:IsTup s.heap b items2)(hi:IE items.toList ns)(hj:IE items2.toList ms) (hu:A.units<JI) (h:Q (.bool (bY ns ms)) s):Hf (Hm prog w) A (Hn .Gt (.ref l) (.ref b)) Q E s:=by obtain⟨⟨cls,dd,data,sl⟩,ho,hc,n,hd⟩:=id hl;obtain⟨⟨cls2,dd2,data2,sl2⟩,ho2,hc2,n2,hd2⟩:=id hb;simp only at hc hd hc2 hd2;subst hc hd hc2 hd2;exact richCompare_meets_room (op:=.Gt) ⟨_,ho,rfl⟩ ⟨_,ho2,rfl⟩ PySem.F.slot_tuple_gt PySem.F.entry_tuple_gt (PySem.F.args_tuple_gt_2 _ _) (m5 l b items items2 n n2 dd dd2 sl sl2 ns ms hi hj) ⟨ho,ho2,show IM (bY ns ms)≠Value.notImplemented/\Q (.bool (bY ns ms)) s from⟨(fun x=>nomatch x),h⟩⟩ hu
end
end HT
namespace SD
open PySem PySem.Spec PyProof.Rows L2
section
variable{X:Cx}
theorem gg{K:cc}{H:Hp}:∀{ns:List Int} {xs:List V},aK K H (ns.map D.int) xs->xs=ns.map V.int
 |[],xs,h=>by rw[List.map_nil,aK]at h;exact h
 |n::ns,xs,h=>by
  rw[Ho,aK]at h
  obtain⟨x,r,rfl,h1,h2⟩:=h
  rw[Rep]at h1
  rw[h1,gg h2];rfl
theorem Ci(hu:X.A.units<JI):OpR X (Hn .LtE) (fun x y H Q=>∃a b ns ms,x=.ref a/\y=.ref b/\SqT X.K H a (ns.map V.int)/\SqT X.K H b (ms.map V.int)/\Q (.bl (HT.lexLe ns ms)) H):=by intro pins s σ H x y v u Q I rx ry h;obtain⟨a,b,ns,ms,rfl,rfl,ha,hb,q⟩:=h;cases rx;cases ry;obtain⟨its,r1,p1,_⟩:=I.tuple ha;obtain⟨its2,r2,p2,_⟩:=I.tuple hb;exact HT.sG p1 p2 (intsAre_of r1) (intsAre_of r2) hu ⟨.bl (HT.lexLe ns ms),H,I,rfl,q⟩
theorem DN(hu:X.A.units<JI):OpR X (Hn .Gt) (fun x y H Q=>∃a b ns ms,x=.ref a/\y=.ref b/\SqT X.K H a (ns.map V.int)/\SqT X.K H b (ms.map V.int)/\Q (.bl (HT.bY ns ms)) H):=by intro pins s σ H x y v u Q I rx ry h;obtain⟨a,b,ns,ms,rfl,rfl,ha,hb,q⟩:=h;cases rx;cases ry;obtain⟨its,r1,p1,_⟩:=I.tuple ha;obtain⟨its2,r2,p2,_⟩:=I.tuple hb;exact HT.ly p1 p2 (intsAre_of r1) (intsAre_of r2) hu ⟨.bl (HT.bY ns ms),H,I,rfl,q⟩
def oO(f:Int->Int->Bool)(g:List Int->List Int->Bool):R2D:=fun x y M Q=>match x,y with
 |.int i,.int j=>True/\Q (.bl (f i j)) M
 |.tup a,.tup b=>∃ns ms,a=Ir D.int ns/\b=Ir D.int ms/\Q (.bl (g ns ms)) M
 |_,_=>False
theorem u5{op:CmpOp}{f:Int->Int->Bool}{g:List Int->List Int->Bool}(h1:OpD X (Hn op) (rI2 (fun _ _=>True) fun i j=>.bl (f i j))) (h2:OpR X (Hn op) (fun x y H Q=>∃a b ns ms,x=.ref a/\y=.ref b/\SqT X.K H a (ns.map V.int)/\SqT X.K H b (ms.map V.int)/\Q (.bl (g ns ms)) H)):OpD X (Hn op) (oO f g):=by
 refine eF (h1.or h2) fun v u H Q zz1_0=>?_;obtain⟨x,y,M,R,r1,r2,a,q,fin⟩:=zz1_0;unfold oO at q;split at q
 ·exact .inl ⟨_,_,M,R,r1,r2,a,q,fin⟩
 ·obtain⟨ns,ms,rfl,rfl,q⟩:=q;rw[Rep]at r1;obtain⟨p,xs,rfl,hx,rx⟩:=r1;obtain⟨p',ys,rfl,hy,ry⟩:∃a xs,u=V.ref a/\SqT X.K H a xs/\aK X.K H (Ir D.int ms) xs:=by rw[Rep]at r2;exact r2
  rw[gg rx]at hx;rw[gg ry]at hy;exact .inr ⟨p,p',ns,ms,rfl,rfl,hx,hy,fin _ _ _ _ .refl (by rw[Rep]) a q⟩
 ·exact q.elim
theorem e7(hu:X.A.units+64<JI):OpD X (Hn .Lt) (oO (fun i j=>decide (i<j)) HT.lexLt):=u5 ET (CB (by omega))
theorem jP(hu:X.A.units+64<JI):OpD X (Hn .LtE) (oO (fun i j=>decide (i<=j)) HT.lexLe):=u5 EN (Ci (by omega))
theorem fU(hu:X.A.units+64<JI):OpD X (Hn .Gt) (oO (fun i j=>decide (j<i)) HT.bY):=u5 EA (DN (by omega))
theorem v9(hc:X.calm=true)(hu:X.A.units+64<JI):b8 X (.builtin "max") (fun xs H Q=>∃p q ns ms,xs=[.ref p,.ref q]/\SqT X.K H p (ns.map V.int)/\SqT X.K H q (ms.map V.int)/\Q (if HT.bY ms ns=true then .ref q else .ref p) H):=by
 intro pins s σ H xs us Q I r z0;obtain⟨p,q,ns,ms,e,hp,hq,k⟩:=z0;subst e;obtain⟨u,v,rfl,ru,rv⟩:=vals2 r;cases ru;cases rv;obtain⟨its,r1,p1,_⟩:=I.tuple hp;obtain⟨its2,r2,p2,_⟩:=I.tuple hq;refine max_two (c:=HT.bY ms ns) (I.ok.hd hc) (fun t Q' E' kt q'=>?_) fun h' tk kt=>⟨_,H,I.kept kt,?_,k⟩
 ·obtain⟨o1,a1,b1⟩:=p1;obtain⟨o2,a2,b2⟩:=p2;exact HT.ly (A:=X.A.in1) (s:=t) ⟨o2,kt _ _ a2,b2⟩ ⟨o1,kt _ _ a1,b1⟩ (intsAre_of r2) (intsAre_of r1) (by show X.A.units+1<JI;omega) q'
 ·cases HT.bY ms ns<;>rfl
theorem vW(hc:X.calm=true)(hu:X.A.units+64<JI):b8 X (.builtin "min") (fun xs H Q=>∃p q ns ms,xs=[.ref p,.ref q]/\SqT X.K H p (ns.map V.int)/\SqT X.K H q (ms.map V.int)/\Q (if HT.lexLt ms ns=true then .ref q else .ref p) H):=by
 intro pins s σ H xs us Q I r z0;obtain⟨p,q,ns,ms,e,hp,hq,k⟩:=z0;subst e;obtain⟨u,v,rfl,ru,rv⟩:=vals2 r;cases ru;cases rv;obtain⟨its,r1,p1,_⟩:=I.tuple hp;obtain⟨its2,r2,p2,_⟩:=I.tuple hq;refine min_two (c:=HT.lexLt ms ns) (I.ok.hd hc) (fun t Q' E' kt q'=>?_) fun h' tk kt=>⟨_,H,I.kept kt,?_,k⟩
 ·obtain⟨o1,a1,b1⟩:=p1;obtain⟨o2,a2,b2⟩:=p2;exact HT.l4 (A:=X.A.in1) (s:=t) ⟨o2,kt _ _ a2,b2⟩ ⟨o1,kt _ _ a1,b1⟩ (intsAre_of r2) (intsAre_of r1) (by show X.A.units+1<JI;omega) q'
 ·cases HT.lexLt ms ns<;>rfl
def BZ:RC:=fun ds M Q=>match ds with
 |[.int i,.int j]=>Q (.int (max i j)) M
 |[.tup a,.tup b]=>∃ns ms,a=Ir D.int ns/\b=Ir D.int ms/\Q (.tup (Ir D.int (if HT.bY ms ns=true then ms else ns))) M
 |_=>False
def BX:RC:=fun ds M Q=>match ds with
 |[.int i,.int j]=>Q (.int (min i j)) M
 |[.tup a,.tup b]=>∃ns ms,a=Ir D.int ns/\b=Ir D.int ms/\Q (.tup (Ir D.int (if HT.lexLt ms ns=true then ms else ns))) M
 |_=>False
theorem uz(hc:X.calm=true)(hu:X.A.units+64<JI):cX X (.builtin "max") BZ:=bT (b8.or (C0 hc) (v9 hc hu)) fun vs H Q z9=>by
 obtain⟨ds,M,R,rs,a,q,fin⟩:=z9;unfold BZ at q;split at q
 ·exact .inl ⟨_,M,R,rs,a,q,fin⟩
 ·obtain⟨ns,ms,rfl,rfl,q⟩:=q;obtain⟨v,u,rfl,r1,r2⟩:=lV rs;rw[Rep]at r1;obtain⟨p,xs,rfl,hx,rx⟩:=r1;obtain⟨p',ys,rfl,hy,ry⟩:∃a xs,u=V.ref a/\SqT X.K H a xs/\aK X.K H (Ir D.int ms) xs:=by rw[Rep]at r2;exact r2
  have hx':=hx;have hy':=hy;rw[gg rx]at hx';rw[gg ry]at hy';refine .inr ⟨p,p',ns,ms,rfl,hx',hy',fin _ _ _ _ .refl ?_ a q⟩;by_cases z:HT.bY ms ns=true
  ·rw[if_pos z,if_pos z,Rep];exact⟨_,_,rfl,hy,ry⟩
  ·rw[if_neg z,if_neg z,Rep];exact⟨_,_,rfl,hx,rx⟩
 ·exact q.elim
theorem uL(hc:X.calm=true)(hu:X.A.units+64<JI):cX X (.builtin "min") BX:=bT (b8.or (C2 hc) (vW hc hu)) fun vs H Q z9=>by
 obtain⟨ds,M,R,rs,a,q,fin⟩:=z9;unfold BX at q;split at q
 ·exact .inl ⟨_,M,R,rs,a,q,fin⟩
 ·obtain⟨ns,ms,rfl,rfl,q⟩:=q;obtain⟨v,u,rfl,r1,r2⟩:=lV rs;rw[Rep]at r1;obtain⟨p,xs,rfl,hx,rx⟩:=r1;obtain⟨p',ys,rfl,hy,ry⟩:∃a xs,u=V.ref a/\SqT X.K H a xs/\aK X.K H (Ir D.int ms) xs:=by rw[Rep]at r2;exact r2
  have hx':=hx;have hy':=hy;rw[gg rx]at hx';rw[gg ry]at hy';refine .inr ⟨p,p',ns,ms,rfl,hx',hy',fin _ _ _ _ .refl ?_ a q⟩;by_cases z:HT.lexLt ms ns=true
  ·rw[if_pos z,if_pos z,Rep];exact⟨_,_,rfl,hy,ry⟩
  ·rw[if_neg z,if_neg z,Rep];exact⟨_,_,rfl,hx,rx⟩
 ·exact q.elim
end
end SD
namespace Ma
open SD
theorem AY{p z:Int}(h:0<p):0<p*z↔0<z:=by
 constructor
 ·intro q;by_cases hz:0<z
  ·exact hz
  ·have:p*z<=0:=Int.mul_nonpos_of_nonneg_of_nonpos (by omega) (by omega);omega
 ·exact fun q=>II h q
theorem vZ{a b c d:Int}(hb:0<b)(hd:0<d):Rat.divInt a b<Rat.divInt c d↔a*d<c*b:=by
 have e:=Rat.divInt_sub_divInt c a (d₁:=d) (d₂:=b) (by omega) (by omega);have h1:Rat.divInt a b<Rat.divInt c d↔0<Rat.divInt c d-Rat.divInt a b:=by constructor<;>intro z<;>grind
 rw[h1,e,lI (II hd hb)];omega
def ut(t b X m x:Int):Rat:=Rat.divInt (x*t+X*m) (b*m)
theorem oy{t b X m n x y:Int}(ht:0<t)(hb:0<b)(hm:0<m)(hn:0<n):ut t b X m x<ut t b X n y↔n*x<m*y:=by
 unfold ut;rw[vZ (II hb hm) (II hb hn)];have e:(y*t+X*n)*(b*m)-(x*t+X*m)*(b*n)=(b*t)*(m*y-n*x):=by grind
 have:=AY (z:=m*y-n*x) (II hb ht);omega
theorem yS{t b X m n x y:Int}(ht:0<t)(hb:0<b)(hm:0<m)(hn:0<n):ut t b X m x=ut t b X n y↔n*x=m*y:=by
 have h1:=oy (X:=X) (x:=x) (y:=y) ht hb hm hn;have h2:=oy (X:=X) (x:=y) (y:=x) ht hb hn hm;constructor
 ·intro e;have a:¬ut t b X m x<ut t b X n y:=by rw[e];exact Rat.lt_irrefl
  have c:¬ut t b X n y<ut t b X m x:=by rw[e];exact Rat.lt_irrefl
  rw[h1]at a;rw[h2]at c;omega
 ·intro e;have a:¬ut t b X m x<ut t b X n y:=by rw[h1];omega
  have c:¬ut t b X n y<ut t b X m x:=by rw[h2];omega
  grind
theorem pQ{t b X x:Int}:Rat.divInt (x*t+X) b=ut t b X 1 x:=by unfold ut;rw[Int.mul_one,Int.mul_one]
theorem Eh{t b X Y m n x y u v:Int}(ht:0<t)(hb:0<b)(hm:0<m)(hn:0<n) : ah (ut t b X m x) (ut t b Y m y) (ut t b X n u) (ut t b Y n v)↔HT.lexLt [n*x,n*y] [m*u,m*v]=true:=by
 unfold ah;rw[oy ht hb hm hn,yS ht hb hm hn,oy ht hb hm hn];simp only[HT.lexLt];by_cases h:n*x=m*u
 ·rw[if_pos h];by_cases h2:n*y=m*v
  ·rw[if_pos h2];simp;omega
  ·rw[if_neg h2];simp;omega
 ·rw[if_neg h];simp;omega
theorem d3(a b c d:Int):HT.lexLe [a,b] [c,d]=!HT.lexLt [c,d] [a,b]:=by
 simp only[HT.lexLe,HT.lexLt];by_cases h:a=c
 ·subst h;rw[if_pos rfl,if_pos rfl];by_cases h2:b=d
  ·subst h2;rw[if_pos rfl,if_pos rfl];rfl
  ·rw[if_neg h2,if_neg (fun e=>h2 e.symm)];rw[<-decide_not,decide_eq_decide];omega
 ·rw[if_neg h,if_neg (fun e=>h e.symm),<-decide_not,decide_eq_decide];omega
theorem d5(a b c d:Int):HT.bY [a,b] [c,d]=HT.lexLt [c,d] [a,b]:=by
 simp only[HT.bY,HT.lexLt];by_cases h:a=c
 ·subst h;rw[if_pos rfl,if_pos rfl];by_cases h2:b=d
  ·subst h2;simp
  ·rw[if_neg h2,if_neg (fun e=>h2 e.symm)]
 ·rw[if_neg h,if_neg (fun e=>h e.symm)]
theorem a6{a b c d:Int}:HT.lexLt [a,b] [c,d]=true↔a<c\/(a=c/\b<d):=by
 simp only[HT.lexLt];by_cases h:a=c
 ·subst h;rw[if_pos rfl];by_cases h2:b=d
  ·subst h2;rw[if_pos rfl];simp
  ·rw[if_neg h2];simp
 ·rw[if_neg h];simp;omega
end Ma
namespace SD
open PySem PySem.Spec PyProof.Rows L2
theorem aC{M:MH}{a p:PySem.Addr}{o:MO}(h:M a=some o)(hp:M p=none):a≠p:=fun e=>by subst e;rw[h]at hp;cases hp
def scl(t b x y:Int):D:=.tup [.int t,.int b,.int x,.int y]
structure Scl(t b x y:Int):Prop where
 t0:0<t
 t1:t<=10^9
 b0:0<b
 b1:b<=10^9
 x0:-(10^17)<=x
 x1:x<=10^17
 y0:-(10^17)<=y
 y1:y<=10^17
def uw(w:Int×Int×Int×Int):D:=.tup [.tup [.int w.1,.int w.2.1],.tup [.int w.2.2.1,.int w.2.2.2]]
def rwl(t b x y:Int)(w:Int×Int×Int×Int):D:=Ma.wll (Ma.ut t b x 1 w.1) (Ma.ut t b y 1 w.2.1) (Ma.ut t b x 1 w.2.2.1) (Ma.ut t b y 1 w.2.2.2)
def Uok(n:Int)(w:Int×Int×Int×Int):Prop:=(-n<=w.1/\w.1<=n)/\(-n<=w.2.1/\w.2.1<=n)/\(-n<=w.2.2.1/\w.2.2.1<=n)/\(-n<=w.2.2.2/\w.2.2.2<=n)
theorem range_getD(l:List D):(HF l.length).map (fun i=>(l[i]?).getD .non)=l:=by refine List.ext_getElem (by simp) fun i h1 h2=>?_;simp[h2]
theorem getD_map{α:Type}{f:α->D}{l:List α}{i:Nat}{a:α}(h:l[i]?=some a):((l.map f)[i]?).getD .non=f a:=by rw[G9,h];rfl
theorem hZ(a b c d:Int):Hz (.tuple [.int a,.int b]) (.tuple [.int c,.int d])=decide (a=c/\b=d):=by simp only[Hz,Hq,kX,Bool.and_true,Bool.decide_and]
section
variable{X:Cx}
end
open PySem PySem.Spec PyProof.Rows L2 Ma
instance(a b c d:Rat):Decidable (Ma.ah a b c d):=inferInstanceAs (Decidable (_\/_))
def zL(a b c d e f g h:Rat):D:=
 let s:=if Ma.ah e f a b then(a,b)else(e,f)
 let n:=if Ma.ah c d g h then(c,d)else(g,h)
 if Ma.ah s.1 s.2 n.1 n.2 then .tup [.str "stretch",Ma.wll s.1 s.2 n.1 n.2]else if Ma.ah n.1 n.2 s.1 s.2 then .non else .tup [.str "spot",Ma.spt s.1 s.2]
def btw(x y s:Rat):Rat:=x+s*(y-x)
def mD(a b c d e f g h:Rat):D:=
 if Ma.sgn (Ma.cr a b c d e f)=0/\Ma.sgn (Ma.cr a b c d g h)=0 then zL a b c d e f g h
 else if 0<Ma.sgn (Ma.cr a b c d e f)*Ma.sgn (Ma.cr a b c d g h)\/0<Ma.sgn (Ma.cr e f g h a b)*Ma.sgn (Ma.cr e f g h c d)then .non
 else .tup [.str "spot",Ma.spt (btw e g (Ma.cr a b c d e f/(Ma.cr a b c d e f-Ma.cr a b c d g h))) (btw f h (Ma.cr a b c d e f/(Ma.cr a b c d e f-Ma.cr a b c d g h)))]
def crs(a b c d:Int):Int:=a*d-b*c
def dE(p q e f:Int):Int×Int:=if HT.bY [e,f] [p,q]=true then(e,f)else(p,q)
def fQ(r s g h:Int):Int×Int:=if HT.lexLt [g,h] [r,s]=true then(g,h)else(r,s)
def xv(p q r s e f g h:Int):D:=
 let w:=crs (r-p) (s-q) (g-e) (h-f)
 if w=0 then
  if crs (r-p) (s-q) (e-p) (f-q)≠0\/HT.bY [(dE p q e f).1,(dE p q e f).2] [(fQ r s g h).1,(fQ r s g h).2]=true then .non
  else if(dE p q e f).1=(fQ r s g h).1/\(dE p q e f).2=(fQ r s g h).2 then .tup [.int (dE p q e f).1,.int (dE p q e f).2,.int 1]
  else .tup [.tup [.int (dE p q e f).1,.int (dE p q e f).2],.tup [.int (fQ r s g h).1,.int (fQ r s g h).2]]
 else
  let k:=if w<0 then -crs (e-p) (f-q) (g-e) (h-f)else crs (e-p) (f-q) (g-e) (h-f)
  let m:=if w<0 then -crs (e-p) (f-q) (r-p) (s-q)else crs (e-p) (f-q) (r-p) (s-q)
  if min k m<0\/(w.natAbs:Int)<max k m then .non else .tup [.int (p*(w.natAbs:Int)+k*(r-p)),.int (q*(w.natAbs:Int)+k*(s-q)),.int (w.natAbs:Int)]
def EY(t b X Y:Int):D->D
 |.tup [.int x,.int y,.int m]=>.tup [.str "spot",Ma.spt (Ma.ut t b X m x) (Ma.ut t b Y m y)]
 |.tup [.tup [.int x,.int y],.tup [.int u,.int v]]=>.tup [.str "stretch",Ma.wll (Ma.ut t b X 1 x) (Ma.ut t b Y 1 y) (Ma.ut t b X 1 u) (Ma.ut t b Y 1 v)]
 |_=>.non
theorem yI{t b X m x:Int}(hb:0<b)(hm:0<m):Ma.ut t b X m x=((t:Rat)/b)*((x:Rat)/m)+(X:Rat)/b:=by
 unfold Ma.ut;rw[Rat.divInt_eq_div];have h1:(b:Rat)≠0:=by have:=Ma.pos_int hb;grind
 have h2:(m:Rat)≠0:=by have:=Ma.pos_int hm;grind
 rw[Rat.intCast_add,Jl,Jl,Jl];grind
theorem eO{t b X x:Int}(hb:0<b):Ma.ut t b X 1 x=((t:Rat)/b)*(x:Rat)+(X:Rat)/b:=by rw[yI hb (by decide)];have:((1:Int):Rat)=1:=rfl;rw[this];grind
theorem CG(k x y p q r s e f:Rat):Ma.cr (k*p+x) (k*q+y) (k*r+x) (k*s+y) (k*e+x) (k*f+y)=k*k*((r-p)*(f-q)-(s-q)*(e-p)):=by unfold Ma.cr;grind
theorem qT{t b X Y p q r s e f:Int}(hb:0<b):Ma.cr (Ma.ut t b X 1 p) (Ma.ut t b Y 1 q) (Ma.ut t b X 1 r) (Ma.ut t b Y 1 s) (Ma.ut t b X 1 e) (Ma.ut t b Y 1 f)=((t:Rat)/b)*((t:Rat)/b)*((crs (r-p) (s-q) (e-p) (f-q):Int):Rat):=by rw[eO hb,eO hb,eO hb,eO hb,eO hb,eO hb,CG];unfold crs;rw[JF,Jl,Jl,JF,JF,JF,JF]
theorem sgn_mul{k:Rat}(hk:0<k)(z:Int):Ma.sgn (k*(z:Rat))=HC z:=by
 unfold Ma.sgn;by_cases h1:0<z
 ·rw[if_pos (Rat.mul_pos hk (Ma.pos_int h1)),HI h1]
 ·by_cases h2:z<0
  ·have h3:0<k*((-z:Int):Rat):=Rat.mul_pos hk (Ma.pos_int (by omega));rw[Rat.intCast_neg]at h3;rw[if_neg (by grind),if_pos (by grind),Ht h2]
  ·obtain rfl:z=0:=by omega
   have:((0:Int):Rat)=0:=rfl;rw[this];simp
theorem gG{x y:Int}:0<HC x*HC y↔(0<x/\0<y)\/(x<0/\y<0):=by
 rcases Ij x 0 with h|h|h<;>rcases Ij y 0 with h'|h'|h'
 ·rw[Ht h,Ht h'];omega
 ·subst h';simp
 ·rw[Ht h,HI h'];omega
 ·subst h;simp
 ·subst h;simp
 ·subst h;simp
 ·rw[HI h,Ht h'];omega
 ·subst h';simp
 ·rw[HI h,HI h'];omega
theorem nP{t b X Y p q e f:Int}(ht:0<t)(hb:0<b):Ma.ah (Ma.ut t b X 1 p) (Ma.ut t b Y 1 q) (Ma.ut t b X 1 e) (Ma.ut t b Y 1 f)↔(p<e\/(p=e/\q<f)):=by rw[Ma.Eh ht hb (by decide) (by decide),Ma.a6];omega
theorem u6(p q r s e f g h:Int):crs (r-p) (s-q) (g-p) (h-q)=crs (r-p) (s-q) (e-p) (f-q)+crs (r-p) (s-q) (g-e) (h-f):=by unfold crs;grind
theorem uO(p q e f g h:Int):crs (g-e) (h-f) (p-e) (q-f)=crs (e-p) (f-q) (g-e) (h-f):=by unfold crs;grind
theorem uj(p q r s e f g h:Int):crs (g-e) (h-f) (r-e) (s-f)=crs (e-p) (f-q) (g-e) (h-f)-crs (r-p) (s-q) (g-e) (h-f):=by unfold crs;grind
theorem ve(p q r s e f:Int):crs (e-p) (f-q) (r-p) (s-q)=-crs (r-p) (s-q) (e-p) (f-q):=by unfold crs;grind
theorem BR(p q r s e f g h:Int):crs (r-p) (s-q) (g-e) (h-f)*(e-p)=crs (e-p) (f-q) (g-e) (h-f)*(r-p)+crs (r-p) (s-q) (e-p) (f-q)*(g-e):=by unfold crs;grind
theorem BG(p q r s e f g h:Int):crs (r-p) (s-q) (g-e) (h-f)*(f-q)=crs (e-p) (f-q) (g-e) (h-f)*(s-q)+crs (r-p) (s-q) (e-p) (f-q)*(h-f):=by unfold crs;grind
theorem C6{k c W G H e g p r:Rat}(hk:k≠0)(hW:W≠0)(id:W*(e-p)=H*(r-p)+G*(g-e)) :
 btw (k*e+c) (k*g+c) (k*k*G/(k*k*G-k*k*(G+W)))=k*(p+H*(r-p)/W)+c:=by
 unfold btw
 have e1:k*k*G-k*k*(G+W)=-(k*k*W):=by grind
 rw[e1]
 grind
theorem zq{t b X Y p q r s e f g h:Int}(ht:0<t)(hb:0<b) :
 mD (Ma.ut t b X 1 p) (Ma.ut t b Y 1 q) (Ma.ut t b X 1 r) (Ma.ut t b Y 1 s) (Ma.ut t b X 1 e) (Ma.ut t b Y 1 f) (Ma.ut t b X 1 g) (Ma.ut t b Y 1 h)=EY t b X Y (xv p q r s e f g h):=by
 have htb:0<(t:Rat)/b:=by
  have h1:=Ma.pos_int ht
  have h2:=Ma.pos_int hb
  rw[Rat.div_def]
  exact Rat.mul_pos h1 (Rat.inv_pos.mpr h2)
 have hk:=Rat.mul_pos htb htb
 unfold mD xv
 rw[qT hb,qT hb,qT hb,qT hb,sgn_mul hk,sgn_mul hk,sgn_mul hk,sgn_mul hk,u6 p q r s e f g h,uO p q e f g h,uj p q r s e f g h,ve p q r s e f]
 have ix:=BR p q r s e f g h
 have iy:=BG p q r s e f g h
 generalize crs (r-p) (s-q) (g-e) (h-f)=W at ix iy
 generalize crs (r-p) (s-q) (e-p) (f-q)=G at ix iy
 generalize crs (e-p) (f-q) (g-e) (h-f)=H at ix iy
 dsimp only
 by_cases hW:W=0
 ·subst hW
  rw[if_pos rfl]
  by_cases hG:G=0
  ·subst hG
   rw[if_pos (by simp)]
   unfold zL
   have hs:(if Ma.ah (Ma.ut t b X 1 e) (Ma.ut t b Y 1 f) (Ma.ut t b X 1 p) (Ma.ut t b Y 1 q)then(Ma.ut t b X 1 p,Ma.ut t b Y 1 q)else(Ma.ut t b X 1 e,Ma.ut t b Y 1 f))=(Ma.ut t b X 1 (dE p q e f).1,Ma.ut t b Y 1 (dE p q e f).2):=by
    unfold dE
    rw[Ma.d5]
    by_cases z:HT.lexLt [p,q] [e,f]=true
    ·rw[if_pos z,if_neg]
     rw[nP ht hb]
     rw[Ma.a6]at z
     omega
    ·rw[if_neg z]
     rw[Ma.a6]at z
     by_cases y:Ma.ah (Ma.ut t b X 1 e) (Ma.ut t b Y 1 f) (Ma.ut t b X 1 p) (Ma.ut t b Y 1 q)
     ·rw[if_pos y]
     ·rw[if_neg y]
      rw[nP ht hb]at y
      obtain⟨rfl,rfl⟩:e=p/\f=q:=by omega
      rfl
   have hn:(if Ma.ah (Ma.ut t b X 1 r) (Ma.ut t b Y 1 s) (Ma.ut t b X 1 g) (Ma.ut t b Y 1 h)then(Ma.ut t b X 1 r,Ma.ut t b Y 1 s)else(Ma.ut t b X 1 g,Ma.ut t b Y 1 h))=(Ma.ut t b X 1 (fQ r s g h).1,Ma.ut t b Y 1 (fQ r s g h).2):=by
    unfold fQ
    by_cases z:HT.lexLt [g,h] [r,s]=true
    ·rw[if_pos z,if_neg]
     rw[nP ht hb]
     rw[Ma.a6]at z
     omega
    ·rw[if_neg z]
     rw[Ma.a6]at z
     by_cases y:Ma.ah (Ma.ut t b X 1 r) (Ma.ut t b Y 1 s) (Ma.ut t b X 1 g) (Ma.ut t b Y 1 h)
     ·rw[if_pos y]
     ·rw[if_neg y]
      rw[nP ht hb]at y
      obtain⟨rfl,rfl⟩:g=r/\h=s:=by omega
      rfl
   rw[hs,hn]
   dsimp only
   generalize (dE p q e f).1=x1
   generalize (dE p q e f).2=y1
   generalize (fQ r s g h).1=x2
   generalize (fQ r s g h).2=y2
   rw[Ma.d5]
   have a1:=nP (X:=X) (Y:=Y) (p:=x1) (q:=y1) (e:=x2) (f:=y2) ht hb
   have a2:=nP (X:=X) (Y:=Y) (p:=x2) (q:=y2) (e:=x1) (f:=y1) ht hb
   have l1:=Ma.a6 (a:=x2) (b:=y2) (c:=x1) (d:=y1)
   by_cases z1:Ma.ah (Ma.ut t b X 1 x1) (Ma.ut t b Y 1 y1) (Ma.ut t b X 1 x2) (Ma.ut t b Y 1 y2)
   ·rw[if_pos z1]
    rw[a1]at z1
    rw[if_neg (by rw[l1];omega),if_neg (by omega)]
    rfl
   ·rw[if_neg z1]
    rw[a1]at z1
    by_cases z2:Ma.ah (Ma.ut t b X 1 x2) (Ma.ut t b Y 1 y2) (Ma.ut t b X 1 x1) (Ma.ut t b Y 1 y1)
    ·rw[if_pos z2]
     rw[a2]at z2
     rw[if_pos (by rw[l1];omega)]
     rfl
    ·rw[if_neg z2]
     rw[a2]at z2
     rw[if_neg (by rw[l1];omega),if_pos (by omega)]
     rfl
  ·rw[if_neg (by simp only[Int.sign_eq_zero_iff_zero];omega),if_pos (.inl (by rw[gG];omega)),if_pos (.inl hG)]
   rfl
 ·rw[if_neg (by simp only[Int.sign_eq_zero_iff_zero];omega),if_neg hW]
  by_cases hc:0<HC G*HC (G+W)\/0<HC H*HC (H-W)
  ·rw[if_pos hc]
   rw[gG,gG]at hc
   rw[if_pos]
   ·rfl
   ·by_cases hn:W<0
    ·rw[if_pos hn,if_pos hn];omega
    ·rw[if_neg hn,if_neg hn];omega
  ·rw[if_neg hc]
   rw[gG,gG]at hc
   rw[if_neg]
   ·show D.tup _=D.tup _
    have hWa:0<(W.natAbs:Int):=by omega
    have hWr:(W:Rat)≠0:=fun z=>hW (by have:=Rat.intCast_inj (a:=W) (b:=0);exact this.mp z)
    have hN:((W.natAbs:Int):Rat)≠0:=fun z=>by have:=(Rat.intCast_inj (a:=(W.natAbs:Int)) (b:=0)).mp z;omega
    have co:∀(Z a g' e' r':Int),W*(e'-a)=H*(r'-a)+G*(g'-e')->
     btw (Ma.ut t b Z 1 e') (Ma.ut t b Z 1 g') ((t:Rat)/b*((t:Rat)/b)*(G:Rat)/((t:Rat)/b*((t:Rat)/b)*(G:Rat)-(t:Rat)/b*((t:Rat)/b)*((G+W:Int):Rat))) =
      Ma.ut t b Z (W.natAbs:Int) (a*(W.natAbs:Int)+(if W<0 then -H else H)*(r'-a)):=fun Z a g' e' r' id=>by
     have idq:(W:Rat)*((e':Rat)-a)=H*((r':Rat)-a)+G*((g':Rat)-e'):=by
      have:=congrArg (fun z:Int=>(z:Rat)) id
      simpa[Rat.intCast_add,Jl,JF]using this
     rw[eO hb,eO hb,yI hb hWa,Rat.intCast_add,C6 (by grind) hWr idq,Rat.intCast_add,Jl,Jl,JF]
     have hq:(((if W<0 then -H else H:Int):Rat))/((W.natAbs:Int):Rat)=(H:Rat)/(W:Rat):=by
      by_cases hn:W<0
      ·rw[if_pos hn,show(W.natAbs:Int)=-W from by omega,Rat.intCast_neg,Rat.intCast_neg]
       grind
      ·rw[if_neg hn,show(W.natAbs:Int)=W from by omega]
     generalize (((if W<0 then -H else H:Int):Rat))=K at hq
     generalize ((W.natAbs:Int):Rat)=N at hq hN
     grind
    rw[co X p g e r ix,co Y q h f s iy]
   ·by_cases hn:W<0
    ·rw[if_pos hn,if_pos hn];omega
    ·rw[if_neg hn,if_neg hn];omega
theorem kW(x:Str):Hz (.str x) (.str x)=true:=by simp[Hz]
theorem qm:J6 (G1 "spot")=true:=by decide +kernel
theorem tq:J6 (G1 "stretch")=true:=by decide +kernel
theorem Scl.b60{t b x y p:Int}(S:Scl t b x y)(hp:Bd 6 p):Ma.Bq 60 (Ma.ut t b x 1 p)/\Ma.Bq 60 (Ma.ut t b y 1 p):=by
 have bt:Bd 30 t:=by have:=S.t0;have:=S.t1;show t.natAbs<2^30;omega
 have bb:Bd 30 b:=by have:=S.b0;have:=S.b1;show b.natAbs<2^30;omega
 have bx:Bd 58 x:=by have:=S.x0;have:=S.x1;show x.natAbs<2^58;omega
 have by':Bd 58 y:=by have:=S.y0;have:=S.y1;show y.natAbs<2^58;omega
 have hb0:b≠0:=by have:=S.b0;omega
 rw[<-Ma.pQ,<-Ma.pQ];exact⟨.divInt hb0 ((((hp.mul bt).mono (by decide)).add bx).mono (by decide)) (bb.mono (by decide)),.divInt hb0 ((((hp.mul bt).mono (by decide)).add by').mono (by decide)) (bb.mono (by decide))⟩
theorem oj(z:Rat):Ma.sgn z=1\/Ma.sgn z=-1\/Ma.sgn z=0:=by
 unfold Ma.sgn;split
 ·exact .inl rfl
 ·split
  ·exact .inr (.inl rfl)
  ·exact .inr (.inr rfl)
theorem sP(z:Rat):Bd 64 (Ma.sgn z):=by rcases oj z with h|h|h<;>rw[h]<;>decide
end SD
namespace HT
open PySem PyProof.Rows
def eC:List Int->List Int->Bool
 |[],[]=>true
 |[],_::_=>false
 |_::_,[]=>true
 |x::xs,y::ys=>if x=y then eC xs ys else decide (y<=x)
theorem tZ(x y:Int)(xs ys:List Int):eC (x::xs) (y::ys)=if x=y then eC xs ys else decide (y<=x):=rfl
theorem nk:eC [] []=true:=rfl
theorem lY(y:Int)(ys:List Int):eC [] (y::ys)=false:=rfl
theorem mi(x:Int)(xs:List Int):eC (x::xs) []=true:=rfl
theorem yO(A:HM)(s:G3)(a:Int)(t:Tok)(c:Int)(u:Tok)(prog:Hi)(w:HL)(E:G0->G3->Prop)(Q:G0->G3->Prop)(h:Q (.bool (decide (c<=a))) s) : Hf (Hm prog w) A (richCompare .GtE (.int a t) (.int c u)) Q E s:=(PyProof.Rows.ge_int h:Hf (Hm prog w) A (Hn .GtE (.int a t) (.int c u)) Q E s)
section
open PySem.SeqAt
open PySem.AutoSeq1 (wpAny_loadPart')
open PySem.MeetsSeq PySem.MeetsSeq2 PySem.MeetsSeq3
theorem ny(l b:Addr)(items items2:Array G0)(n n2:Nat)(dd dd2:Option Addr)(sl sl2:Array (Option G0))(ns ms:List Int)(hi:IE items.toList ns)(hj:IE items2.toList ms) :
 Meets (Builtin.«tuple.__ge__» ⟨[.ref l,.ref b],[]⟩)
  (fun _ R s=>s.heap.get? l=some { cls:=.type "tuple",dict:=dd,data:=.seq items n,slots:=sl }/\s.heap.get? b=some { cls:=.type "tuple",dict:=dd2,data:=.seq items2 n2,slots:=sl2 }/\
   R (.ok (.ret (.bool (eC ns ms)))) s):=
 .of_wp fun prog w A R s h=>by
  obtain⟨hp,g,d,tk,os⟩:=s;obtain⟨hl,hb,h⟩:=h
  have f2:=AutoSeq1.sub_tuple_tuple
  have z1:items.size=ns.length:=by rw[<-hi.length];simp
  have z2:items2.size=ms.length:=by rw[<-hj.length];simp
  wp_walk using IF hl,IF hb,wpAny_forIn_list _ (fun rest b s'=>b.1=none/\s'=⟨hp,g,d,tk,os⟩/\∃(vs ws:List G0) (ns' ms':List Int),rest=vs.zip ws/\
   IE vs ns'/\IE ws ms'/\ns'.length+items2.size=ms'.length+items.size/\R (.ok (.ret (.bool (eC ns' ms')))) ⟨hp,g,d,tk,os⟩) _
  case turn=>
   rintro⟨y,x⟩ rest b s' ⟨hb',rfl,vs,ws,ns',ms',hz,hvi,hwi,hlen,hR⟩
   cases hvi with
   |nil=>rw[List.zip_nil_left]at hz;cases hz
   |cons a t hvi'=>
    cases hwi with
    |nil=>rw[List.zip_nil_right]at hz;cases hz
    |cons c u hwi'=>
     rw[IP]at hz
     injection hz with hyx hrest
     injection hyx with hy hx
     subst hy hx
     rw[tZ]at hR
     simp only[Hw]at hlen
     obtain⟨e,he,hiff⟩:=jH A.in1 ⟨hp,g,d,tk,os⟩ a t c u
     refine G2 (he prog w _ _ ?_)
     cases e with
     |true=>
      rw[if_pos (hiff.mp rfl)]at hR
      wp_walk
      exact⟨rfl,rfl,_,_,_,_,hrest,hvi',hwi',by omega,hR⟩
     |false=>
      rw[if_neg (fun q=>absurd (hiff.mpr q) G6)]at hR
      have hri:=yO A.in1 ⟨hp,g,d,tk,os⟩ a t c u prog w
      wp_walk using hri
      exact⟨_,rfl,by simpa using hR⟩
  case fin=>
   rintro⟨b1,b2⟩ s' ⟨hb',rfl,vs,ws,ns',ms',hz,hvi,hwi,hlen,hR⟩
   simp only at hb'
   subst hb'
   have hv:eC ns' ms'=decide (items.size≥items2.size):=by
    cases hvi with
    |nil=>
     cases hwi with
     |nil=>
      simp only[IC]at hlen
      rw[nk]
      exact(decide_eq_true (by omega)).symm
     |cons c u hw=>
      simp only[IC,Hw]at hlen
      rw[lY]
      exact(decide_eq_false (by omega)).symm
    |cons a t hv=>
     cases hwi with
     |nil=>
      simp only[IC,Hw]at hlen
      rw[mi]
      exact(decide_eq_true (by omega)).symm
     |cons c u hw=>
      rw[IP]at hz
      cases hz
   rw[hv]at hR
   wp_walk
   exact⟨_,rfl,by simpa[J1]using hR⟩
  case h=>
   exact⟨rfl,rfl,items.toList,items2.toList,ns,ms,rfl,hi,hj,by omega,h⟩
end
section
variable{prog:Hi}{w:HL}{A:HM}{E:G0->G3->Prop}{s:G3}
theorem so{l b:Addr}{items items2:Array G0}{ns ms:List Int}{Q:G0->G3->Prop}(hl:IsTup s.heap l items)(hb:IsTup s.heap b items2)(hi:IE items.toList ns)(hj:IE items2.toList ms) (hu:A.units<JI) (h:Q (.bool (eC ns ms)) s):Hf (Hm prog w) A (Hn .GtE (.ref l) (.ref b)) Q E s:=by obtain⟨⟨cls,dd,data,sl⟩,ho,hc,n,hd⟩:=id hl;obtain⟨⟨cls2,dd2,data2,sl2⟩,ho2,hc2,n2,hd2⟩:=id hb;simp only at hc hd hc2 hd2;subst hc hd hc2 hd2;exact richCompare_meets_room (op:=.GtE) ⟨_,ho,rfl⟩ ⟨_,ho2,rfl⟩ PySem.F.slot_tuple_ge PySem.F.entry_tuple_ge (PySem.F.args_tuple_ge_2 _ _) (ny l b items items2 n n2 dd dd2 sl sl2 ns ms hi hj) ⟨ho,ho2,show IM (eC ns ms)≠Value.notImplemented/\Q (.bool (eC ns ms)) s from⟨(fun x=>nomatch x),h⟩⟩ hu
end
end HT
namespace SD
open PySem PySem.Spec PyProof.Rows L2
section
variable{X:Cx}
theorem DB(hu:X.A.units<JI):OpR X (Hn .GtE) (fun x y H Q=>∃a b ns ms,x=.ref a/\y=.ref b/\SqT X.K H a (ns.map V.int)/\SqT X.K H b (ms.map V.int)/\Q (.bl (HT.eC ns ms)) H):=by intro pins s σ H x y v u Q I rx ry h;obtain⟨a,b,ns,ms,rfl,rfl,ha,hb,q⟩:=h;cases rx;cases ry;obtain⟨its,r1,p1,_⟩:=I.tuple ha;obtain⟨its2,r2,p2,_⟩:=I.tuple hb;exact HT.so p1 p2 (intsAre_of r1) (intsAre_of r2) hu ⟨.bl (HT.eC ns ms),H,I,rfl,q⟩
theorem j9(hu:X.A.units+64<JI):OpD X (Hn .GtE) (oO (fun i j=>decide (j<=i)) HT.eC):=u5 Fc (DB (by omega))
def w8(g:Bool->Bool):R2D:=fun x y M Q=>∃p ps,Pd M x p/\(Pd M y (.list ps)\/Pd M y (.tuple ps))/\Ia p=true/\HH ps=true/\Q (.bl (g (ps.any fun q=>Hz q p))) M
theorem lP{p:JO}{n:Nat}(h:Ia p=true):min n p.depth<=63+1:=He (Nat.min_le_right _ _) (SeqAt.depth_of_shaped h)
theorem uh(hu:X.A.units+66<JI):OpD X (Hn .In) (w8 fun b=>b):=by
 intro pins s σ H v u v' u' Q I rv ru h;obtain⟨x,y,M,R,r1,r2,a,⟨p,ps,p1,p2,s1,s2,hq⟩,fin⟩:=h;obtain⟨as,q1⟩:=cG I a p1 r1 rv;have hm:=lP (n:=HR ps) s1;rcases p2 with p2|p2
 ·obtain⟨bs,q2⟩:=cG I a p2 r2 ru;exact SeqAt.in_list_reads q2 q1 s2 (SeqAt.canLay_of_shaped s1) (by omega) ⟨.bl _,H,I,rfl,fin _ _ _ _ .refl (by rw[Rep]) a hq⟩
 ·obtain⟨bs,q2⟩:=cG I a p2 r2 ru;exact SeqAt.in_tuple_reads q2 q1 s2 (SeqAt.canLay_of_shaped s1) (by omega) ⟨.bl _,H,I,rfl,fin _ _ _ _ .refl (by rw[Rep]) a hq⟩
theorem mG(hu:X.A.units+66<JI):OpD X (Hn .NotIn) (w8 fun b=>!b):=by
 intro pins s σ H v u v' u' Q I rv ru h;obtain⟨x,y,M,R,r1,r2,a,⟨p,ps,p1,p2,s1,s2,hq⟩,fin⟩:=h;obtain⟨as,q1⟩:=cG I a p1 r1 rv;have hm:=lP (n:=HR ps) s1;rcases p2 with p2|p2
 ·obtain⟨bs,q2⟩:=cG I a p2 r2 ru;exact SeqAt.notIn_list_reads q2 q1 s2 (SeqAt.canLay_of_shaped s1) (by omega) ⟨.bl _,H,I,rfl,fin _ _ _ _ .refl (by rw[Rep]) a hq⟩
 ·obtain⟨bs,q2⟩:=cG I a p2 r2 ru;exact SeqAt.notIn_tuple_reads q2 q1 s2 (SeqAt.canLay_of_shaped s1) (by omega) ⟨.bl _,H,I,rfl,fin _ _ _ _ .refl (by rw[Rep]) a hq⟩
theorem mW{K:cc}{H:Hp}:∀{bs:List Bool} {xs:List V},aK K H (bs.map D.bl) xs->xs=bs.map V.bl
 |[],xs,h=>by rw[List.map_nil,aK]at h;exact h
 |n::ns,xs,h=>by
  rw[Ho,aK]at h
  obtain⟨x,r,rfl,h1,h2⟩:=h
  rw[Rep]at h1
  rw[h1,mW h2];rfl
theorem fN:∀{bs:List Bool} {us:List G0},Vals (bs.map V.bl) us->us=bs.map IM
 |[],_,.nil=>rfl
 |b::bs,_,.cons r t=>by
  cases (show _=IM b from r)
  rw[fN t];rfl
def EX:RC:=fun ds M Q=>match ds with
 |[.ref l]=>∃bs:List Bool,M l=some (.lst (Ir D.bl bs))/\Q (.bl (bs.all id)) M
 |_=>False
theorem wX(hc:X.calm=true):b8 X (.builtin "all") (fun xs H Q=>∃(p:Addr) (bs:List Bool),xs=[.ref p]/\SqL X.K H p (bs.map V.bl)/\Q (.bl (bs.all id)) H):=by
 intro pins s σ H xs us Q I r z0;obtain⟨l,bs,e,hp,k⟩:=z0;subst e;obtain⟨u,rfl,ru⟩:=vals1 r;cases ru;obtain⟨its,r1,p1,_⟩:=I.list hp;have hv:=fN r1;have hl:=p1.isList;have lt:l≠s.heap.objs.size:=HJ (let⟨_,e,_⟩:=hl;Hb e);refine call_all_walk (x:=.ref l) (wpAny_pyIter_list hl ⟨s.heap.objs.size,[s.heap.objs.size,l],[s.heap.objs.size],its.toArray.size,_,_,fun i=>(bs[i]?).getD true,rfl,Walks.list (A:=X.A.in1) (I.ok.hd hc) _ l lt its.toArray,⟨⟨_,Hk _ rfl,rfl,rfl⟩,hl.push _⟩,fun i v s' Q' E' hP hQ=>?_,fun h' tk hk=>?_⟩)
 ·have hP':its[i]?=some v:=by simpa using hP
  rw[hv,G9]at hP';cases eb:bs[i]? with
  |none=>rw[eb]at hP';cases hP'
  |some b=>
   rw[eb]at hP'
   cases hP'
   have hQ':Q' b s':=by simpa[eb]using hQ
   exact Iv hQ'
 ·rw[show((HF its.toArray.size).all fun i=>(bs[i]?).getD true)=bs.all id by rw[Hg,hv,G4];exact LSm.range_all bs];exact⟨.bl (bs.all id),H,I.kept (LSm.kept_iter hk),rfl,k⟩
theorem xF(hc:X.calm=true):cX X (.builtin "all") EX:=bT (wX hc) fun vs H Q z9=>by
 obtain⟨ds,M,R,rs,a,q,fin⟩:=z9;unfold EX at q;split at q
 ·obtain⟨bs,e,q⟩:=q;obtain⟨v,rfl,r⟩:=b6 rs;rw[Rep]at r;subst r;obtain⟨xs,hx,rx⟩:=a _ _ e;rw[mW rx]at hx;exact⟨_,bs,rfl,SqL.of hx,fin _ _ _ _ .refl (by rw[Rep]) a q⟩
 ·exact q.elim
def EW(to:TD)(t:TAD):TD:=fun δ M Q=>to δ M fun x M1=>∃l ys,x=.ref l/\M1 l=some (.lst ys)/\t δ M1 fun ds M2=>∃xs d,ds=[d]/\M2 l=some (.lst xs)/\xs.length<1000000/\Q .non (av M2 l (.lst (xs++[d])))
variable{o e:Expr}{to:TD}{t:TAD}{apos cpos:Pos}
theorem bw(ho:DE X o to)(ha:DA X [e] t)
 (hbase:J5 o "append" X.env (eval o X.env)=eval o X.env:=by rfl)
 (hfew:((IV cpos (Hc [e] X.env)).all (fun x=>!x.1)&&(backToKw cpos (keywordEach [] X.env)).all (fun x=>x.1.isSome)
  && decide ([e].length+([]:List Keyword).length+(if([]:List Keyword).isEmpty then 0 else 1)<30))=true:=by rfl)
 (hline:(apos.endLine==cpos.line)=true:=by rfl) (hs:Hc [e] X.env=(false,eval e X.env)::Hc [] X.env:=by rfl) (hplain:(IV cpos (Hc [] X.env)).any (·.1)=false:=by rfl) :
 DE X (.Call (.Attribute o "append" apos) [e] [] cpos) (EW to t):=
 bD (oQ PySem.F.plainAttrs_list PySem.F.slot_list_append PySem.F.type_list_append nE ho ha hbase hfew hline hs hplain) fun σ H Q z9=>by
  obtain⟨δ,M,R,hsl,hM,q,fin⟩:=z9
  refine⟨δ,M,_,hsl,hM,q,fun x M1 v H1 g1 r1 a1 zz1_0=>?_⟩
  obtain⟨l,ys,ex,hl,q1⟩:=zz1_0
  subst ex
  rw[Rep]at r1
  subst r1
  obtain⟨vs,hvs,_⟩:=a1 _ _ hl
  refine⟨.inl ⟨rfl,vs,SqL.of hvs⟩,δ,M1,_,hsl.mono g1,a1,q1,fun ds M2 us H2 g2 r2 a2 zz2_0=>?_⟩
  obtain⟨xs,d,ed,hx,hn,q2⟩:=zz2_0
  subst ed
  obtain⟨u,rfl,ru⟩:=b6 r2
  obtain⟨ws,hws,rws⟩:=a2 _ _ hx
  have hlen:=rws.length
  refine⟨l,ws,u,rfl,rfl,hws,G8 (by omega) (show 1000000<=GX from nbL rfl),?_⟩
  exact fin _ _ _ _ (g1.trans (g2.trans (.lst hws))) (by rw[Rep]) (a2.C1 hws (rws.append (.cons ru .nil))) q2
end
theorem qd{k:Nat}{A:HM}(r:Room k A):A.units+66<JI:=by have:=r.un;omega
abbrev Wl:=Int×Int×Int×Int
def la(x y:Int):Int:=100*x+y
def l1(w:Wl):Int:=la w.1 w.2.1
def l2(w:Wl):Int:=la w.2.2.1 w.2.2.2
def sd(w:Wl)(x y:Int):Int:=crs (w.2.2.1-w.1) (w.2.2.2-w.2.1) (x-w.1) (y-w.2.1)
def sd1(w v:Wl):Int:=sd w v.1 v.2.1
def sd2(w v:Wl):Int:=sd w v.2.2.1 v.2.2.2
structure Un5(w:Wl):Prop where
 a:0<=w.1/\w.1<=20
 b:0<=w.2.1/\w.2.1<=20
 c:0<=w.2.2.1/\w.2.2.1<=20
 d:0<=w.2.2.2/\w.2.2.2<=20
 lt:l1 w<l2 w
def cy(w:Wl)(l s:Int):Prop:=l=l1 w\/l=l2 w\/l<l1 w\/l2 w<l\/s≠0
structure Fair(U V:Wl):Prop where
 ne:¬(l1 U=l1 V/\l2 U=l2 V)
 e1:cy U (l1 V) (sd1 U V)
 e2:cy U (l2 V) (sd2 U V)
 e3:cy V (l1 U) (sd1 V U)
 e4:cy V (l2 U) (sd2 V U)
 pr:0<=HC (sd1 U V)*HC (sd2 U V)\/0<=HC (sd1 V U)*HC (sd2 V U)
theorem Fair.swap{U V:Wl}(h:Fair U V):Fair V U:=⟨fun z=>h.ne ⟨z.1.symm,z.2.symm⟩,h.e3,h.e4,h.e1,h.e2,h.pr.symm⟩
theorem yy{z k:Int}(hk:0<k)(h:0<z*k):0<z:=by
 rcases Ij z 0 with q|q|q
 ·have:=Int.mul_neg_of_neg_of_pos q hk;omega
 ·subst q;simp at h
 ·exact q
theorem xh{z k:Int}(hk:0<k)(h:z*k<0):z<0:=by
 rcases Ij z 0 with q|q|q
 ·exact q
 ·subst q;simp at h
 ·have:=II q hk;omega
theorem yb{x y u v:Int}(h1:0<=y/\y<=20)(h2:0<=v/\v<=20)(h:la x y=la u v):x=u/\y=v:=by unfold la at h;omega
section
variable{U V:Wl}(ap:max (l1 U) (l1 V)<min (l2 U) (l2 V))
include ap
end
theorem xk{a b c d:Int}(hb:0<=b/\b<=20)(hd:0<=d/\d<=20):HT.lexLt [a,b] [c,d]=decide (la a b<la c d):=by have h:=Ma.a6 (a:=a) (b:=b) (c:=c) (d:=d);rw[Hy,h,decide_eq_true_eq];unfold la;omega
theorem BU{a b c d:Int}(hb:0<=b/\b<=20)(hd:0<=d/\d<=20):HT.lexLe [a,b] [c,d]=decide (la a b<=la c d):=by rw[Ma.d3,xk hd hb,<-decide_not,decide_eq_decide];omega
theorem FA{a b c d:Int}(hb:0<=b/\b<=20)(hd:0<=d/\d<=20):HT.bY [a,b] [c,d]=decide (la c d<la a b):=by rw[Ma.d5,xk hd hb]
theorem fG{z:Int}(h:0<=z/\z<=20):Bd 6 z:=by show z.natAbs<2^6;omega
theorem xu{x y u v:Int}(h1:0<=y/\y<=20)(h2:0<=v/\v<=20):(x=u/\y=v)↔la x y=la u v:=by unfold la;omega
theorem uP{I:ItD}{tk:Tgt}{js:List Nat}{tc:TTD}{te:TD}{δ:DS}{M1:MH}{Q:DK}(f:Nat->Option D)(hn:I.n<=1000000)(hC:∀p ys,M1 p=none->I.C (av M1 p (.lst ys))) (h:∀i d M,i<I.n->I.item i=some d->Sub M1 M->∃os,An tk d os/\(∀K:Bool->MH->Prop,K (f i).isSome M->tc (cδ os js δ) M K)/\∀e,f i=some e->∀K:DK,(∀M',Sub M M'->K e M')->te (cδ os js δ) M K) (hq:∀p,M1 p=none->Q (.ref p) (av M1 p (.lst ((HF I.n).filterMap f)))):xq I tk js tc te δ M1 Q:=by
 refine⟨hn,fun p hp=>⟨fun i ys M=>ys=(HF i).filterMap f/\M=av M1 p (.lst ys),⟨rfl,rfl⟩,?_,?_,?_⟩⟩
 ·rintro i ys M _ ⟨_,rfl⟩;exact hC p ys hp
 ·rintro i ys d M hi hd ⟨rfl,rfl⟩;obtain⟨os,ow,kt,ke⟩:=h i d _ hi hd (.new hp .refl);refine⟨os,ow,kt _ ?_⟩;cases e:f i with
  |none=>
   refine b7 rfl ⟨_,.refl,?_,?_⟩
   ·rw[List.range_succ,List.filterMap_append];simp[e]
   ·rfl
  |some v=>
   refine bJ rfl (ke v e _ fun M' s'=>⟨_,s',ag,?_,by rw[cS]⟩)
   rw[List.range_succ,List.filterMap_append];simp[e]
 ·rintro ys M ⟨rfl,rfl⟩;exact hq p hp
theorem zA{A:Wl}{x y:Int}(hA:Un5 A)(hy:0<=y/\y<=20)(h:(!(decide (A.1=x/\A.2.1=y)||decide (A.2.2.1=x/\A.2.2.2=y))&&(decide (l1 A<=la x y)&&decide (la x y<=l2 A)&&decide (sd A x y=0)))=false):cy A (la x y) (sd A x y):=by
 unfold cy;by_cases h1:A.1=x/\A.2.1=y
 ·exact .inl ((xu hA.b hy).mp h1).symm
 ·by_cases h2:A.2.2.1=x/\A.2.2.2=y
  ·exact .inr (.inl ((xu hA.d hy).mp h2).symm)
  ·rw[decide_eq_false h1,decide_eq_false h2,Bool.or_false,Bool.not_false,Bool.true_and,<-Bool.decide_and,<-Bool.decide_and,decide_eq_false_iff_not]at h;by_cases h3:sd A x y=0
   ·rcases Int.lt_or_le (la x y) (l1 A)with z|z
    ·exact .inr (.inr (.inl z))
    ·rcases Int.lt_or_le (l2 A) (la x y)with z'|z'
     ·exact .inr (.inr (.inr (.inl z')))
     ·exact absurd ⟨⟨z,z'⟩,h3⟩ h
   ·exact .inr (.inr (.inr (.inr h3)))
theorem Cw(M:MH)(A:Wl)(x y:Int)(g:Bool->Bool)(Q:DK)(q:Q (.bl (g (decide (A.1=x/\A.2.1=y)||decide (A.2.2.1=x/\A.2.2.2=y)))) M):w8 g (.tup [.int x,.int y]) (uw A) M Q:=by refine⟨_,_,Pd.of rfl,.inr (Pd.of rfl),rfl,rfl,?_⟩;rw[J7,J7,List.any_nil,hZ,hZ,Bool.or_false];exact q
theorem BQ(z:Int):Bd 64 (HC z):=by
 rcases Ij z 0 with h|h|h
 ·rw[Ht h];decide
 ·subst h;decide
 ·rw[HI h];decide
def uwP(w:Wl):JO:=.tuple [.tuple [.int w.1,.int w.2.1],.tuple [.int w.2.2.1,.int w.2.2.2]]
theorem yN{M:MH}:∀ws:List Wl,Pds M (ws.map uw) (ws.map uwP)
 |[]=>.nil
 |w::ws=>.cons (Pd.of rfl) (yN ws)
theorem yh:∀ws:List Wl,HH (ws.map uwP)=true
 |[]=>rfl
 |w::ws=>by rw[Ho,HH,yh ws];rfl
theorem yW:∀ws:List Wl,HR (ws.map uwP)<=10
 |[]=>nbL rfl
 |w::ws=>by
  rw[Ho,HR]
  exact Nat.max_le.mpr ⟨nbL rfl,yW ws⟩
theorem wG(ws:List Wl):Ia (.list (ws.map uwP))=true:=by unfold Ia;have h1:=yh ws;have h2:=yW ws;rw[Hl];refine⟨by rw[Iw];exact h1,decide_eq_true ?_⟩;rw[PyData.depth];omega
theorem tD:∀ws:List Wl,Hz (.list (ws.map uwP)) (.list [])=ws.isEmpty
 |[]=>by simp[Hz,Hq]
 |w::ws=>by simp[Hz,Hq]
def PF(ws:List Wl):Prop:=∀(i j:Nat) (U V:Wl),i≠j->ws[i]?=some U->ws[j]?=some V->Fair U V
theorem Co:PF []:=fun i j U V _ h=>by simp at h
theorem wM{ws:List Wl}{U:Wl}(h:PF ws)(hU:∀(j:Nat) (w:Wl),ws[j]?=some w->Fair U w):PF (ws++[U]):=by
 intro i j A B hij hA hB
 have get:∀{k:Nat} {C:Wl},(ws++[U])[k]?=some C->ws[k]?=some C\/(k=ws.length/\C=U):=fun{k C} e=>by
  rcases Nat.lt_trichotomy k ws.length with z|z|z
  ·rw[Ig z]at e;exact .inl e
  ·subst z;rw[HZ (GY _)]at e;simp at e;exact .inr ⟨rfl,e.symm⟩
  ·rw[Ip (by simp;omega)]at e;cases e
 rcases get hA with a|⟨a,rfl⟩<;>rcases get hB with b|⟨b,rfl⟩
 ·exact h i j A B hij a b
 ·exact(hU _ _ a).swap
 ·exact hU _ _ b
 ·omega
theorem yB{w:Wl}(h:Un5 w){v:Int}(h0:0<=v)(h1:v<2):∃x y,atI [D.tup [.int w.1,.int w.2.1],.tup [.int w.2.2.1,.int w.2.2.2]] v=some (.tup [.int x,.int y])/\(0<=x/\x<=20)/\(0<=y/\y<=20):=by
 rcases(show v=0\/v=1 by omega)with rfl|rfl
 ·exact⟨_,_,rfl,h.a,h.b⟩
 ·exact⟨_,_,rfl,h.c,h.d⟩
theorem Bk{ws:List Wl}{v:Int}(h0:0<=v)(h1:v<ws.length):∃w,w∈ws/\atI (ws.map uw) v=some (uw w):=by
 obtain⟨j,rfl⟩:∃j:Nat,v=(j:Int):=⟨v.toNat,by omega⟩;have hj:j<ws.length:=by omega
 exact⟨ws[j],List.getElem_mem hj,eQ (by simp[hj])⟩
theorem wK{p q e f:Int}(hp:0<=p/\p<=20)(hq:0<=q/\q<=20)(he:0<=e/\e<=20)(hf:0<=f/\f<=20)(ne:¬(p=e/\q=f)) :
 ∃w:Wl,(if HT.lexLt [e,f] [p,q]=true then[e,f]else[p,q])=[w.1,w.2.1]/\(if HT.bY [e,f] [p,q]=true then[e,f]else[p,q])=[w.2.2.1,w.2.2.2]/\Un5 w:=by
 rw[xk hf hq,FA hf hq]
 have nl:la p q≠la e f:=fun z=>ne ((xu hq hf).mpr z)
 by_cases h:la e f<la p q
 ·exact⟨(e,f,p,q),by rw[if_pos (decide_eq_true h)],by rw[if_neg (by simp;omega)],⟨he,hf,hp,hq,h⟩⟩
 ·have h':la p q<la e f:=by omega
  exact⟨(p,q,e,f),by rw[if_neg (by simpa using h)],by rw[if_pos (decide_eq_true h')],⟨hp,hq,he,hf,h'⟩⟩
theorem lM{t b X Y:Int}(ht:0<t)(hb:0<b)(w:Wl)(x y:Int):Ma.sgn (Ma.cr (Ma.ut t b X 1 w.1) (Ma.ut t b Y 1 w.2.1) (Ma.ut t b X 1 w.2.2.1) (Ma.ut t b Y 1 w.2.2.2) (Ma.ut t b X 1 x) (Ma.ut t b Y 1 y))=HC (sd w x y):=by
 have k:(0:Rat)<(t:Rat)/b:=by rw[Rat.div_def];exact Rat.mul_pos (Ma.pos_int ht) (Rat.inv_pos.mpr (Ma.pos_int hb))
 rw[qT hb,sgn_mul (Rat.mul_pos k k)];rfl
theorem sW{K:cc}{r r':R2D}{ta tb tc:TD}{σ:L2.St}{H:Hp}{Q:VK}(h:lift K (qk r r' ta tb tc) σ H Q):sj (jT K r) (jT K r') (lift K ta) (lift K tb) (lift K tc) σ H Q:=by
 obtain⟨δ,M,R,hs,hM,q,fin⟩:=h;refine⟨δ,M,_,hs,hM,q,fun x M1 v H1 g1 r1 a1 q1=>⟨δ,M1,_,hs.mono g1,a1,q1,fun y M2 u H2 g2 r2 a2 q2=>⟨x,y,M2,_,r1.mono g2,r2,a2,q2,fun z M3 w H3 g3 r3 a3 zz1_0=>?_⟩⟩⟩;obtain⟨k,e,q3⟩:=zz1_0;subst e;rw[Rep]at r3;refine⟨k,r3,?_⟩;cases k with
 |true=>
  rw[if_pos rfl]at q3 ⊢
  exact⟨δ,M3,_,hs.mono ((g1.trans g2).trans g3),a3,q3,fun u' M4 w' H4 g4 r4 a4 q4=>⟨y,u',M4,R,r2.mono (g3.trans g4),r4,a4,q4,fin.go (((g1.trans g2).trans g3).trans g4)⟩⟩
 |false=>
  rw[if_neg G6]at q3 ⊢
  exact fin _ _ _ _ ((g1.trans g2).trans g3) (by rw[Rep]) a3 q3
theorem qK{X:Cx}{a b c:Expr}{ta tb tc:TD}{pos:Pos}{op op':CmpOp}{r r':R2D}(ho:OpD X (Hn op) r)(ho':OpD X (Hn op') r')(ha:DE X a ta)(hb:DE X b tb)(hc:DE X c tc) (hm:lastMarks [op,op'] [b,c]=false:=by with_unfolding_all rfl):DT X (.Compare a [op,op'] [b,c] pos) (tBD (qk r r' ta tb tc)):=lD (zD ho ho' ha hb hc hm) fun _ _ _ h=>j0 (fun _ _ _ h=>sW h) h
section
variable{X:Cx}
variable{o e1 e2:Expr}{to:TD}{t:TAD}{apos cpos:Pos}
def yf:RC:=fun ds M Q=>match ds with
 |[.ref l]=>∃xs,M l=some (.lst xs)/\∀p,M p=none->Q (.ref p) (av M p (.lst xs))
 |[.tup xs]=>∀p,M p=none->Q (.ref p) (av M p (.lst xs))
 |_=>False
theorem Bp:cX X (.type "list") yf:=bT pH fun vs H Q z9=>by
 obtain⟨ds,M,R,rs,a,q,fin⟩:=z9;unfold yf at q;split at q
 ·obtain⟨ys,e,q⟩:=q;obtain⟨v,rfl,r⟩:=b6 rs;rw[Rep]at r;subst r;obtain⟨xs,hx,rx⟩:=a _ _ e;exact⟨_,xs,rfl,.inl (SqL.of hx),fun z hz=>fin _ _ _ _ (.new hz) (by rw[Rep]) (a.kJ hz rx) (q z (a.fresh hz))⟩
 ·obtain⟨v,rfl,r⟩:=b6 rs;rw[Rep]at r;obtain⟨p,xs,rfl,hx,rx⟩:=r;exact⟨_,xs,rfl,.inr hx,fun z hz=>fin _ _ _ _ (.new hz) (by rw[Rep]) (a.kJ hz rx) (q z (a.fresh hz))⟩
 ·exact q.elim
end
theorem xK{α β:Type}(g:α->Option β):∀l:List α,(HF l.length).filterMap (fun i=>(l[i]?).bind g)=l.filterMap g:=by
 intro l
 induction l with
 |nil=>rfl
 |cons a l ih=>
  rw[Hw,List.range_succ_eq_map,Jn,Jn,List.filterMap_map]
  have e:((fun i=>((a::l)[i]?).bind g)∘Nat.succ)=fun i=>(l[i]?).bind g:=by funext i;simp
  rw[e,ih]
  simp
section
variable{X:Cx}{pins:List (Addr×Obj)}{σ:L2.St}{H:Hp}{s:G3}
theorem sO{h':Heap}{t':Nat}{e it:Addr}(I:Inv X pins σ H s)(k:∀b o,b≠e->b≠it->s.heap.get? b=some o->h'.get? b=some o)(fe:gE X pins H e)(fi:gE X pins H it):Inv X pins σ H { s with heap:=h',toks:=t' }:=by
 obtain⟨e0,e1,_,e3,e4,e5⟩:=fe;obtain⟨i0,i1,_,i3,i4,i5⟩:=fi;have ne:∀b u,H b=some u->b≠e/\b≠it:=fun b u q=>⟨fun z=>(by rw[z,e0]at q;cases q),fun z=>(by rw[z,i0]at q;cases q)⟩;have nc:∀{b:Addr},b∉[e,it]->b≠e/\b≠it:=fun{b} hc=>⟨fun z=>hc (by simp[z]),fun z=>hc (by simp[z])⟩;refine I.step (g':=s.gens) (d':=s.drawn) (ch:=[e,it]) (fun b hb=>?_) (fun b o _ _ hc q _=>k b o (nc hc).1 (nc hc).2 q) (fun b o _ _ hc q _=>⟨o.slots,k b o (nc hc).1 (nc hc).2 q⟩) (fun _ _ _ _ n=>n) (fun b o hc q=>⟨o,k b o (nc hc).1 (nc hc).2 q⟩) (fun _ _ q=>q) (fun _ _ _ q=>q) (fun b ps q=>⟨#[],by rw[q];simp⟩) (fun m hm=>?_) (fun b u q=>?_) I.bare
 ·rcases(show b=e\/b=it by simpa using hb)with rfl|rfl
  ·exact⟨e3,e1,e4,e5⟩
  ·exact⟨i3,i1,i4,i5⟩
 ·obtain⟨o,es,ep,ho,r⟩:=hm;exact⟨o,es,ep,k _ o (Ne.symm e1) (Ne.symm i1) ho,r⟩
 ·refine(I.hok b u q).gw (fun c v hc z=>?_) (fun _ z=>z) fun _ _ z=>z;rcases hc with y|y
  ·subst y;exact k _ v (ne _ u q).1 (ne _ u q).2 z
  ·exact k c v (ne c _ y).1 (ne c _ y).2 z
end
def Ite(K:cc)(a:Addr):It:=
 ⟨fun i H=>∃xs x,SqL K H a xs/\xs[i]?=some x,fun i H x H'=>∃T y,x=.ref T/\H T=none/\H'=upd H T (.tup [.int (i:Int),y])/\∀xs,SqL K H a xs->xs[i]?=some y,fun i H=>∃xs,SqL K H a xs/\xs.length<=i⟩
theorem wk{P:Hi}{w:HL}{K:cc}{elts:List Expr}{kt}{pt:Pos}(a e it:Addr)(hei:e≠it):Turn P w K (.Tuple elts kt pt) (Ite K a) [e,it] e (fun i h=>(∃old,IsEnum h e it (i:Int) old)/\h.IsListIter it a i) where
 mem:=by simp
 obj:=fun i h st b hb=>by
  rcases(show b=e\/b=it by simpa using hb)with rfl|rfl
  ·obtain⟨⟨old,q⟩,_⟩:=st
   exact⟨_,q,fun v z=>by
    have z':Data.fields _=Data.cell v:=z
    cases z'⟩
  ·obtain⟨o,q,c,d⟩:=st.2
   exact⟨o,q,fun v z=>by rw[d]at z;cases z⟩
 keep:=fun i h h' st k=>by
  obtain⟨⟨old,q⟩,st⟩:=st
  exact⟨⟨old,k e (by simp) _ q⟩,st.at fun o z=>k it (by simp) o z⟩
 item:=by
  intro X hP hw hK hc i pins s σ H E I hf st hg
  subst hP hw hK
  obtain⟨xs,x,hq,hx⟩:=hg
  obtain⟨its,rv,p,hz⟩:=I.list hq
  obtain⟨u,hu,ru⟩:=rv.get hx
  obtain⟨⟨old,he⟩,hit⟩:=st
  have le:e<s.heap.objs.size:=Hb he
  have li:it<s.heap.objs.size:=by obtain⟨o,q,_⟩:=hit;exact Hb q
  refine wpAny_pyNext_enum_item he hit p.isList (x:=u) (by simpa using hu) hei fun h1 ho hit1 hT hsz hk=>⟨_,rfl,wpAny_letOwnedTupleGo_enum (s:={ s with heap:=h1,toks:=s.toks+1 }) ho fun h2 he2 hs2=>?_⟩
  have hs2:Heap.SameBut e h1 h2:=hs2
  have fr:=I.fresh
  have I1:Inv X pins σ (upd H s.heap.objs.size (.tup [.int (i:Int),x])) { s with heap:=s.heap.push { cls:=.type "tuple",data:=.seq #[.int (i:Int) s.toks,u] },toks:=s.toks }:=
   I.laid (fun b v q=>G5 _ q) (GY _) ⟨nbL rfl,[.int (i:Int) s.toks,u],.cons ⟨_,rfl⟩ (.cons ru .nil),⟨_,Hk _ rfl,rfl,_,rfl⟩⟩
  have fk:∀{b:Addr},b<s.heap.objs.size->gE X pins H b->gE X pins (upd H s.heap.objs.size (.tup [.int (i:Int),x])) b:=fun{b} lt f=>⟨by rw[aR (HJ lt)];exact f.1,f.2⟩
  have fe:=fk le (hf e (by simp))
  have fi:=fk li (hf it (by simp))
  have I2:Inv X pins σ (upd H s.heap.objs.size (.tup [.int (i:Int),x])) { s with heap:=h2,toks:=s.toks+1 }:=by
   refine sO (s:={ s with heap:=s.heap.push { cls:=.type "tuple",data:=.seq #[.int (i:Int) s.toks,u] },toks:=s.toks }) I1 (fun b o ne ni q=>?_) fe fi
   have q:(s.heap.push { cls:=.type "tuple",data:=.seq #[.int (i:Int) s.toks,u] }).get? b=some o:=q
   refine(hs2.2 b ne).trans ?_
   rcases Heap.get?_push_cases q with⟨rfl,rfl⟩|q
   ·exact hT
   ·exact hk b o ne ni q
  refine⟨.ref s.heap.objs.size,_,I2,rfl,⟨_,x,rfl,fr,rfl,fun ys hy=>by rw[I.qJ hy hq];exact hx⟩,⟨⟨u,?_⟩,hit1.at fun o z=>(hs2.2 it hei.symm).trans z⟩,fun b hb=>?_⟩
  ·have:(((i+1:Nat):Int))=(i:Int)+1:=by omega
   rw[this];exact he2
  ·rcases(show b=e\/b=it by simpa using hb)with rfl|rfl
   ·exact fe.1
   ·exact fi.1
 done:=by
  intro X hP hw hK hc i pins s σ H E I hf st hg
  subst hP hw hK
  obtain⟨xs,hq,hx⟩:=hg
  obtain⟨its,rv,p,hz⟩:=I.list hq
  obtain⟨⟨old,he⟩,hit⟩:=st
  obtain⟨f0,f1,f2,f3,f4,f5⟩:=hf it (by simp)
  have hl:=rv.length
  exact wpAny_pyNext_enum_end (I.ok.hd hc) he hit p.isList (by simp;omega) fun h' eb=>⟨rfl,I.turned (t':=s.toks) (fun b o hb q=>eb b o hb q) f0 f1 f3 f4 f5⟩
 self:=fun _ _ _ _ _ st h=>let⟨⟨_,he⟩,_⟩:=st;wpAny_pyIter_enum he h
theorem pP:HX "enumerate"=some (.type "enumerate"):=by decide +kernel
section
variable{X:Cx}{elts:List Expr}{kt:Nat}{pt:Pos}
def Ej(K:cc)(ta:TA):TI:=fun σ H R=>ta σ H fun vs H1=>∃a xs,vs=[.ref a]/\H1 a=some (.lst xs)/\R (Ite K a) H1
theorem Aw{a:Expr}{ta:TA}{p pos:Pos}(hg:Gl X "enumerate")(hm:X.mg "enumerate"=none)(ha:PA X [a] ta)(hs:Hc [a] X.env=[(false,eval a X.env)]:=by rfl):PI X (.Tuple elts kt pt) (.Call (.Name "enumerate" p) [a] [] pos) (Ej X.K ta):=by
 intro pins s σ H R I h;refine Call_ (mM I hg hm pP (PyProof.Rows.callWith_type1 (thn (ha pos pins s σ H _ I h) fun us s1 zz1_0=>?_) hs rfl));obtain⟨vs,H1,I1,r1,q1⟩:=zz1_0;obtain⟨l,xs,ev,hH,q⟩:=q1;subst ev;obtain⟨u,rfl,ru⟩:=r1.one;cases ru;obtain⟨z,its,n,r,hl,e⟩:=I1.xP hH;refine call_enumerate_1 e fun h' he hit hsz hk=>wpAny_pyIter_enum he ?_
 have fp:∀b∈[s1.heap.objs.size+1,s1.heap.objs.size],gE X pins H1 b:=fun b hb=>by
  have hb':s1.heap.objs.size<=b:=by
   rcases(show b=s1.heap.objs.size+1\/b=s1.heap.objs.size by simpa using hb)with rfl|rfl
   ·exact Nat.le_succ _
   ·exact GY _
  exact I1.zc hb' (I1.hok.fresh hb')
 exact⟨_,[s1.heap.objs.size+1,s1.heap.objs.size],_,_,H1,rfl,I1.kept (t':=s1.toks) hk,wk l _ _ (Nat.succ_ne_self _),⟨⟨_,he⟩,hit⟩,fp,q⟩
def Et(ta:TAD):TID:=fun δ M R=>ta δ M fun ds M1=>∃l es,ds=[.ref l]/\M1 l=some (.lst es)/\R ⟨es.length,fun i=>(es[i]?).map fun d=>.tup [.int (i:Int),d],fun M=>M l=some (.lst es)⟩ M1
theorem ib{a:Expr}{ta:TAD}{p pos:Pos}(hg:Gl X "enumerate")(hm:X.mg "enumerate"=none)(ha:DA X [a] ta)(hs:Hc [a] X.env=[(false,eval a X.env)]:=by rfl):DI X (.Tuple elts kt pt) (.Call (.Name "enumerate" p) [a] [] pos) (Et ta):=
 pR (Aw hg hm ha hs) fun σ H R ⟨δ,M,RD,hs,hM,q,fin⟩=>⟨δ,M,_,hs,hM,q,fun ds M1 vs H1 g1 r1 a1 z9=>by
  obtain⟨l,es,e,hl,q1⟩:=z9
  subst e
  obtain⟨v,rfl,r⟩:=b6 r1
  rw[Rep]at r;subst r
  obtain⟨xs,hx,rs⟩:=a1 _ _ hl
  refine⟨l,xs,rfl,hx,fin _ M1 H1 _ g1 a1 q1 ⟨fun H2 M2 g2 a2 c2=>?_,fun i H2 M2 hi g2 a2 c2=>?_,?_⟩⟩
  ·obtain⟨ys,hy,ry⟩:=a2 _ _ (show M2 l=some (.lst es)from c2)
   exact⟨ys,SqL.of hy,by rw[<-ry.length];exact GY _⟩
  ·obtain⟨ys,hy,ry⟩:=a2 _ _ (show M2 l=some (.lst es)from c2)
   have hi':i<ys.length:=by rw[<-ry.length];exact hi
   exact⟨ys,ys[i],SqL.of hy,by simp[hi']⟩
  ·rintro i H2 M2 v H3 hi g2 a2 c2 ⟨T,y,rfl,hT,rfl,hy⟩
   have hi:i<es.length:=hi
   obtain⟨ys,hys,ry⟩:=a2 _ _ (show M2 l=some (.lst es)from c2)
   obtain⟨x,e1,e2⟩:=ry.get (show es[i]?=some es[i] by simp[hi])
   have:=hy ys (SqL.of hys)
   rw[e1]at this;cases this
   exact⟨.new hT,a2.new hT,.tup [.int (i:Int),es[i]],by simp[hi],by rw[Rep];exact⟨T,_,rfl,SqT.of aY,.cons (by rw[Rep]) (.cons (e2.mono (.new hT)) .nil)⟩⟩⟩
end
section
variable{X:Cx}
theorem rT{x:Str}{i:Int}{pos:Pos}(hg:Gl X x)(hm:∃t,X.mg x=some (.int i t))(hd:(x==("__debug__":Str))=false:=by decide):DE X (.Name x pos) (tCD (.int i)):=by obtain⟨t,hm⟩:=hm;exact dc (u7 (v:=.int i) hg hm ⟨t,rfl⟩ hd) fun _=>by rw[Rep]
theorem EJ{K:cc}{mg:Str->Option G0}{h:Heap}{x:Str}{i:Int}{t:Tok}(X:K.In h)(G:h.Ns HK mg)(a:Ih K HK x=some (some (.int i t))):∃t,mg x=some (.int i t):=⟨t,PySem.W.mg_of X G a⟩
variable{o:Expr}{to:TD}{apos cpos:Pos}
end
open PySem PySem.W PySem.Spec PySem.Calls PyProof.Rows Builtin Builtin.ObjectAttr Builtin.Getset_descriptor
section
variable{prog:Hi}{w:HL}{A:HM}{E:G0->G3->Prop}{h:Heap}{g:Array GenState}{d:Drawn}{t:Nat}{os:OsState}{K:Frag}{a C:Addr}{o:Obj}
structure ErrC(K:Frag)(C:Addr):Prop where
 ga:findIn K (.ref C) "__getattribute__"=some (some (.builtin "BaseException.__getattribute__"))
 gt:findIn K (.ref C) "__getattr__"=some none
 cl:findIn K (.ref C) "__class__"=some (some (.builtin "object.__class__"))
 sub:subIn K (.ref C) (.type "BaseException")=some true
 mro:mroIn K C (.type "object")=some true
theorem eN{M:Model}(hx:h.get? a=some o)(hc:o.cls=.ref C):Looks M h (typeOf (.ref a)) (.ref C):=hc▸(Looks.ld hx).andThen .now
theorem ng{R:Result->G3->Prop}{tp:G0}(X:K.In h)(Z:ErrC K C)(hx:h.get? a=some o)(hc:o.cls=.ref C)(hq:R (.ok (.ret (.ref C))) ⟨h,g,d,t,os⟩) :
 codeAny (Hm prog w) A (.call (.builtin "getset_descriptor.__get__") ⟨[.builtin "object.__class__",.ref a,tp],[]⟩) R ⟨h,g,d,t,os⟩:=by
 have L0:=eN (M:=Hm prog w) hx hc
 have L1:=looks_mroIn (M:=Hm prog w) X Z.mro
 refine JJ KF.slot_gs.plain KF.entry_gs (KF.slot_gs.check _ _ _ _ _ _ _ _ KF.type_class (KF.args_gs _ _ tp) ?_)
 unfold Builtin.«getset_descriptor.__get__» descrGet;rw[dga_obj];refine G2 (Hd ?_);unfold descrGetter descrCheckInstance;unfold descrNameAndClass isInstance
 simp only[KF.owner_class]
 repeat lk
 refine And.intro (Code.quiet_builtin _ (by decide +kernel)) (JE KF.entry_class ?_);unfold Builtin.«object.__class__» shownTypeOf;(repeat lk)
 exact hq
theorem we{tk:Tok}{Q:PySem.Fin->G3->Prop}(X:K.In h)(Z:ErrC K C)(hx:h.get? a=some o)(hc:o.cls=.ref C)(hq:Q (.done (.ret (.ref C))) ⟨h,g,d,t,os⟩) :
 Hf (Hm prog w) A (Builtin.«object.__getattribute__» ⟨[.ref a,.str "__class__" tk],[]⟩) Q E ⟨h,g,d,t,os⟩:=by
 have L0:=eN (M:=Hm prog w) (a:=a) hx hc
 have L3:=looks_findIn (M:=Hm prog w) X Z.cl
 have hT5:(⟨h,g,d,t,os⟩:G3).TypeIs (.builtin "object.__class__") "getset_descriptor":=KF.type_class
 have f5:=KF.type_class
 have gsGet:=F.slot_gs_get.lookup;have gsSet:=F.slot_gs_set.lookup
 repeat (any_goals (first|assumption|with_reducible refine Looks.at L0 ?_|with_reducible refine Looks.at L3 ?_|wp_step))
 refine ng X Z hx hc ?_
 repeat (any_goals (first|wp_step|assumption))
theorem nK{M:Model}{nameV:G0}{Q:Unit->G3->Prop}(X:K.In h)(Z:ErrC K C)(hx:h.get? a=some o)(hc:o.cls=.ref C)(hq:Q () ⟨h,g,d,t,os⟩):Hf M A (checkBuiltinCall "BaseException.__getattribute__" ⟨[.ref a,nameV],[]⟩) Q E ⟨h,g,d,t,os⟩:=by
 have kd:builtinKind "BaseException.__getattribute__"=some .slot:=by decide +kernel
 have sp:splitId "BaseException.__getattribute__"=some ("BaseException","__getattribute__"):=by decide +kernel
 have okArgs:=F.args_bexc_ga (.ref a) nameV;have L0:=eN (M:=M) hx hc;have L1:=looks_subIn (M:=M) X Z.sub;have LI:Looks M h (isInstance (.ref a) (.type "BaseException")) true:=L0.andThen L1;simp only[checkBuiltinCall,kd,sp];refine G2 (LI.at ?_)
 repeat (first|assumption|wp_step)
theorem yk{tk:Tok}{R:Result->G3->Prop}(sl:Slot "ValueError" "__getattribute__" "BaseException.__getattribute__")(X:K.In h)(Z:ErrC K C)(hx:h.get? a=some o)(hc:o.cls=.ref C)(hq:R (.ok (.ret (.ref C))) ⟨h,g,d,t,os⟩) : codeAny (Hm prog w) A (.call (.builtin "BaseException.__getattribute__") ⟨[.ref a,.str "__class__" tk],[]⟩) R ⟨h,g,d,t,os⟩:=JJ sl.plain F.entry_bexc_ga (nK X Z hx hc (we X Z hx hc hq))
theorem wV{Q:Option G0->G3->Prop}(sl:Slot "ValueError" "__getattribute__" "BaseException.__getattribute__")(X:K.In h)(Z:ErrC K C)(hx:h.get? a=some o)(hc:o.cls=.ref C)(hq:Q (some (.ref C)) ⟨h,g,d,t+1,os⟩):Hf (Hm prog w) A (getAttr? (.ref a) "__class__") Q E ⟨h,g,d,t,os⟩:=by
 have L0:=eN (M:=Hm prog w) hx hc;have L1:=looks_findIn (M:=Hm prog w) X Z.ga;have L2:=looks_findIn (M:=Hm prog w) X Z.gt;have f3:=sl.bind (.ref a);have hx0:(false&&onTheHeap (J9 "BaseException.__getattribute__"))=false:=rfl;have ne2:(J9 "BaseException.__getattribute__"==J9 "object.__getattribute__")=false:=by decide +kernel
 have ne1:(onTheHeap (Iq C)&&J9 "BaseException.__getattribute__"==J9 "object.__getattribute__")=false:=by rw[ne2];rfl
 unfold getAttr? getAttrBy?
 repeat (any_goals (first|assumption|with_reducible refine Looks.at L0 ?_|with_reducible refine Looks.at L1 ?_|with_reducible refine Looks.at L2 ?_|wp_step))
 refine yk sl X Z hx hc ?_
 repeat (any_goals (first|wp_step|assumption))
theorem AS(sl:Slot "ValueError" "__getattribute__" "BaseException.__getattribute__")(Z:ErrC K C)(hcls:(clsIn K C).isSome=true):KitX K (.ref a) (.ref C) (fun h=>∃o,h.get? a=some o/\o.cls=.ref C) where
 ty:=fun M h X ⟨o,hx,hc⟩=>eN hx hc
 it:=fun M h X _=>by
  unfold clsIn at hcls
  split at hcls
  ·rename_i c' d' cd' sl' ho
   intro A' Q' E' s' k q
   unfold isType loadHead
   refine G2 ?_;exact wpAny_loadPart (k _ _ (X _ _ ho)) (Hd q)
  ·cases hcls
 ne:=fun h tp dd its n sl X ht=>by
  unfold clsIn at hcls
  split at hcls
  ·rename_i c' d' cd' sl' ho
   refine Bool.eq_false_iff.mpr fun q=>?_;have e:C=tp:=Iq.inj (beq_iff_eq.mp q)
   subst e
   have:=X _ _ ho
   rw[ht]at this
   cases this
  ·cases hcls
 ca:=fun{prog w A E Q s} X zz1_0 hq=>by
  obtain⟨o,hx,hc⟩:=zz1_0
  obtain⟨hh,g,d,t,os⟩:=s
  exact wV sl X Z hx hc hq
end
def km(h:Heap):List Addr->Heap
 |[]=>h
 |a::l=>(km h l).hide a
theorem fE{h:Heap}{b:Addr}:∀{l:List Addr},b∉l->(km h l).get? b=h.get? b
 |[],_=>rfl
 |a::l,n=>by
  unfold km
  rw[Heap.hide_ne _ (fun e=>n (by rw[e];exact Hx))]
  exact fE fun z=>n (GZ _ z)
theorem gP{h:Heap}{b:Addr}:∀{l:List Addr},b∈l->(km h l).get? b=none
 |a::l,m=>by
  unfold km
  by_cases e:b=a
  ·subst e;exact Heap.hide_self _ _
  ·rw[Heap.hide_ne _ e]
   exact gP ((Hr.mp m).resolve_left e)
theorem sY{h:Heap}{b:Addr}{o:Obj}{l:List Addr}(e:(km h l).get? b=some o):b∉l/\h.get? b=some o:=by
 by_cases m:b∈l
 ·rw[gP m]at e;cases e
 ·rw[fE m]at e;exact⟨m,e⟩
theorem jy{env:Env}{l:List Env}{L:Addr}(h:env.frame=some L):frs (env::l)=L::frs l:=by unfold frs;rw[Jn,h]
theorem rO{h base base':Heap}:∀{l:List Env},h.FunFrames base l->(∀b∈frs l,base'.get? b=none)->h.FunFrames base' l
 |[],_,_=>trivial
 |env::r,⟨hk,⟨L,o,hf,hn,ho,hd⟩,hr⟩,n=>⟨hk,⟨L,o,hf,n L (by rw[jy hf];exact Hx),ho,hd⟩,rO hr fun b hb=>n b (by rw[jy hf];exact GZ _ hb)⟩
theorem kZ{h base:Heap}:∀{l:List Env} {b:Addr},h.FunFrames base l->b∈frs l->∃o,h.get? b=some o/\∀vs:Array G0,o.data≠.fields vs
 |[],_,_,m=>by unfold frs at m;simp at m
 |env::r,b,⟨hk,⟨L,o,hf,hn,ho,hd⟩,hr⟩,m=>by
  rw[jy hf]at m
  rcases Hr.mp m with e|m
  ·exact⟨o,by rw[e];exact ho,hd⟩
  ·exact kZ hr m
theorem zP{P:Hi}{w:HL}{H:Hp}{h:Heap}{a:Addr}{o:HO}(x:cY P w H h a o):∃u,h.get? a=some u:=by
 cases o with
 |lst xs=>obtain⟨_,_,_,_,e⟩:=x;exact⟨_,e⟩
 |tup xs=>obtain⟨_,_,_,⟨_,e,_⟩⟩:=x;exact⟨_,e⟩
 |dK kvs=>obtain⟨_,_,_,_,o,_,_,e,_⟩:=x;exact⟨_,e⟩
 |dT kvs=>obtain⟨_,_,_,_,o,_,_,e,_⟩:=x;exact⟨_,e⟩
 |set S n=>obtain⟨o,_,_,_,e,_⟩:=x;exact⟨_,e⟩
 |ins C dx fs=>obtain⟨_,_,_,e,_⟩:=x;exact⟨_,e⟩
 |own y=>obtain⟨_,e⟩:=x;exact⟨_,e⟩
 |xd fs=>obtain⟨_,⟨_,_,_,e,_⟩,_⟩:=x;exact⟨_,e⟩
 |rng lo hi=>obtain⟨_,_,_,e⟩:=x;exact⟨_,e⟩
 |frz ob u=>obtain⟨e,_⟩:=x;exact⟨_,e⟩
 |tbl ps=>exact⟨_,(show h.get? a=some _ from x)⟩
 |met f y=>exact⟨_,(show h.get? a=some _ from x)⟩
 |ext φ=>obtain⟨_,e,_⟩:=x;exact e
structure Fly(P:Hi)(w:HL)(outer:List Env)(H H':Hp)(s s':G3)(a C:Addr):Prop where
 os:s'.os=s.os
 bare:AllBare s'.gens
 bs:∃(b:Heap) (a0:G0),b.FlyingW outer a (.ref C) a0 s'.heap/\HOk P w H' b/\
  (∀x o,s.heap.get? x=some o->H x=none->x∉frs outer->b.get? x=some o)/\(∀x o,s.heap.get? x=some o->x∉frs outer->∃o',b.get? x=some o')
 slot:∀x o,s.heap.get? x=some o->H x=none->x∈frs outer->∃sl,s'.heap.get? x=some { o with slots:=sl }
 free:∀x o,s.heap.get? x=some o->H x=none->H' x=none
 tups:∀b xs,H b=some (.tup xs)->H' b=some (.tup xs)
 frzs:∀b o u,H b=some (.frz o u)->H' b=some (.frz o u)
 tbls:∀b ps,H b=some (.tbl ps)->∃more,H' b=some (.tbl (ps++more))
section
variable{P:Hi}{w:HL}{outer:List Env}{H H':Hp}{s s':G3}{a C:Addr}
theorem Fly.un(F:Fly P w outer H H' s s' a C)(hf:∀x∈frs outer,H x=none):Un (frs outer) [] H H' s.heap s'.heap:=by
 obtain⟨b,a0,fl,hok,kp,th⟩:=F.bs;refine⟨fun x o e n nf _=>fl.1 x o (kp x o e n nf),fun x o e n m _=>F.slot x o e n m,fun x o e n _=>F.free x o e n,fun x o e _=>?_,F.tups,F.frzs,F.tbls⟩;by_cases m:x∈frs outer
 ·obtain⟨sl,q⟩:=F.slot x o e (hf x m) m;exact⟨_,q⟩
 ·obtain⟨o',q⟩:=th x o e m;exact⟨o',fl.1 x o' q⟩
theorem Fly.hok(F:Fly P w outer H H' s s' a C):HOk P w H' s'.heap:=by obtain⟨b,a0,fl,hok,_,_⟩:=F.bs;exact hok.kept fl.1
theorem Fly.new(F:Fly P w outer H H' s s' a C):H' a=none:=by
 obtain⟨b,a0,fl,hok,_,_⟩:=F.bs;cases e:H' a with
 |none=>rfl
 |some o=>
  obtain⟨u,q⟩:=zP (hok a o e)
  rw[fl.2.1]at q;cases q
theorem Fly.apart(F:Fly P w outer H H' s s' a C){x:Addr}{o:Obj}(e:s.heap.get? x=some o)(n:H x=none):x≠a:=by
 rintro rfl;obtain⟨b,a0,fl,hok,kp,_⟩:=F.bs;by_cases m:x∈frs outer
 ·obtain⟨o',e',d⟩:=kZ fl.2.2.1 m;obtain⟨oe,vs,T,oT,ts,h1,_,h2,_⟩:=fl.2.2.2;rw[h1]at e';cases e';exact d vs h2
 ·have:=kp x o e n m;rw[fl.2.1]at this;cases this
end
theorem A4{K:cc}{fs ex:List Addr}{H H':Hp}{h h':Heap}(u:Un fs ex H H' h h'):Grow K H H':=by
 refine⟨fun a xs q=>?_,fun a xs q=>?_⟩
 ·rcases q with(q|⟨o,q⟩)|q
  ·exact .inl (.inl (u.tups _ _ q))
  ·exact .inl (.inr ⟨o,u.frzs _ _ _ q⟩)
  ·exact .inr q
 ·rcases q with⟨o,q⟩|q
  ·exact .inl ⟨o,u.frzs _ _ _ q⟩
  ·exact .inr q
def CXE(P:Hi)(w:HL):CXT:=fun outer H s E e s'=>∃a C H',e=.ref a/\Fly P w outer H H' s s' a C/\E (.ref C) none H'
section
variable{P:Hi}{w:HL}{K:cc}{mg:Str->Option G0}{base:Heap}{N:List Str}{qual:Str}{scope:JH}{f:Addr}{cd:G0}{A:HM}{outer:List Env}{s:G3}{H:Hp}{E:XK}
theorem zI{pins:List (Addr×Obj)}{σ:L2.St}{H1:Hp}{s1:G3}(I:Inv (bQ (CXE P w) P w K mg base N qual scope f cd A outer s H E) pins σ H1 s1){x:Addr}{o:Obj}(e:s.heap.get? x=some o)(n:x∉frs outer):x∉frs (bQ (CXE P w) P w K mg base N qual scope f cd A outer s H E).stack:=by
 show x∉frs ((bQ (CXE P w) P w K mg base N qual scope f cd A outer s H E).env::outer);rw[jy (L:=(bQ (CXE P w) P w K mg base N qual scope f cd A outer s H E).env.locals) rfl];intro m;rcases Hr.mp m with z|z
 ·have h1:s.heap.objs.size<=(bQ (CXE P w) P w K mg base N qual scope f cd A outer s H E).env.locals:=I.ok.above;have h2:=Hb e;rw[z]at h2;exact absurd (G8 h2 h1) (IX _)
 ·exact n z
end
abbrev veM:List G0:=[Value.type "ValueError",Value.type "Exception",Value.type "BaseException",Value.type "object"]
structure ClsE(K:cc)(x:Str)(C:Addr):Prop where
 nm:Ih K HK x=some (some (.ref C))
 ex:JN K C veM "ValueError.__new__"=true
section
variable{P:Hi}{w:HL}{K:cc}{mg:Str->Option G0}{base:Heap}{N:List Str}{qual:Str}{scope:JH}{f:Addr}{cd:G0}{A:HM}{outer:List Env}{s:G3}{H:Hp}{E:XK}
end
section
variable{P:Hi}{w:HL}{K:cc}{mg:Str->Option G0}{base:Heap}
end
abbrev hold(X:Cx)(a:Addr):Cx:={ X with A:=X.A.mark (some (.ref a)),calm:=false }
section
variable{X:Cx}{pins:List (Addr×Obj)}{σ:L2.St}{H:Hp}{s:G3}{a:Addr}
theorem qI(I:Inv X pins σ H s):Inv (hold X a) pins σ H s:=⟨⟨I.ok.mod,I.ok.kind,I.ok.glob,I.ok.blt,I.ok.above,I.ok.inj,I.ok.has,I.ok.cab,(fun z=>Bool.noConfusion z),I.ok.frames,I.ok.stk,I.ok.exf,I.ok.bs,I.ok.bsz,I.ok.noex,I.ok.exfs,I.ok.jc,I.ok.frf⟩,I.os,I.bare,I.base,I.loc,I.cell,I.free,I.freeC,I.pin,I.hok,I.len⟩
theorem f7(ok:X.Ok)(I:Inv (hold X a) pins σ H s):Inv X pins σ H s:=⟨ok,I.os,I.bare,I.base,I.loc,I.cell,I.free,I.freeC,I.pin,I.hok,I.len⟩
theorem ir{M:Model}{A:HM}{E:G0->G3->Prop}{j:Nat}{n:Str}{pos:Pos}{Q:Unit->G3->Prop}(I:Inv X pins σ H s)(hN:X.N.Nodup)(hj:X.N[j]?=some n)(hk:X.env.scope.names.lookup n=some .local)
 (h:∀s',Inv X pins (σ.set j none) H s'->Q () s'):Hf M A (do bindName X.env n Iu;unbindBehindTheSuite X.env n pos) Q E s:=by
 obtain⟨m,hn,hl⟩:=id I.loc
 have hcls:(X.env.scope.kind==.class||(X.env.scope.kind==.module&&X.env.locals != X.env.globals))=false:=by rw[I.ok.kind];rfl
 have hjσ:j<σ.length:=by rw[I.len];exact(Hj.mp hj).1
 have cne:=I.cne
 obtain⟨oL,_,_,hoL,_⟩:=id hn
 refine wpAny_nameGoes_keeps hk hn hcls fun h' v hn' hs=>?_
 refine h { s with heap:=h',toks:=s.toks+1 } ⟨I.ok,I.os,I.bare,⟨fun b o e n hb hx=>?_,fun b o e n hb hx=>?_,I.base.free,fun b o e hx=>?_,I.base.tups,I.base.frzs,I.base.tbls⟩,⟨_,hn',fun i y v' e1 e2 e3=>?_⟩,fun y c e=>?_,I.free,I.freeC,fun p hp=>?_,fun b ob e=>?_,by simpa using I.len⟩
 ·exact(hs.2 b (HJ (G8 (Hb e) I.ok.above))).trans (I.base.keep b o e n hb hx)
 ·obtain⟨sl,e1⟩:=I.base.slot b o e n hb hx
  exact⟨sl,(hs.2 b (HJ (G8 (Hb e) I.ok.above))).trans e1⟩
 ·obtain⟨o',e1⟩:=I.base.there b o e hx
  exact⟨o',(hs.2 b (HJ (G8 (Hb e) I.ok.above))).trans e1⟩
 ·by_cases hij:i=j
  ·subst hij
   rw[List.getElem?_set_self hjσ]at e2
   cases e2
  ·rw[List.getElem?_set_ne (Ne.symm hij)]at e2
   obtain⟨u',r',q⟩:=hl i y v' e1 e2 e3
   refine⟨u',r',?_⟩
   rcases q with⟨k,e⟩|⟨k,c,e,z⟩
   ·refine .inl ⟨k,?_⟩
    have:y≠n:=fun e=>hij (my hN e1 (e▸hj))
    simp[this,e]
   ·exact .inr ⟨k,c,e,z.sameBut hs (cne y c e)⟩
 ·obtain⟨w',z⟩:=I.cell y c e
  exact⟨w',z.sameBut hs (cne y c e)⟩
 ·obtain⟨e,n,ne,nf,d⟩:=I.pin p hp
  exact⟨(hs.2 p.1 ne).trans e,n,ne,nf,d⟩
 ·refine(I.hok b ob e).gw (fun c w' hc q=>(hs.2 c ?_).trans q) (fun _ q=>q) fun _ _ q=>q
  rintro rfl
  rcases hc with rfl|hc
  ·rw[I.free]at e;cases e
  ·rw[I.free]at hc;cases hc
end
theorem rg{M:Model}{A:HM}{E:G0->G3->Prop}{K:cc}{s:G3}{a C S:Addr}{o:Obj}{Q:Bool->G3->Prop}(X:K.In s.heap)(ho:s.heap.get? a=some o)(hc:o.cls=.ref C) (hS:JN K S veM "ValueError.__new__"=true) (hB:HY K (.ref S) (.type "BaseException")=some true) {b:Bool} (hs:HY K (.ref C) (.ref S)=some b) (q:Q b s):Hf M A (excMatches (.ref a) (.ref S)) Q E s:=by
 unfold JN at hS;split at hS
 ·rename_i dct cd sl hl;have gS:s.heap.get? S=some _:=X _ _ hl
  have L0:PySem.W.Looks M s.heap (isInstance (.ref S) (.type "tuple")) false:=by
   have t0:PySem.W.Looks M s.heap (typeOf (.ref S)) (.type "type"):=(PySem.W.Looks.ld gS).andThen .now
   exact t0.andThen (PySem.W.looks_subIn X (show Option.map _ (fastBuiltinMro "type")=_ by decide +kernel))
  have L1:PySem.W.Looks M s.heap (isType (.ref S)) true:=by intro A' Q' E' s' k q;unfold isType loadHead;refine G2 ?_;exact wpAny_loadPart (k _ _ gS) (Hd q)
  have L2:=PySem.W.looks_subIn (M:=M) X hB;have L3:PySem.W.Looks M s.heap (typeOf (.ref a)) (.ref C):=hc▸(PySem.W.Looks.ld ho).andThen .now;have L4:=PySem.W.looks_subIn (M:=M) X hs;have kk:∀(b:Addr) (o:Obj),s.heap.get? b=some o->s.heap.get? b=some o:=fun _ _ z=>z;unfold excMatches isExcClass;refine G2 (L0 _ _ _ _ kk ?_);simp only[Bool.false_eq_true,if_false,List.forIn_cons,List.forIn_nil,pure_bind,bind_assoc,Bool.not_true];refine G2 (L1 _ _ _ _ kk ?_);simp only[if_true];refine G2 (L2 _ _ _ _ kk ?_);simp only[Bool.not_true,Bool.false_eq_true,if_false,pure_bind,bind_assoc];refine G2 (L3 _ _ _ _ kk ?_);refine G2 (L4 _ _ _ _ kk ?_);cases b
  ·simp only[Bool.false_eq_true,if_false,pure_bind,bind_assoc];exact Hd q
  ·simp only[if_true,pure_bind,bind_assoc];exact Hd q
 ·cases hS
abbrev TR:=L2.St->Hp->(Hp->XK)->Prop
section
variable{Y:Cx}{k:Nat}{f:Addr}{fd:Jc}{ps:List Str}{sp:Sp}{x:Str}{p pos:Pos}{e:Expr}{es:List Expr}{t:TA}
end
def gone(j:Nat)(D:Ends):Ends:={ nx:=fun σ H=>D.nx (σ.set j none) H,rt:=D.rt,bk:=fun σ H=>D.bk (σ.set j none) H,ct:=fun σ H=>D.ct (σ.set j none) H }
theorem Slots.gone{K:cc}{H:Hp}{δ:DS}{σ:L2.St}(h:Slots K H δ σ)(j:Nat):Slots K H (δ.set j none) (σ.set j none):=by
 refine⟨by simp[h.len],fun i d q=>?_⟩;rw[List.getElem?_set]at q;by_cases hij:j=i
 ·rw[if_pos hij]at q;split at q<;>cases q
 ·rw[if_neg hij]at q;obtain⟨v',e1,e2⟩:=h.at' i d q;exact⟨v',by rw[List.getElem?_set,if_neg hij];exact e1,e2⟩
def BP(j:Nat)(B:EndsD):EndsD:={ nx:=fun δ M=>B.nx (δ.set j none) M,rt:=B.rt,bk:=fun δ M=>B.bk (δ.set j none) M,ct:=fun δ M=>B.ct (δ.set j none) M }
section
variable{Y:Cx}
end
open PySem.Sem (wp)
def jv(h h':Heap):Prop:=∀a o,h.get? a=some o->∃o',h'.get? a=some o'/\o'.dict=o.dict
theorem jv.refl{h:Heap}:jv h h:=fun _ o e=>⟨o,e,rfl⟩
theorem jv.trans{h h1 h2:Heap}(a:jv h h1)(b:jv h1 h2):jv h h2:=fun x o e=>let⟨o1,e1,d1⟩:=a x o e;let⟨o2,e2,d2⟩:=b x o1 e1;⟨o2,e2,d2.trans d1⟩
def KpD{α:Type}(t:Sem α):Prop:=∀(M:Model) (Γ:PySem.Ctx) (Q:α->Pos->G3->Prop) (E:G0->Pos->G3->Prop) (p:Pos) (s:G3),
 wp M Γ t Q E p s->wp M Γ t (fun a p' s'=>Q a p' s'/\jv s.heap s'.heap) (fun _ _ _=>False) p s
section
variable{α β:Type}
theorem KpD.pure{a:α}:KpD (Pure.pure a:Sem α):=fun M Γ Q E p s h=>⟨h,.refl⟩
theorem KpD.uns{w:String}:KpD (unsupported w:Sem α):=fun M Γ Q E p s h=>(show False from h).elim
theorem KpD.bind{t:Sem α}{f:α->Sem β}(h1:KpD t)(h2:∀a,KpD (f a)):KpD (t >>= f):=fun M Γ Q E p s h=>by rw[Ii]at h ⊢;refine Sem.wp_mono M Γ t (fun a p1 s1 zz1_0=>?_) (fun _ _ _ z=>z) p s (h1 M Γ _ E p s h);obtain⟨q,k⟩:=zz1_0;exact Sem.wp_mono M Γ (f a) (fun b p2 s2 zz2_0=>by obtain⟨q2,k2⟩:=zz2_0;exact(⟨q2,k.trans k2⟩)) (fun _ _ _ z=>z) p1 s1 (h2 a M Γ Q E p1 s1 q)
theorem KpD.load{a:Addr}:KpD (PySem.load a):=fun M Γ Q E p s h=>by obtain⟨o,e,q⟩:=(show ∃o,s.heap.get? a=some o/\Q o p s from h);exact⟨o,e,q,.refl⟩
theorem KpD.stack:KpD PySem.stack:=fun M Γ Q E p s h=>⟨h,.refl⟩
theorem AK{h:Heap}{a b:Addr}{f:Obj->Obj}{o:Obj}(hf:∀o,(f o).dict=o.dict/\(f o).isFreed=o.isFreed)(e:h.get? b=some o):∃o',(h.update a f).get? b=some o'/\o'.dict=o.dict:=by
 by_cases z:a=b
 ·subst z;exact⟨f o,IA f e ((hf o).2.trans (Heap.get?_some_iff.mp e).2),(hf o).1⟩
 ·exact⟨o,(Hs h f z).trans e,rfl⟩
theorem KpD.update{a:Addr}{f:Obj->Obj}(hf:∀o,(f o).dict=o.dict/\(f o).isFreed=o.isFreed):KpD (PySem.update a f):=fun M Γ Q E p s h=>
 have h':(s.heap.get? a).isSome/\Q () p { s with heap:=s.heap.update a f }:=h
 show(s.heap.get? a).isSome/\_ from⟨h'.1,h'.2,fun b o e=>AK hf e⟩
theorem KpD.alloc{o:Obj}:KpD (PySem.alloc o):=fun M Γ Q E p s h=>⟨h,fun a u e=>⟨u,G5 _ e,rfl⟩⟩
theorem KpD.ite{c:Prop}[Decidable c]{t u:Sem α}(h1:KpD t)(h2:KpD u):KpD (if c then t else u):=by
 split
 ·exact h1
 ·exact h2
end
theorem wA(g:Array G0->Array G0)(o:Obj):(o.mapFields g).dict=o.dict/\(o.mapFields g).isFreed=o.isFreed:=by obtain⟨c,d,dt,sl⟩:=o;cases dt<;>exact⟨rfl,rfl⟩
theorem vJ{v:G0}:KpD (fieldsOf v):=by
 unfold fieldsOf;cases v<;>first|exact .uns|skip
 refine .bind .load fun o=>?_;cases o.data<;>first|exact .uns|exact .pure
theorem jG{v:G0}{i:Nat}:KpD (field v i):=by unfold field;refine .bind vJ fun vs=>?_;cases vs[i]?<;>first|exact .uns|exact .pure
theorem gF{v x:G0}{i:Nat}:KpD (setField v i x):=by
 unfold setField;cases v<;>first|exact .uns|skip
 unfold updateField;refine .bind .load fun o=>?_;cases o.data<;>first|exact .uns|skip
 exact .ite (.update fun o=>wA _ o) .uns
theorem fO{e:G0}{f:Option Addr}:KpD (setFlight e f):=by unfold setFlight;refine .bind jG fun tb=>?_;exact .ite gF .pure
theorem zd:KpD underTheClaimsCaller:=by unfold underTheClaimsCaller;exact .bind .stack fun _=>.pure
theorem rm{env:Env}{b:Bool}:∀{l:List Env},KpD (keptBack env b l)
 |[]=>by
  unfold keptBack
  exact .ite .pure (.bind zd fun _=>.pure)
 |_::_=>.pure
theorem wO{env:Env}{l:List Env}:KpD (behindIsImport env l):=by unfold behindIsImport;refine .ite .pure (.ite .pure (.bind jG fun _=>.pure))
theorem rk:∀{l:List Env},KpD (readyFrames l)
 |[]=>.pure
 |env::outer=>by
  unfold readyFrames
  cases env.frame with
  |none=>exact .uns
  |some f=>
   refine .bind .load fun o=>.ite .pure (.bind wO fun b=>.bind rm fun v=>.bind (.update fun o=>?_) fun _=>rk)
   obtain⟨c,d,dt,sl⟩:=o
   cases dt<;>exact⟨rfl,rfl⟩
theorem sf{env:Env}:KpD (PySem.frameOf env):=by
 unfold PySem.frameOf frameEnvs;refine .bind (.bind .stack fun _=>.pure) fun l=>.bind ?_ fun r=>?_
 ·generalize List.dropWhile _ l=l';cases l' with
  |nil=>exact .pure
  |cons e r=>exact .bind rk fun _=>.pure
 ·cases r<;>first|exact .uns|exact .pure
theorem yv{f:Addr}{b:Bool}:KpD (entryPlaceOf f b):=by
 unfold entryPlaceOf;refine .bind .stack fun acts=>?_;split
 ·exact .pure
 ·exact .pure
theorem zw{a b c d e:G0}{pl:List G0}:KpD (Jq a b c d e pl):=by unfold Jq newFields newObj;dsimp only;refine .ite .uns ?_;unfold newObjAsIs;exact .bind .alloc fun _=>.pure
theorem vf{e:G0}{env:Env}:KpD (noteFrame e env):=by
 unfold noteFrame;cases env.frame with
 |none=>exact .uns
 |some f=>
  have last:∀head:G0,KpD (do setField e 1 (<-Jq head (<-PySem.frameOf env) .none (rawInt f) .none (<-entryPlaceOf f (head != .none)))):=fun head=>.bind sf fun _=>.bind yv fun _=>.bind zw fun _=>gF
  refine .bind jG fun head=>.ite (.bind jG fun x=>.ite .pure (.bind gF fun _=>last head)) (last head)
theorem l5{e:G0}{env:Env}:KpD (leaving env e):=.bind vf fun _=>fO
theorem KpD.any{α:Type}{t:Sem α}(k:KpD t){M:Model}{A:HM}{Q:α->G3->Prop}{E:G0->G3->Prop}{s:G3}(h:Hf M A t Q E s):Hf M A t (fun a s'=>Q a s'/\jv s.heap s'.heap) (fun _ _=>False) s:=fun Γ p hΓ=>k M Γ _ _ p s (h Γ p hΓ)
def xV(e:G0)(f:Addr)(h:Heap):Prop:=∃a oe vs T oT ts,e=.ref a/\h.get? a=some oe/\oe.data=.fields vs/\vs[1]?=some (.ref T)/\h.get? T=some oT/\oT.data=.fields ts/\ts[3]?=some (rawInt f)
section
variable{M:Model}{Γ:PySem.Ctx}{E:G0->Pos->G3->Prop}{p:Pos}{s:G3}
theorem jO{v:G0}{i:Nat}{Q:G0->Pos->G3->Prop}(h:wp M Γ (field v i) Q E p s):∃a o vs x,v=.ref a/\s.heap.get? a=some o/\o.data=.fields vs/\vs[i]?=some x/\Q x p s:=by
 unfold field fieldsOf at h;rw[Ii]at h;cases v<;>first|exact(show False from h).elim|skip
 rename_i a;rw[Ii]at h;obtain⟨o,e,h⟩:=(show ∃o,s.heap.get? a=some o/\_ from h);rw[Sem.wp_pure]at h;cases hd:o.data<;>rw[hd]at h<;>first|exact(show False from h).elim|skip
 rename_i vs;have h:wp M Γ (match vs[i]? with|some x=>(pure x:Sem G0)|none=>unsupported "internal:no-such-field") Q E p s:=h;cases hx:vs[i]? with
 |none=>rw[hx]at h;exact(show False from h).elim
 |some x=>rw[hx]at h;exact⟨a,o,vs,x,rfl,e,hd,hx,h⟩
theorem dz{a:Addr}{i:Nat}{o:Obj}{vs:Array G0}{x:G0}{Q:G0->Pos->G3->Prop}(e:s.heap.get? a=some o)(hd:o.data=.fields vs)(hx:vs[i]?=some x)(h:Q x p s):wp M Γ (field (.ref a) i) Q E p s:=by unfold field fieldsOf;rw[Ii,Ii];refine⟨o,e,?_⟩;rw[Sem.wp_pure,hd];show wp M Γ (match vs[i]? with|some x=>(pure x:Sem G0)|none=>unsupported "internal:no-such-field") Q E p s;rw[hx];exact h
theorem gi{v x:G0}{i:Nat}{Q:Unit->Pos->G3->Prop}(h:wp M Γ (setField v i x) Q E p s):∃a o vs,v=.ref a/\s.heap.get? a=some o/\o.data=.fields vs/\i<vs.size/\Q () p { s with heap:=s.heap.update a (Obj.mapFields (·.setIfInBounds i x)) }:=by
 unfold setField at h;cases v<;>first|exact(show False from h).elim|skip
 rename_i a;unfold updateField at h;rw[Ii]at h;obtain⟨o,e,h⟩:=(show ∃o,s.heap.get? a=some o/\_ from h);rw[Sem.wp_pure]at h;cases hd:o.data<;>rw[hd]at h<;>first|exact(show False from h).elim|skip
 rename_i vs;dsimp only at h;by_cases hi:i<vs.size
 ·rw[if_pos hi]at h;exact⟨a,o,vs,rfl,e,hd,hi,(show(s.heap.get? a).isSome/\_ from h).2⟩
 ·rw[if_neg hi]at h;exact(show False from h).elim
theorem dX{a:Addr}{x:G0}{i:Nat}{o:Obj}{vs:Array G0}{Q:Unit->Pos->G3->Prop}(e:s.heap.get? a=some o)(hd:o.data=.fields vs)(hi:i<vs.size)(h:Q () p { s with heap:=s.heap.update a (Obj.mapFields (·.setIfInBounds i x)) }):wp M Γ (setField (.ref a) i x) Q E p s:=by unfold setField updateField;show wp M Γ (PySem.load a >>= _) Q E p s;rw[Ii];refine⟨o,e,?_⟩;rw[Sem.wp_pure,hd];dsimp only;rw[if_pos hi];exact⟨by rw[e];rfl,h⟩
theorem nD{h:Heap}{a:Addr}{o:Obj}{g:Obj->Obj}(e:h.get? a=some o)(hg:g o=o):h.update a g=h:=by
 obtain⟨e1,_⟩:=Heap.get?_some_iff.mp e;obtain⟨objs,l⟩:=h;show Heap.mk (objs.modify a g) l=_
 congr 1
 refine Array.ext_getElem? fun i=>?_;rw[Array.getElem?_modify];by_cases z:a=i
 ·subst z;rw[if_pos rfl];have e1:objs[a]?=some o:=e1;rw[e1,Option.map_some,hg]
 ·rw[if_neg z]
theorem tj{e:G0}{env:Env}{f:Addr}{Q:Unit->Pos->G3->Prop}(hf:env.frame=some f)(h:wp M Γ (leaving env e) Q E p s) :
 wp M Γ (noteFrame e env) (fun _ p1 s1=>xV e f s1.heap/\wp M Γ (setFlight e none) Q E p1 s1) E p s:=by
 unfold leaving at h
 rw[Ii]at h
 unfold noteFrame at h ⊢
 rw[hf]at h ⊢
 dsimp only at h ⊢
 have last:∀(head:G0) (p:Pos) (s:G3),wp M Γ (do setField e 1 (<-Jq head (<-PySem.frameOf env) .none (rawInt f) .none (<-entryPlaceOf f (head != .none)))) (fun _ p1 s1=>wp M Γ (setFlight e none) Q E p1 s1) E p s->
  wp M Γ (do setField e 1 (<-Jq head (<-PySem.frameOf env) .none (rawInt f) .none (<-entryPlaceOf f (head != .none)))) (fun _ p1 s1=>xV e f s1.heap/\wp M Γ (setFlight e none) Q E p1 s1) E p s:=fun head p s h=>by
  rw[Ii]at h ⊢
  refine Sem.wp_mono M Γ _ (fun fr p1 s1 h1=>?_) (fun _ _ _ z=>z) p s h
  rw[Ii]at h1 ⊢
  refine Sem.wp_mono M Γ _ (fun pl p2 s2 h2=>?_) (fun _ _ _ z=>z) p1 s1 h1
  rw[Ii]at h2 ⊢
  obtain⟨hh,g,d,t,os⟩:=s2
  unfold Jq newFields newObj at h2 ⊢
  dsimp only at h2 ⊢
  generalize (if pl.isEmpty=true then Jx 6 Iu else pl)=r at h2 ⊢
  by_cases z:([head,fr,Iu,rawInt f,Iu]++r).toArray.size>GX+2
  ·rw[if_pos z]at h2;exact(show False from h2).elim
  rw[if_neg z]at h2 ⊢
  have h2:wp M Γ (setField e 1 (.ref hh.objs.size)) (fun _ p1 s1=>wp M Γ (setFlight e none) Q E p1 s1) E p2 ⟨hh.push { cls:=.type "traceback",data:=.fields ([head,fr,Iu,rawInt f,Iu]++r).toArray },g,d,t,os⟩:=h2
  show wp M Γ (setField e 1 (.ref hh.objs.size)) (fun _ p1 s1=>xV e f s1.heap/\wp M Γ (setFlight e none) Q E p1 s1) E p2 ⟨hh.push { cls:=.type "traceback",data:=.fields ([head,fr,Iu,rawInt f,Iu]++r).toArray },g,d,t,os⟩
  obtain⟨a,o,vs,rfl,ea,hd,hi,q⟩:=gi h2
  refine dX ea hd hi ⟨?_,q⟩
  have eT:(hh.push { cls:=.type "traceback",data:=.fields ([head,fr,Iu,rawInt f,Iu]++r).toArray }).get? hh.objs.size=some { cls:=.type "traceback",data:=.fields ([head,fr,Iu,rawInt f,Iu]++r).toArray }:=Hk _ rfl
  have dn:=Obj.data_mapFields hd (·.setIfInBounds 1 (Iq hh.objs.size))
  have ea':=IA (Obj.mapFields (·.setIfInBounds 1 (Iq hh.objs.size))) ea (Obj.isFreed_of_fields dn)
  by_cases ne:a=hh.objs.size
  ·subst ne
   rw[eT]at ea;cases ea
   cases hd
   exact⟨_,_,_,_,_,_,rfl,ea',dn,by simp,ea',dn,by simp⟩
  ·exact⟨a,_,_,hh.objs.size,_,_,rfl,ea',dn,by simp[hi],(Hs _ _ ne).trans eT,rfl,by simp⟩
 rw[Ii]at h ⊢
 obtain⟨a,o,vs,head,rfl,ea,hd,hx,h⟩:=jO h
 refine dz ea hd hx ?_
 by_cases z:(head != Iu)=true
 ·rw[if_pos z]at h ⊢
  rw[Ii]at h ⊢
  obtain⟨T,oT,ts,x3,rfl,eT,hT,h3,h⟩:=jO h
  refine dz eT hT h3 ?_
  by_cases y:(x3==rawInt f)=true
  ·rw[if_pos y]at h ⊢
   exact⟨⟨a,o,vs,T,oT,ts,rfl,ea,hd,hx,eT,hT,by rw[h3,beq_iff_eq.mp y]⟩,h⟩
  ·rw[if_neg y]at h ⊢
   rw[Ii]at h ⊢
   obtain⟨a',o',vs',e',ea',hd',hi,h⟩:=gi h
   cases e'
   refine dX ea' hd' hi ?_
   exact last _ _ _ h
 ·rw[if_neg z]at h ⊢
  exact last _ _ _ h
end
theorem mq{M:Model}{A:HM}{env:Env}{f:Addr}{Po:G0->Unit->G3->Prop}{E0:G0->G0->G3->Prop}(hf:env.frame=some f):PassesOwn M A env (fun e s'=>Hf M A (leaving env e) (Po e) (E0 e) s'):=by
 intro e s' h Γ p hΓ;have base:=tj (E:=fun _ _ _=>False) (Q:=fun a _ s''=>Po e a s'') hf (Sem.wp_mono M Γ _ (fun _ _ _ z=>z.1) (fun _ _ _ z=>z) p s' (l5 M Γ _ _ p s' (h Γ p hΓ)));refine Sem.wp_mono M Γ _ (fun _ p1 s1 z=>?_) (fun v p1 s1 z=>z.elim) p s' base;obtain⟨n,q⟩:=z;obtain⟨a,oe,vs,T,oT,ts,rfl,ea,hd,h1,eT,hT,h3⟩:=n;intro Γ' p' hΓ';have i3:3<ts.size:=(Array.getElem?_eq_some_iff.mp h3).1
 have same:s1.heap.update T (Obj.mapFields (·.setIfInBounds 3 (rawInt f)))=s1.heap:=by
  refine nD eT ?_;obtain⟨c,d,dt,sl⟩:=oT;cases hT;show Obj.mk c d (.fields (ts.setIfInBounds 3 (rawInt f))) sl=_
  congr 2
  refine Array.ext_getElem? fun i=>?_;by_cases z:3=i
  ·subst z;rw[Array.getElem?_setIfInBounds_self_of_lt i3,h3]
  ·rw[Array.getElem?_setIfInBounds_ne z]
 rw[Ii];refine dz ea hd h1 ?_;rw[if_neg (by intro z;cases (beq_iff_eq.mp z))];unfold setFlight;rw[Ii];refine dz ea hd h1 ?_;rw[if_pos (by simp),hf];refine dX eT hT i3 ?_;show Hf M A (leaving env (.ref a)) (Po (.ref a)) (E0 (.ref a)) { s1 with heap:=s1.heap.update T (Obj.mapFields (·.setIfInBounds 3 (rawInt f))) };rw[same];intro Γ2 p2 hΓ2;unfold leaving noteFrame;rw[Ii,hf];dsimp only;rw[Ii];refine dz ea hd h1 ?_;rw[if_pos (by simp),Ii];refine dz eT hT h3 ?_;rw[if_pos (by simp)];show wp M Γ2 (setFlight (.ref a) none) _ _ p2 s1;unfold setFlight at q ⊢;rw[Ii]at q ⊢;obtain⟨a',o',vs',x,e',ea',hd',hx,q⟩:=jO q;refine dz ea hd h1 ?_;cases e';rw[ea]at ea';cases ea';rw[hd]at hd';cases hd';rw[h1]at hx;cases hx;rw[if_pos (by simp)]at q ⊢;obtain⟨T',oT',ts',e',eT',hT',hi,q⟩:=gi q;cases e';exact dX eT hT i3 q
section
variable{prog:Hi}{w:HL}{A:HM}{E:G0->G3->Prop}{hp:Heap}{gs:Array GenState}{dr:Drawn}{tk:Nat}{sys:OsState}
variable{cn cq:Str}{C NS fI:Addr}{bss ups:List G0}{hdct:Bool}{sn:List Str}{sub:List G0}{ab:Bool}{col:Option Bool}{dd:Option Addr}{k0 k1 k2 k3 k5:Option G0}{mN:Str->Option G0}{us:List G0}{oI:Obj}
abbrev Aa(us:List G0):Obj:={ cls:=.type "tuple",data:=.seq us.toArray }
abbrev gb(C t:Addr)(d:Option Addr):Obj:={ cls:=.ref C,dict:=d,data:=.fields #[.ref t,.none,.none,.none,.bool false,.none] }
theorem wU(T:OwnTail hp veM ups)(hC:hp.get? C=some (excClassObj cn cq C NS bss ups hdct sn sub ab col dd k0 k1 k2 k3 k5 "ValueError.__new__"))(hN:hp.Ns NS mN)(hi:mN "__init__"=some (.ref fI))(ho:hp.get? fI=some oI)(hf:oI.cls=.type "function")(hl:us.length<=GX)
 {Q:PySem.Fin->G3->Prop} (k:∀h',(∀b o,hp.get? b=some o->h'.get? b=some o)->h'=(hp.push (Aa us)).push (gb C hp.objs.size none)->Hf (Hm prog w) A (call (.ref fI) (.ref (hp.objs.size+1)::us)) (fun r s'=>r=.none/\Q (.done (.ret (.ref (hp.objs.size+1)))) s') E ⟨h',gs,dr,tk,sys⟩) :
 Hf (Hm prog w) A (Builtin.«type.__call__» ⟨.ref C::us,[]⟩) Q E ⟨hp,gs,dr,tk,sys⟩:=by
 have FB:=F.excBase_ValueError
 repeat (first|with_reducible refine wpAny_loadPart_at hC ?_|with_reducible refine wpAny_madeBy_exc hC ?_|wp_step)
 refine codeAny_call_builtin_code (Code.quiet_builtin _ FB.quiet) (wpAny_check_new_subU FB (by decide) T hC ?_)
 refine codeAny_exc_new_subU FB (by decide) FB T hC ?_ hl
 show Hf _ _ _ _ _ _
 have kp:∀b o,hp.get? b=some o->((hp.push (Aa us)).push (gb C hp.objs.size none)).get? b=some o:=fun b o e=>G5 _ (G5 _ e)
 have hC1:=kp _ _ hC
 have hN1:=hN.keeps kp
 have T1:=T.keeps kp
 have he:((hp.push (Aa us)).push (gb C hp.objs.size none)).get? (hp.objs.size+1)=some (gb C hp.objs.size none):=Heap.get?_push_at (by simp) rfl
 have hcC:(Iq C::ups).contains (.ref C)=true:=by simp
 unfold isInstance
 repeat (first|with_reducible refine wpAny_loadPart_at he ?_|(with_reducible refine wpAny_isSubtype_exc hC1 ?_;rw[hcC])|wp_step)
 show Hf _ _ (typeLookup (.ref C) _) _ _ _
 refine wpAny_typeLookup_tail hC1 hN1 T1 FB.mroIs FB.init.lookup ?_
 rw[hi]
 refine IG (G2 ?_)
 unfold bindSpecial
 refine G2 (wpAny_typeOf (T:="function") ⟨_,kp _ _ ho,hf⟩ ?_)
 rw[if_pos (by decide)]
 refine Hd (G2 (HS (k _ kp rfl) (fun r s' z=>?_) fun _ _ z=>z))
 obtain⟨rfl,q⟩:=z
 wp_walk
 exact q
theorem wW(T:OwnTail hp veM ups)(hC:hp.get? C=some (excClassObj cn cq C NS bss ups hdct sn sub ab col dd k0 k1 k2 k3 k5 "ValueError.__new__"))(hN:hp.Ns NS mN)(hi:mN "__init__"=some (.ref fI))(ho:hp.get? fI=some oI)(hf:oI.cls=.type "function")(hl:us.length<=GX)
 {Q:G0->G3->Prop} (k:∀h',(∀b o,hp.get? b=some o->h'.get? b=some o)->h'=(hp.push (Aa us)).push (gb C hp.objs.size none)->Hf (Hm prog w) (A.under (.builtin "type.__call__" ⟨.ref C::us,[]⟩)) (call (.ref fI) (.ref (hp.objs.size+1)::us)) (fun r s'=>r=.none/\Q (.ref (hp.objs.size+1)) s') E ⟨h',gs,dr,tk,sys⟩) :
 Hf (Hm prog w) A (call (.ref C) us) Q E ⟨hp,gs,dr,tk,sys⟩:=by
 have f1:=tc_lookup
 have f2:=tc_bind (.ref C)
 have hT:(⟨hp,gs,dr,tk,sys⟩:G3).TypeIs (.ref C) "type":=⟨_,hC,rfl⟩
 refine wpAny_call (codeAny_of_tree ?_)
 show Hf _ _ (callAny (.ref C) _) _ _ _
 repeat (any_goals (first|assumption|with_reducible refine wpAny_loadPart_at hC ?_|wp_step))
 refine⟨rfl,codeAny_call_builtin_at (Code.quiet_builtin _ (by decide +kernel)) entry_typeCall (wpAny_check_type_call_sub hC (wU T hC hN hi ho hf hl fun h' a b=>?_))⟩
 exact k h' a b
end
open PySem.W (Frag findIn subIn clsIn nsIn typeIn keepIn looks_findIn looks_subIn looks_clsIn Looks)
theorem Fe{K:Frag}{h:Heap}{N:Addr}{mg:Str->Option G0}{n:Str}{v:G0}(X:K.In h)(G:h.Ns N mg)(e:nsIn K N n=some (some v)):mg n=some v:=by
 obtain⟨o,es,ep,ho,hd,_,hf⟩:=G;unfold nsIn at e;split at e
 ·rename_i ks ks' n' _ hl;have:=X _ _ hl;rw[ho]at this;cases this;cases hd;rw[<-hf];unfold nsFind findBy;rw[<-Array.find?_toList];split at e
  ·rename_i en he;rw[he];cases e;rfl
  ·split at e<;>cases e
 ·cases e
structure ClsI(K:Frag)(C S fI:Addr):Prop where
 lk:∃cn cq NS bss hdct sn sub ab col dd k0 k1 k2 k3 k5,K.lookup C=some (excClassObj cn cq C NS bss (.ref S::veM) hdct sn sub ab col dd k0 k1 k2 k3 k5 "ValueError.__new__")/\PySem.W.nsOkIn K NS=true/\nsIn K NS "__init__"=some (some (.ref fI))
 tl:PySem.W.tailIn K veM (.ref S::veM)=true
 fn:typeIn K (.ref fI)=some (.type "function")
 kp:keepIn K (.ref C)=true
 hd:Ji K C=true
 sa:findIn K (.ref C) "__setattr__"=some (some (.builtin "object.__setattr__"))
 ob:subIn K (.ref C) (.type "object")=some true
theorem ClsI.at{K:Frag}{C S fI:Addr}(c:ClsI K C S fI){h:Heap}(X:K.In h):∃cn cq NS bss hdct sn sub ab col dd k0 k1 k2 k3 k5 mN oI,h.get? C=some (excClassObj cn cq C NS bss (.ref S::veM) hdct sn sub ab col dd k0 k1 k2 k3 k5 "ValueError.__new__")/\h.Ns NS mN/\mN "__init__"=some (.ref fI)/\h.get? fI=some oI/\oI.cls=.type "function"/\OwnTail h veM (.ref S::veM):=by
 obtain⟨cn,cq,NS,bss,hdct,sn,sub,ab,col,dd,k0,k1,k2,k3,k5,l,ok,ni⟩:=c.lk;have hN:h.Ns NS (h.nsMap NS):=.of_isNs (PySem.W.isNs_of_in X ok);have hf:=c.fn;unfold typeIn at hf;dsimp only at hf;cases ho:K.lookup fI with
 |none=>rw[ho]at hf;cases hf
 |some oI=>
  rw[ho]at hf
  exact⟨cn,cq,NS,bss,hdct,sn,sub,ab,col,dd,k0,k1,k2,k3,k5,_,oI,X _ _ l,hN,Fe X hN ni,X _ _ ho,Option.some.inj hf,PySem.W.tail_of_in X c.tl⟩
section
variable{prog:Hi}{w:HL}{A:HM}{E:G0->G3->Prop}{s:G3}{K:Frag}{C S fI a t dx:Addr}{dd:Option Addr}{x v:G0}{name:Str}{mA:Str->Option G0}{oe:Obj}
theorem wH(c:ClsI K C S fI)(X:K.In s.heap)(ha:s.heap.get? a=some (gb C t dd)){Q:G0->G3->Prop}
 (k:∀h',(∀b o,b≠a->s.heap.get? b=some o->h'.get? b=some o)->h'.get? a=some (gb C s.heap.objs.size dd)->Q .none { s with heap:=h' }) :
 Hf (Hm prog w) A (call (.builtin "ValueError.__init__") [.ref a,x]) Q E s:=by
 obtain⟨cn,cq,NS,bss,hdct,sn,sub,ab,col,dd',k0,k1,k2,k3,k5,mN,oI,hC,hN,hi,ho,hf,T⟩:=c.at X
 obtain⟨hp,gs,dr,tk,sys⟩:=s
 have FB:=F.excBase_ValueError
 refine wpAny_call (JJ FB.init.plain FB.initEntry (wpAny_check_init_subU FB T hC ha rfl ?_))
 wp_walk
 refine k _ (fun b o ne e=>?_) ?_
 ·rw[Hs _ _ (Ne.symm ne)]
  exact G5 _ e
 ·rw[IA _ (G5 _ ha) rfl]
  rfl
theorem qA(ha:s.heap.get? a=some (gb C t none)):PySem.W.InstAt s.heap a (gb C t none) C none:=⟨ha,rfl,rfl,trivial⟩
theorem uk{ox:Obj}{od:Option Obj}{tk:Tok}{R:Result->G3->Prop}(c:ClsI K C S fI)(X:K.In s.heap)(I:PySem.W.InstAt s.heap a ox C od)(hn:findIn K (.ref C) name=some none)
 (h:Hf (Hm prog w) A.in1 (Builtin.ObjectAttr.storeInOwnDict (.ref a) (.ref C) (.str name tk) name v false)
  (fun fin s'=>match fin with|.done f=>R (.ok f) s'|.again c'=>c'.quiet=true/\codeAny (Hm prog w) A c' R s') (fun e s'=>R (.error e) s') s) :
 codeAny (Hm prog w) A (.call (.builtin "object.__setattr__") ⟨[.ref a,.str name tk,v],[]⟩) R s:=by
 have SF:=F.store_ValueError
 obtain⟨cn,cq,NS,bss,hdct,sn,sub,ab,col,dd',k0,k1,k2,k3,k5,mN,oI,hC,_⟩:=c.at X
 have LI:Looks (Hm prog w) s.heap (isInstance (.ref a) (.type "object")) true:=I.type.andThen (looks_subIn X c.ob)
 refine JJ SF.slot.plain SF.entry (PySem.W.check_slot (M:=Hm prog w) (s:=s) (i:="object.__setattr__") (owner:="object") (n:="__setattr__") (self:=.ref a) (rest:=[.str name tk,v]) (kw:=[]) SF.kind SF.split LI (SF.args (.ref a) (.str name tk) v) ?_)
 rw[PySem.W.osa_eq,refuse_eq]
 obtain⟨hp,gs,dr,tk',sys⟩:=s
 refine G2 (G2 (I.type.here (G2 (wpAny_mroOf_exc hC ?_))))
 rw[refuseLoop_ref,refuseLoop_ref,SF.passes]
 refine Hd (G2 (I.type.here (G2 ((looks_findIn X hn).here (G2 (Hd ?_))))))
 exact h
theorem Au{Q:Unit->G3->Prop}(c:ClsI K C S fI)(X:K.In s.heap)(ha:s.heap.get? a=some (gb C t none))(hn:findIn K (.ref C) name=some none)
 (k:∀h' tk',(∀b o,b≠a->s.heap.get? b=some o->h'.get? b=some o)->h'.get? a=some (gb C t (some s.heap.objs.size))->h'.Ns1 s.heap.objs.size (fun y=>if y=name then some v else none)->Q () { s with heap:=h',toks:=tk' }) :
 Hf (Hm prog w) A (setAttr (.ref a) name v) Q E s:=by
 refine PySem.W.set_plain X (qA ha) c.sa (uk (s:={ s with toks:=s.toks+1 }) c X (qA ha) hn ?_)
 obtain⟨cd,hc,hd⟩:=PySem.W.any_some c.hd
 have L:=looks_clsIn (M:=Hm prog w) X hc
 obtain⟨hp,gs,dr,tk,sys⟩:=s
 have hxs:a≠hp.objs.size:=HJ (Hb ha)
 refine G2 (Hd (G2 (G2 (wpAny_loadPart ha (G2 (PySem.W.Looks.at L ?_))))))
 rw[hd]
 refine G2 (wpAny_alloc' (G2 (wpAny_update' (G5 _ ha) (Hd ?_))))
 have gd:((hp.push { cls:=.type "dict",data:=.dict #[] }).update a fun o=>{ cls:=o.cls,dict:=some hp.objs.size,data:=o.data,slots:=o.slots }).get? hp.objs.size=some { cls:=.type "dict",data:=.dict #[] }:=
  (Hs _ _ hxs).trans (Heap.get?_push_at rfl rfl)
 have nd:((hp.push { cls:=.type "dict",data:=.dict #[] }).update a fun o=>{ cls:=o.cls,dict:=some hp.objs.size,data:=o.data,slots:=o.slots }).Ns hp.objs.size (fun _=>none):=⟨_,#[],_,gd,rfl,fun e he=>absurd he (by simp),fun _=>rfl⟩
 show Hf _ _ (J4 hp.objs.size _ name v) _ _ _
 unfold J4 Builtin.ObjectAttr.newKeyGuard
 refine G2 (Hd (G2 (wpAny_nsSet1 (Heap.Ns1.of_empty nd) fun h' n1 sb=>?_)))
 obtain⟨oD,esD,epD,hoD,hdD,hcD⟩:=n1.count (Within.cons name v Within.nil)
 refine G2 (wpAny_lookBehind hoD (by rw[hdD];exact pastItsLine_dict (He hcD (by rw[Hw,IC,sizeLine_eq];omega))) ?_)
 wp_walk
 refine k h' _ (fun b o ne e=>?_) ?_ n1
 ·exact(sb.2 b (HJ (Hb e))).trans ((Hs _ _ (Ne.symm ne)).trans (G5 _ e))
 ·exact(sb.2 a hxs).trans (IA _ (G5 _ ha) rfl)
theorem oa{od:Obj}(ha:s.heap.get? a=some (gb C t (some dx)))(hd:s.heap.get? dx=some od):PySem.W.InstAt s.heap a (gb C t (some dx)) C (some od):=⟨ha,rfl,rfl,hd⟩
theorem yl{ns:List Str}{Q:Unit->G3->Prop}(c:ClsI K C S fI)(X:K.In s.heap)(ha:s.heap.get? a=some (gb C t (some dx)))(hm:s.heap.Ns1 dx mA)(hw:Within mA ns)(hz:ns.length<=1000)(hn:findIn K (.ref C) name=some none)
 (k:∀h' tk',(∀b o,b≠dx->s.heap.get? b=some o->h'.get? b=some o)->h'.Ns1 dx (fun y=>if y=name then some v else mA y)->Q () { s with heap:=h',toks:=tk' }) :
 Hf (Hm prog w) A (setAttr (.ref a) name v) Q E s:=by
 obtain⟨od,hod,_⟩:=nJ hm
 refine PySem.W.set_plain X (oa ha hod) c.sa (uk (s:={ s with toks:=s.toks+1 }) c X (oa ha hod) hn ?_)
 obtain⟨cd,hc,hd⟩:=PySem.W.any_some c.hd
 have L:=looks_clsIn (M:=Hm prog w) X hc
 obtain⟨hp,gs,dr,tk,sys⟩:=s
 refine G2 (Hd (G2 (G2 (wpAny_loadPart ha (G2 (PySem.W.Looks.at L ?_))))))
 rw[hd]
 refine Hd (a:=some dx) ?_
 show Hf _ _ (J4 dx _ name v) _ _ _
 unfold J4 Builtin.ObjectAttr.newKeyGuard
 refine G2 (Hd (G2 (wpAny_nsSet1 hm fun h' n1 sb=>?_)))
 obtain⟨oD,esD,epD,hoD,hdD,hcD⟩:=n1.count (Within.cons name v hw)
 refine G2 (wpAny_lookBehind hoD (by rw[hdD];exact pastItsLine_dict (He hcD (by rw[Hw,sizeLine_eq];omega))) ?_)
 wp_walk
 exact k h' _ (fun b o ne e=>(sb.2 b ne).trans e) n1
theorem AB{expr:Bool}{Q:G0->G3->Prop}(sl:Slot "ValueError" "__getattribute__" "BaseException.__getattribute__")(X:K.In s.heap)(Z:ErrC K C)(hh:Ji K C=true)(ha:s.heap.get? a=some oe)(hc:oe.cls=.ref C)(hnc:PySem.W.notCls oe=true)(hd:oe.dict=some dx)(hm:s.heap.Ns1 dx mA)(hv:mA name=some v)(hn:findIn K (.ref C) name=some none)(hvh:PySem.W.handedIn v=true)
 (h:Q v { s with toks:=s.toks+1 }):Hf (Hm prog w) A (getAttr (.ref a) name expr) Q E s:=by
 obtain⟨od,hod,hl⟩:=nJ hm
 have I:PySem.W.InstAt s.heap a oe C (some od):=⟨ha,hc,hnc,by rw[hd];exact hod⟩
 have hf:=PySem.W.findObj_own (K:=K) (C:=C) (od:=od) hh hn rfl (by rw[hl,hv])
 obtain⟨hp,gs,dr,tk,sys⟩:=s
 have L0:=eN (M:=Hm prog w) ha hc
 have L1:=looks_findIn (M:=Hm prog w) X Z.ga
 have L2:=looks_findIn (M:=Hm prog w) X Z.gt
 have LF:=PySem.W.looks_find (M:=Hm prog w) X I hf
 have f3:=sl.bind (.ref a)
 have hx0:(expr&&onTheHeap (J9 "BaseException.__getattribute__"))=false:=by cases expr<;>rfl
 have ne2:(J9 "BaseException.__getattribute__"==J9 "object.__getattribute__")=false:=by decide +kernel
 have ne1:(onTheHeap (Iq C)&&J9 "BaseException.__getattribute__"==J9 "object.__getattribute__")=false:=by rw[ne2];rfl
 have ho:=PySem.W.handedOut_of hvh
 unfold getAttr
 repeat (any_goals (first|assumption|with_reducible refine Looks.at L0 ?_|with_reducible refine Looks.at L1 ?_|with_reducible refine Looks.at L2 ?_|wp_step))
 refine JJ sl.plain F.entry_bexc_ga (nK X Z ha hc ?_)
 unfold Builtin.«object.__getattribute__»
 repeat (any_goals (first|assumption|with_reducible refine Looks.at L0 ?_|with_reducible refine Looks.at LF ?_|wp_step))
end
def gx(a C:Addr)(dd:Option Addr):Heap->Prop:=fun h=>∃t,h.get? a=some (gb C t dd)
def rz(a C:Addr)(dd:Option Addr):Heap->Prop:=fun h=>∃o,h.get? a=some o/\o.cls=.ref C/\o.dict=dd/\PySem.W.notCls o=true
def lG(d:Addr)(fs:List (Str×V)):Heap->Prop:=fun h=>∃mA,h.Ns1 d mA/\(∀f,qN (fs.lookup f) (mA f))/\Within mA (fs.map (·.1))
theorem okG{P:Hi}{w:HL}{H:Hp}{h:Heap}{a C t:Addr}{dd:Option Addr}(e:h.get? a=some (gb C t dd)):cY P w H h a (.ext (gx a C dd)):=⟨⟨t,e⟩,⟨_,e⟩,fun h1 h2 z k=>let⟨t,q⟩:=z;⟨t,k _ q⟩⟩
theorem okX{P:Hi}{w:HL}{H:Hp}{h:Heap}{a C:Addr}{dd:Option Addr}(e:rz a C dd h):cY P w H h a (.ext (rz a C dd)):=⟨e,let⟨o,q,_⟩:=e;⟨o,q⟩,fun h1 h2 z k=>let⟨o,q,r⟩:=z;⟨o,k _ q,r⟩⟩
theorem okF{P:Hi}{w:HL}{H:Hp}{h:Heap}{d:Addr}{fs:List (Str×V)}(e:lG d fs h):cY P w H h d (.ext (lG d fs)):=⟨e,let⟨_,⟨o,_,_,q,_⟩,_⟩:=e;⟨o,q⟩,fun h1 h2 z k=>let⟨mA,⟨o,es,ep,q,r⟩,z⟩:=z;⟨mA,⟨o,es,ep,k _ q,r⟩,z⟩⟩
def cJ(P:Hi)(w:HL):CXT:=fun outer H s E e s'=>∃a C dd H',e=.ref a/\Fly P w outer H H' s s' a C/\(∃o,s'.heap.get? a=some o/\o.dict=dd)/\E (.ref C) dd H'
def gI(H:Hp)(a:Addr):Hp:=fun b=>if b=a then none else H b
theorem d6{H:Hp}{a b:Addr}(h:b≠a):gI H a b=H b:=by unfold gI;rw[if_neg h]
theorem tX{H:Hp}{a:Addr}:gI H a a=none:=by unfold gI;rw[if_pos rfl]
theorem tL{H:Hp}{a b:Addr}{o:HO}(h:gI H a b=some o):b≠a/\H b=some o:=by
 unfold gI at h;split at h
 ·cases h
 ·rename_i n;exact⟨n,h⟩
section
variable{P:Hi}{w:HL}{K:cc}{mg:Str->Option G0}{base:Heap}{N:List Str}{qual:Str}{scope:JH}{f:Addr}{cd:G0}{A:HM}{outer:List Env}{s:G3}{H:Hp}{E:XK}
theorem CL{CX CX':CXT}{E':XK}{pins:List (Addr×Obj)}{σ:L2.St}{H1:Hp}{s1:G3}(I:Inv (bQ CX P w K mg base N qual scope f cd A outer s H E) pins σ H1 s1):Inv (bQ CX' P w K mg base N qual scope f cd A outer s H E') pins σ H1 s1:=Inv.mR I (bQ CX' P w K mg base N qual scope f cd A outer s H E').xe
theorem yF:PassesOwn (Hm P w) (bQ (cJ P w) P w K mg base N qual scope f cd A outer s H E).A (bQ (cJ P w) P w K mg base N qual scope f cd A outer s H E).env (bQ (cJ P w) P w K mg base N qual scope f cd A outer s H E).xe:=mq (f:=s.heap.objs.size) (Po:=fun e _ s''=>cJ P w outer H s E e s'') (E0:=fun e e' s''=>cJ P w outer H s E e' s'') rfl
theorem vN{pins:List (Addr×Obj)}{σ:L2.St}{H2:Hp}{s2:G3}{a C t:Addr}{dd:Option Addr}{φ:Heap->Prop}(I:Inv (bQ (cJ P w) P w K mg base N qual scope f cd A outer s H E) pins σ H2 s2)(hx:H2 a=some (.ext φ))(ho:s2.heap.get? a=some (gb C t dd))(hn:s.heap.get? a=none)(q:E (.ref C) dd (gI H2 a)) :
 (bQ (cJ P w) P w K mg base N qual scope f cd A outer s H E).xe (.ref a) s2:=by
 have ex0:∀x:Addr,x∉(bQ (cJ P w) P w K mg base N qual scope f cd A outer s H E).ex:=fun x z=>absurd (show x∈([]:List Addr)from z) (by simp)
 have na:∀x,H2 x=none->x≠a:=fun x n z=>by rw[z,hx]at n;cases n
 have stays:(km s2.heap (a::frs (bQ (cJ P w) P w K mg base N qual scope f cd A outer s H E).stack)).StaysIn s2.heap:=fun b o z=>(sY z).2
 have stk:∀{x:Addr} {o:Obj},s.heap.get? x=some o->x∉frs outer->x∉a::frs (bQ (cJ P w) P w K mg base N qual scope f cd A outer s H E).stack:=fun{x o} e n m=>by
  rcases Hr.mp m with z|z
  ·rw[z,hn]at e;cases e
  ·exact zI (E:=E) (CL I) e n z
 refine HS (KpD.any l5 (wpAny_leaving_firstW (E:=fun _ _=>False) (base:=km s2.heap (a::frs (bQ (cJ P w) P w K mg base N qual scope f cd A outer s H E).stack)) (outer:=outer) (L:=(bQ (cJ P w) P w K mg base N qual scope f cd A outer s H E).env.locals) (a0:=.ref t) I.ok.frames (rO I.stack fun b hb=>gP (GZ _ hb)) rfl ho stays (gP Hx) rfl rfl rfl (Q:=fun _ s'=>Fly P w outer H (gI H2 a) s s' a C) fun h' L=>?_)) (fun _ s'' z=>?_) (fun _ _ z=>z.elim)
 ·obtain⟨k1,⟨_,_,k2⟩,k3,k4⟩:=L
  refine⟨I.os,I.bare,⟨_,_,⟨k1,gP Hx,k2,k3⟩,fun x o z=>?_,fun x o e1 n nf=>?_,fun x o e1 nf=>?_⟩,fun x o e1 n mf=>?_,fun x o e1 n=>?_,fun b xs z=>?_,fun b o u z=>?_,fun b ps z=>?_⟩
  ·obtain⟨nx,z⟩:=tL z
   refine(I.hok x o z).gw (fun b u hb g=>?_) (fun b z=>?_) fun b xs z=>?_
   ·rw[fE]
    ·exact g
    ·intro mm
     rcases Hr.mp mm with y|y
     ·rcases hb with hb|hb
      ·exact nx (hb.symm.trans y)
      ·rw[y,hx]at hb;cases hb
     ·have:=I.iB b y
      rcases hb with hb|hb
      ·rw[hb,z]at this;cases this
      ·rw[hb]at this;cases this
   ·rw[d6 (fun y=>by rw[y,hx]at z;cases z)];exact z
   ·rw[d6 (fun y=>by rw[y,hx]at z;cases z)];exact z
  ·rw[fE (stk e1 nf)]
   exact I.base.keep x o e1 n nf (ex0 x)
  ·rw[fE (stk e1 nf)]
   exact I.base.there x o e1 (ex0 x)
  ·obtain⟨sl,g⟩:=I.base.slot x o e1 n mf (ex0 x)
   obtain⟨o',g',d⟩:=kZ I.jc mf
   rw[g]at g';cases g'
   obtain⟨sl',g2⟩:=k4 x _ g d
   exact⟨sl',g2⟩
  ·have:=I.base.free x o e1 n (ex0 x)
   rw[d6 (na x this)];exact this
  ·have:=I.base.tups b xs z
   rw[d6 (fun y=>by rw[y,hx]at this;cases this)];exact this
  ·have:=I.base.frzs b o u z
   rw[d6 (fun y=>by rw[y,hx]at this;cases this)];exact this
  ·obtain⟨more,this⟩:=I.base.tbls b ps z
   exact⟨more,by rw[d6 (fun y=>by rw[y,hx]at this;cases this)];exact this⟩
 ·obtain⟨F,sd⟩:=z
  obtain⟨o',g',d'⟩:=sd a _ ho
  exact⟨a,C,dd,_,rfl,F,⟨o',g',d'⟩,q⟩
end
section
variable{X:Cx}{k:Nat}{fI C S:Addr}{fd:Jc}{ps:List Str}{sp:Sp}{c:Str}{np cpos pos:Pos}{e:Expr}{es:List Expr}{t:TA}
theorem z7{pins:List (Addr×Obj)}{σ:L2.St}{H:Hp}{s:G3}{Q:VK}{us:List G0}{vs:List V}(M:ClsI X.K C S fI)(F:FnOk X.prog X.w X.K X.mg X.base CX0 k fI fd ps sp)(hr:Room (k+1) X.A)(hb:Binds X.K fd ps [])(I:Inv X pins σ H s)(r:Vals vs us)(hl:us.length<=GX)
 (h:∀a,H a=none->sp (.ref a::vs) (upd H a (.ext (gx a C none))) (fun v H2=>v=.non/\Q (.ref a) H2) E0) :
 Hf (Hm X.prog X.w) X.A (call (.ref C) us) (fun u s'=>∃a H2,u=.ref a/\s.heap.get? a=none/\Inv X pins σ H2 s'/\Q (.ref a) H2) X.xe s:=by
 obtain⟨cn,cq,NS,bss,hdct,sn,sub,ab,col,dd,k0,k1,k2,k3,k5,mN,oI,hC,hN,hi,ho,hf,T⟩:=M.at I.kIn
 have hq:=h (s.heap.objs.size+1) (I.hok.fresh (Nat.le_succ _))
 obtain⟨hp,gs,dr,tk,sys⟩:=s
 refine wW T hC hN hi ho hf hl fun h' kp eh=>?_
 have he:h'.get? (hp.objs.size+1)=some (gb C hp.objs.size none):=by rw[eh];exact Heap.get?_push_at (by simp) rfl
 have I2:Inv X pins σ (upd H (hp.objs.size+1) (.ext (gx (hp.objs.size+1) C none))) ⟨h',gs,dr,tk,sys⟩:=I.laid (t':=tk) kp (Nat.le_succ _) (okG he)
 have r2:Vals (V.ref (hp.objs.size+1)::vs) (Iq (hp.objs.size+1)::us):=.cons rfl r
 have hl2:((Iq (hp.objs.size+1)::us)++[]).length=ps.length:=by rw[J0,<-r2.length];exact F.len _ _ _ _ hq
 have hbb:=hb ⟨h',gs,dr,tk,sys⟩ (Iq (hp.objs.size+1)::us) I2.kIn hl2
 rw[J0]at hbb
 refine wpAny_call (codeAny_mono (F.run _ X.stack _ _ ⟨Iq (hp.objs.size+1)::us,[]⟩ (Iq (hp.objs.size+1)::us) _ _ E0 (hr.make C us []) (I2.Cm.make C us []) hbb r2 hq) fun r s' hq'=>?_)
 cases r with
 |error e=>exact IU hq'
 |ok fl=>
  cases fl with
  |ret u=>
   obtain⟨v,H',I3,rv,ev,q3⟩:=I2.after hq'
   subst ev
   exact⟨rv,_,H',rfl,Heap.get?_none_of_le (Nat.le_succ _),I3,q3⟩
  |next=>exact IU hq'
  |brk=>exact IU hq'
  |cont=>exact IU hq'
theorem A2(hex:X.ex=[]){pins:List (Addr×Obj)}{σ:L2.St}{H:Hp}{s:G3}{Q:VK}(M:ClsI X.K C S fI)(F:FnOk X.prog X.w X.K X.mg X.base CX0 k fI fd ps sp)(hr:Room (k+1) X.A)(hb:Binds X.K fd ps [])(hg:Gl X c)(hm:X.mg c=some (.ref C))(ha:PA X (e::es) t)(hdb:(c==("__debug__":Str))=false)(he:Hc (e::es) X.env=(false,eval e X.env)::Hc es X.env)(hpl:(IV cpos (Hc es X.env)).any (·.1)=false)(I:Inv X pins σ H s) (h:t σ H fun vs H1=>vs.length<=GX/\∀a,H1 a=none->sp (.ref a::vs) (upd H1 a (.ext (gx a C none))) (fun v H2=>v=.non/\Q (.ref a) H2) E0) : Hf (Hm X.prog X.w) X.A (eval (.Call (.Name c np) (e::es) [] cpos) X.env) (fun u s'=>∃a H2,u=.ref a/\X.s₀.heap.get? a=none/\Inv X pins σ H2 s'/\Q (.ref a) H2) X.xe s:=by
 refine wpAny_Call_Name_kw (ig I hg hm ?_ hdb);refine PySem.W.callWith_K (h₀:=X.base) I.ok.mod.kin M.kp (thn (ha cpos pins s σ H _ I h) fun us s1 ⟨vs,H1,I1,r,hl,q⟩=>⟨I1.kIn,?_⟩) he hpl;refine thn (z7 (us:=us) M F hr hb I1 r (by rw[<-r.length];exact hl) q) fun u s' ⟨a,H2,eu,en,I2,q2⟩=>⟨a,H2,eu,?_,I2,q2⟩;cases z:X.s₀.heap.get? a with
 |none=>rfl
 |some o=>
  obtain⟨o',g⟩:=I1.base.there a o z (by rw[hex];simp)
  rw[en]at g;cases g
def GP(C:Addr)(sp:Sp)(t:TA):TE:=fun σ H Q=>t σ H fun vs H1=>vs.length<=GX/\∀a,H1 a=none->sp (.ref a::vs) (upd H1 a (.ext (gx a C none))) (fun v H2=>v=.non/\Q (.ref a) H2) E0
end
section
variable{M:Model}{A:HM}{E:G0->G3->Prop}{s:G3}{env:Env}{K:cc}
theorem wJ{x:Sem G0}{Q:Flow->G3->Prop}(hh:A.handled=none)
 (h:Hf M A x (fun v s1=>∃a C t dd oC,v=.ref a/\s1.heap.get? a=some (gb C t dd)/\(s1.heap.get? C=some oC/\oC.cls=.type "type")/\K.In s1.heap/\HY K (.ref C) (.type "BaseException")=some true/\E (.ref a) s1) E s):Hf M A (raiseStmt env (some x) none) Q E s:=by
 unfold raiseStmt
 refine G2 (HS h (fun v s1 z=>?_) fun _ _ z=>z)
 obtain⟨a,C,t,dd,oC,rfl,ha,⟨hC,hCc⟩,X,hB,q⟩:=z
 have L0:=eN (M:=M) ha rfl
 have L1:=PySem.W.looks_subIn (M:=M) X hB
 obtain⟨hp,gs,dr,tk,sys⟩:=s1
 unfold excFromValue isExcClass isType isInstance
 repeat (first|with_reducible refine wpAny_loadPart_at ha ?_|(with_reducible refine wpAny_loadPart_at hC ?_;rw[hCc])|with_reducible refine PySem.W.Looks.at L0 ?_|with_reducible refine PySem.W.Looks.at L1 ?_|wp_step)
 exact wpAny_raiseNew_none hh q
end
section
variable{P:Hi}{w:HL}{K:cc}{mg:Str->Option G0}{base:Heap}{N:List Str}{qual:Str}{scope:JH}{f:Addr}{cd:G0}{A:HM}{outer:List Env}{s:G3}{H:Hp}{E:XK}
variable{k:Nat}{fI C S:Addr}{fd:Jc}{ps:List Str}{sp:Sp}{c:Str}{np cpos pos:Pos}{e:Expr}{es:List Expr}{t:TA}
theorem wR(M:ClsI K C S fI)(hB:HY K (.ref C) (.type "BaseException")=some true)(F:FnOk P w K mg base CX0 k fI fd ps sp)(hr:Room (k+1) (bQ (cJ P w) P w K mg base N qual scope f cd A outer s H E).A)(hb:Binds K fd ps [])(hg:Gl (bQ (cJ P w) P w K mg base N qual scope f cd A outer s H E) c)(hm:mg c=some (.ref C))(ha:PA (bQ (cJ P w) P w K mg base N qual scope f cd A outer s H E) (e::es) t)(hdb:(c==("__debug__":Str))=false) (he:Hc (e::es) (bQ (cJ P w) P w K mg base N qual scope f cd A outer s H E).env=(false,eval e (bQ (cJ P w) P w K mg base N qual scope f cd A outer s H E).env)::Hc es (bQ (cJ P w) P w K mg base N qual scope f cd A outer s H E).env) (hpl:(IV cpos (Hc es (bQ (cJ P w) P w K mg base N qual scope f cd A outer s H E).env)).any (·.1)=false) : PS (bQ (cJ P w) P w K mg base N qual scope f cd A outer s H E) (.Raise (some (.Call (.Name c np) (e::es) [] cpos)) none pos) (fun D σ H1=>GP C sp t σ H1 fun v H2=>∃a dd,v=.ref a/\H2 a=some (.ext (gx a C dd))/\E (.ref C) dd (gI H2 a)):=by intro pins s1 σ H1 D I q;rw[arm_exec_Raise];refine G2 (JL (wJ (K:=K) (I.ok.hd rfl) (G2 (HS (A2 (Q:=fun v H2=>∃a dd,v=.ref a/\H2 a=some (.ext (gx a C dd))/\E (.ref C) dd (gI H2 a)) rfl M F hr hb hg hm ha hdb he hpl I q) (fun u s' z=>G2 (JL (Hd ?_))) fun _ _ z=>z))));obtain⟨a,H2,rfl,en,I2,a',dd,ea,hx,q2⟩:=z;cases ea;obtain⟨⟨t0,g⟩,_⟩:=I2.hok a _ hx;obtain⟨_,_,_,_,_,_,_,_,_,_,_,_,_,_,_,_,_,hC,_⟩:=M.at I2.kIn;exact⟨a,C,t0,dd,_,rfl,g,⟨hC,rfl⟩,I2.kIn,hB,vN I2 hx g en q2⟩
end
structure ErrK(K:cc)(C:Addr):Prop where
 c:ErrC K C
 s:(PySem.W.clsIn K C).isSome=true
def Gm:D->Option G0
 |.ty n=>some (.type n)
 |.ref d=>some (.ref d)
 |_=>none
section
variable{X:Cx}
def Af:V->List V->Hp->VK->Prop:=fun x vs H Q=>∃l,∃bs:List Bool,x=.ref l/\vs=[.bl true]/\H l=some (.lst (bs.map V.bl))/\Q (.int ((bs.countP (·==true):Nat):Int)) H
theorem yd:MtM X "list.count" Af:=by
 intro pins s σ H x vs v us Q I rx rv z0;obtain⟨l,bs,ex,ev,hH,q⟩:=z0;subst ex ev;cases rx;obtain⟨u1,rfl,r1⟩:=rv.one;cases (show u1=IM true from r1);obtain⟨z,its,n,r,hl,e⟩:=I.xP hH;have hits:=fN r;subst hits;refine call_meets PySem.F.slot_list_count ⟨_,e,rfl⟩ PySem.F.entry_list_count (PySem.F.args_list_count_2 _ _) (PySem.SeqAt.list_countAt l (bs.map IM).toArray n none #[] (.bool true) (fun y=>match y with|.bool b=>b==true|_=>false)) ⟨e,fun y hy=>?_,?_⟩
 ·simp only[List.mem_toArray,IB]at hy;obtain⟨b,_,rfl⟩:=hy;exact PySem.SeqAt.EqAt.bool_bool b true
 ·refine⟨.int _,H,I.tok _,⟨_,rfl⟩,?_⟩
  have:List.countP (fun y=>match y with|IM b=>b==true|_=>false) (bs.map IM)=bs.countP (·==true):=by
   rw[List.countP_map];rfl
  show Q (.int ((List.countP _ (bs.map IM):Nat):Int)) H;rw[this];exact q
def FC(to:TD)(t:TAD):TD:=fun δ M Q=>to δ M fun x M1=>∃l ys,x=.ref l/\M1 l=some (.lst ys)/\t δ M1 fun ds M2=>∃bs:List Bool,ds=[.bl true]/\M2 l=some (.lst (bs.map D.bl))/\Q (.int ((bs.countP (·==true):Nat):Int)) M2
theorem oK{K:cc}{H:Hp}:∀{bs:List Bool} {xs:List V},aK K H (bs.map D.bl) xs->xs=bs.map V.bl
 |[],_,h=>by simpa[aK]using h
 |b::bs,_,h=>by
  rw[Ho,aK]at h
  obtain⟨x,r,rfl,h1,h2⟩:=h
  rw[Rep]at h1
  rw[oK h2,h1];rfl
variable{o e1:Expr}{to:TD}{t:TAD}{apos cpos:Pos}
theorem tH(ho:DE X o to)(ha:DA X [e1] t)
 (hbase:J5 o "count" X.env (eval o X.env)=eval o X.env:=by rfl)
 (hfew:((IV cpos (Hc [e1] X.env)).all (fun x=>!x.1)&&(backToKw cpos (keywordEach [] X.env)).all (fun x=>x.1.isSome)
  && decide ([e1].length+([]:List Keyword).length+(if([]:List Keyword).isEmpty then 0 else 1)<30))=true:=by rfl)
 (hline:(apos.endLine==cpos.line)=true:=by rfl) (hs:Hc [e1] X.env=(false,eval e1 X.env)::Hc [] X.env:=by rfl) (hplain:(IV cpos (Hc [] X.env)).any (·.1)=false:=by rfl) :
 DE X (.Call (.Attribute o "count" apos) [e1] [] cpos) (FC to t):=
 bD (oQ PySem.F.plainAttrs_list PySem.F.slot_list_count PySem.F.type_list_count yd ho ha hbase hfew hline hs hplain) fun σ H Q ⟨δ,M,R,hsl,hM,q,fin⟩=>by
  refine⟨δ,M,_,hsl,hM,q,fun x M1 v H1 g1 r1 a1 zz1_0=>?_⟩
  obtain⟨l,ys,ex,hl,q1⟩:=zz1_0
  subst ex
  rw[Rep]at r1
  subst r1
  obtain⟨vs,hvs,_⟩:=a1 _ _ hl
  refine⟨.inl ⟨rfl,vs,SqL.of hvs⟩,δ,M1,_,hsl.mono g1,a1,q1,fun ds M2 us H2 g2 r2 a2 zz2_0=>?_⟩
  obtain⟨bs,ed,hx,q2⟩:=zz2_0
  subst ed
  obtain⟨u1,rfl,ru1⟩:=b6 r2
  rw[Rep]at ru1
  subst ru1
  obtain⟨ws,hws,rws⟩:=a2 _ _ hx
  have hw:=oK rws
  subst hw
  exact⟨l,bs,rfl,rfl,hws,fin _ _ _ _ (g1.trans g2) (by rw[Rep]) a2 q2⟩
end
def cl(K:cc)(x:Str):Addr:=match Ih K HK x with
 |some (some (.ref C))=>C
 |_=>0
section
variable{K:cc}{x y:Str}{C D:Addr}{b:Bool}
theorem eV(a:Ih K HK x=some (some (.ref C))):cl K x=C:=by unfold cl;rw[a]
theorem EK{h:Heap}{mg:Str->Option G0}(X:K.In h)(G:h.Ns HK mg)(a:Ih K HK x=some (some (.ref C))):mg x=some (.ref (cl K x)):=by rw[eV a];exact PySem.W.mg_of X G a
theorem Gi(a:Ih K HK x=some (some (.ref C)))(b:JN K C veM "ValueError.__new__"=true):ClsE K x (cl K x):=by rw[eV a];exact⟨a,b⟩
theorem Be{n:String}(a:Ih K HK x=some (some (.ref C)))(h:HY K (.ref C) (.type n)=some b):HY K (.ref (cl K x)) (.type n)=some b:=by rw[eV a];exact h
theorem D3(a:Ih K HK x=some (some (.ref C)))(a':Ih K HK y=some (some (.ref D)))(h:HY K (.ref C) (.ref D)=some b):HY K (.ref (cl K x)) (.ref (cl K y))=some b:=by rw[eV a,eV a'];exact h
theorem AI{n:String}(a:Ih K HK x=some (some (.ref C)))(h:HY K (.ref C) (.type n)=some b)(hk:PySem.W.kitMeta n=true):Io K (.ref (cl K x)) (.type n)=some b:=by rw[eV a];unfold Io PySem.W.kitCls;rw[if_neg (by intro z;cases (beq_iff_eq.mp z))];show(if PySem.W.kitMeta n=true then _ else _)=_;rw[if_pos hk];exact h
theorem Dr{dd:Option Addr}{cd:ClassData}{sl:Array (Option G0)}(a:Ih K HK x=some (some (.ref C)))(a':Ih K HK y=some (some (.ref D)))(h:HY K (.ref C) (.ref D)=some b)(l:K.lookup D=some ⟨.type "type",dd,.cls cd,sl⟩)(ne:(C==D)=false):Io K (.ref (cl K x)) (.ref (cl K y))=some b:=by
 rw[eV a,eV a']
 have n:(Iq C==Iq D)=false:=by
  refine Bool.eq_false_iff.mpr fun q=>?_
  have e:C=D:=Iq.inj (beq_iff_eq.mp q)
  subst e
  simp at ne
 unfold Io PySem.W.kitCls;rw[n];unfold PySem.W.clsIn PySem.W.typeIn;simp only[l];exact h
theorem Al:Io K (.ref C) (.ref C)=some true:=by unfold Io;rw[if_pos (beq_self_eq_true _)]
theorem Ef{dd:Option Addr}{cd:ClassData}{sl:Array (Option G0)}(a:Ih K HK x=some (some (.ref C)))(h1:PySem.W.findIn K (.ref C) "__getattribute__"=some (some (.builtin "BaseException.__getattribute__")))(h2:PySem.W.findIn K (.ref C) "__getattr__"=some none)(h3:PySem.W.findIn K (.ref C) "__class__"=some (some (.builtin "object.__class__"))) (h4:HY K (.ref C) (.type "BaseException")=some true) (h5:PySem.W.mroIn K C (.type "object")=some true) (h6:K.lookup C=some ⟨.type "type",dd,.cls cd,sl⟩):ErrK K (cl K x):=by rw[eV a];refine⟨⟨h1,h2,h3,h4,h5⟩,?_⟩;unfold PySem.W.clsIn;simp only[h6,Option.isSome]
end
theorem nv:HX "ValueError"=some (.type "ValueError"):=by decide +kernel
section
variable{prog:Hi}{w:HL}{A:HM}{E:G0->G3->Prop}{s:G3}{K:cc}{e C t0:Addr}{oe:Obj}{vs:Array G0}{m:Str}{tk:Tok}
end
section
variable{X:Cx}{pins:List (Addr×Obj)}{σ:L2.St}{H:Hp}{s:G3}{a:Addr}
theorem l7{o:HO}(I:Inv X pins σ H s)(hn:H a=none)(h0:∀o,X.s₀.heap.get? a=some o->X.H₀ a≠none)(hL:a≠X.env.locals)(hc:∀x c,X.env.cells.lookup x=some c->c≠a)(hp:∀p∈X.pn++pins,p.1≠a)(hφ:cY X.prog X.w (upd H a o) s.heap a o):Inv X pins σ (upd H a o) s:=by
 have ne:∀{b:Addr} {o:HO},H b=some o->b≠a:=fun{b o} e z=>by rw[z,hn]at e;cases e
 refine⟨I.ok,I.os,I.bare,⟨I.base.keep,I.base.slot,fun b o e n hx=>?_,I.base.there,fun b xs e=>?_,fun b o u e=>?_,fun b ps e=>?_⟩,I.loc,I.cell,?_,fun x c e=>?_,fun p hpp=>?_,fun b o e=>?_,I.len⟩
 ·by_cases z:b=a
  ·subst z;exact absurd n (h0 o e)
  ·rw[aR z];exact I.base.free b o e n hx
 ·have:=I.base.tups b xs e;rw[aR (ne this)];exact this
 ·have:=I.base.frzs b o u e;rw[aR (ne this)];exact this
 ·obtain⟨more,this⟩:=I.base.tbls b ps e;exact⟨more,by rw[aR (ne this)];exact this⟩
 ·rw[aR hL.symm];exact I.free
 ·rw[aR (hc x c e)];exact I.freeC x c e
 ·obtain⟨e,n,r⟩:=I.pin p hpp;exact⟨e,by rw[aR (hp p hpp)];exact n,r⟩
 ·by_cases z:b=a
  ·subst z;rw[aY]at e;cases e;exact hφ
  ·rw[aR z]at e;exact(I.hok b o e).gw (fun _ _ _ q=>q) (fun c q=>by rw[aR (ne q)];exact q) fun c xs q=>by rw[aR (ne q)];exact q
end
section
variable{X:Cx}{c:Str}{C:Addr}{np cpos pos p:Pos}{e₀:Expr}{te:TA}
end
section
variable{K:cc}{x:Str}{C:Addr}
end
theorem KpD.use{α:Type}{t:Sem α}(k:KpD t){M:Model}{A:HM}{Q:α->G3->Prop}{E:G0->G3->Prop}{s:G3}(h:Hf M A t (fun a s'=>jv s.heap s'.heap->Q a s') E s):Hf M A t Q E s:=HS (KpD.any k h) (fun _ _ z=>z.1 z.2) fun _ _ z=>z.elim
def vI(X:Cx)(body:List Stmt)(tR:TR):Prop:=
 ∀(pins:List (Addr×Obj)) (s:G3) (σ:L2.St) (H:Hp) (E:Hp->XK),Inv X pins σ H s->tR σ H E->Hf (Hm X.prog X.w) X.A (execs body X.env) (fun _ _=>False) (fun e s'=>∃H1 s1,Inv X pins σ H1 s1/\cJ X.prog X.w X.stack H1 s1 (E H1) e s') s
def C4(X:Cx)(ex:Expr)(tR:TR):Prop:=
 ∀(pins:List (Addr×Obj)) (s:G3) (σ:L2.St) (H:Hp) (E:Hp->XK),Inv X pins σ H s->tR σ H E->Hf (Hm X.prog X.w) X.A (eval ex X.env) (fun _ _=>False) (fun e s'=>∃H1 s1,Inv X pins σ H1 s1/\cJ X.prog X.w X.stack H1 s1 (E H1) e s') s
section
variable{Y:Cx}{k:Nat}{f:Addr}{fd:Jc}{ps:List Str}{sp:Sp}{x:Str}{p pos:Pos}{e:Expr}{es:List Expr}{t:TA}
theorem xO(F:FnOk Y.prog Y.w Y.K Y.mg Y.base (cJ Y.prog Y.w) k f fd ps sp)(hr:Room k Y.A)(hg:Gl Y.nox x)(hm:Y.mg x=some (.ref f))(hk:Jd Y.K (.ref f)=true)(hb:Binds Y.K fd ps [])
 (ha:PA Y.nox (e::es) t) (hdb:(x==("__debug__":Str))=false) (he:Hc (e::es) Y.env=(false,eval e Y.env)::Hc es Y.env) (hpl:(IV pos (Hc es Y.env)).any (·.1)=false) :
 C4 Y.nox (.Call (.Name x p) (e::es) [] pos) (fun σ H E=>t σ H fun vs H1=>sp vs H1 (fun _ _=>False) (E H1)):=by
 intro pins s σ H E I h
 refine wpAny_Call_Name_kw (ig I hg hm ?_ hdb)
 refine PySem.W.callWith_K (h₀:=Y.base) I.ok.mod.kin hk (thn (HS (ha pos pins s σ H _ I h) (fun _ _ z=>z) (fun _ _ z=>z.elim)) fun us s1 ⟨vs,H1,I1,r,q⟩=>⟨I1.kIn,?_⟩) he hpl
 have hl:(us++[]).length=ps.length:=by rw[J0,<-r.length];exact F.len _ _ _ _ q
 have hbb:=hb s1 us I1.kIn hl
 rw[J0]at hbb
 refine wpAny_call (codeAny_mono (F.run Y.A Y.stack s1 H1 ⟨us,[]⟩ us vs _ (E H1) hr I1.Cm hbb r q) fun r s' hq=>?_)
 cases r with
 |error e=>exact⟨H1,s1,I1,hq⟩
 |ok fl=>
  cases fl with
  |ret u=>obtain⟨v,H',_,_,_,_,_,z⟩:=hq;exact z.elim
  |next=>exact IU hq
  |brk=>exact IU hq
  |cont=>exact IU hq
theorem uK{ex:Expr}{tR:TR}{y:Str}{pos':Pos}(h:C4 Y.nox ex tR)(hs:swapsWith ex (some (.Name y pos')) pos.line Y.env=pure false):vI Y.nox [.Assign [.Name y pos'] ex pos] tR:=by intro pins s σ H E I q;refine wpAny_execs_cons (Q:=fun _ _=>False) (thn (Q:=fun _ _=>False) ?_ fun f s1 z=>z.elim);exact wpAny_Assign_Name (thn (h pins s σ H E I q) fun v s1 z=>z.elim) hs
end
def ES(K:cc)(S:Addr)(j:Nat)(tb:TS)(tR:TR)(th:TS):TS:=fun D σ H=>tb D σ H\/
 tR σ H fun H1 cv dd H'=>∃C,cv=.ref C/\HY K (.ref C) (.ref S)=some true/\(Grow K H1 H'->∀a,H' a=none->th (gone j D) (σ.set j (some (.ref a))) (upd H' a (.ext (rz a C dd))))
theorem Bn{Y:Cx}{body:List Stmt}{b₀:Stmt}{bs:List Stmt}{c n:Str}{cp hp pos:Pos}{j:Nat}{S:Addr}{tb:TS}{tR:TR}{th:TS} (hst:Y.stack=Y.env::Y.outer) (hfr:Y.env.frame=some Y.env.locals) (hex:Y.ex=[]) (hN:Y.N.Nodup) (hj:Y.N[j]?=some n) (hk:Y.env.scope.names.lookup n=some .local) (hg:Gl Y.nox c) (hm:Y.mg c=some (.ref S)) (hdb:(c==("__debug__":Str))=false) (hS:JN Y.K S veM "ValueError.__new__"=true) (hB:HY Y.K (.ref S) (.type "BaseException")=some true) (hb:PSs Y.nox body tb) (hr:vI Y.nox body tR) (hh:∀a,PSs (hold Y.nox a) (b₀::bs) th) : PS Y.nox (.Try body [.ExceptHandler (some (.Name c cp)) (some n) (b₀::bs) hp] [] [] pos) (ES Y.K S j tb tR th):=by
 intro pins s σ H D I h;refine wpAny_Try_except ?_;rcases h with h|h
 ·refine HS (hb pins s σ H D I h) (fun fl s1 q=>?_) (fun _ _ z=>z.elim);cases fl with
  |next=>exact wpAny_execs_nil q
  |brk=>exact q
  |cont=>exact q
  |ret u=>exact q
 ·refine HS (hr pins s σ H _ I h) (fun _ _ z=>z.elim) fun e s' zz1_0=>?_;obtain⟨H1,s1,I1,a,C,dd,H',he,F,⟨oD,gD,dD⟩,C',hC,hsub,q⟩:=zz1_0;subst he;cases hC;obtain⟨b,a0,fl,hok,kp,thr⟩:=id F.bs;have fl3:s'.heap.FunFrames b (Y.env::Y.outer):=by rw[<-hst];exact fl.2.2.1
  have mk:∀h3:Heap,b.StaysIn h3->h3.FunFrames b (Y.env::Y.outer)->h3.TracedW b a (.ref C) a0->(∀x o,s'.heap.get? x=some o->(∀vs:Array G0,o.data≠.fields vs)->∃sl,h3.get? x=some { o with slots:=sl })->Fly Y.prog Y.w Y.stack H1 H' s1 { s' with heap:=h3 } a C:=
   fun h3 c1 c2 c3 c4=>⟨F.os,F.bare,⟨b,a0,⟨c1,fl.2.1,by rw[hst];exact c2,c3⟩,hok,kp,thr⟩,fun x o e n m=>by
    obtain⟨sl,g⟩:=F.slot x o e n m
    obtain⟨o',g',d⟩:=kZ fl.2.2.1 m
    rw[g]at g';cases g'
    obtain⟨sl',g2⟩:=c4 x _ g d
    exact⟨sl',g2⟩,F.free,F.tups,F.frzs,F.tbls⟩
  refine KpD.use vf (wpAny_noteFrame_onW (base:=b) (outer:=Y.outer) (L:=Y.env.locals) (by rw[<-hst];exact I1.ok.frames) fl3 hfr fl.2.2.2 fl.1 fl.2.1 fun h2 nt sd2=>?_);refine KpD.use fO (wpAny_setFlight_noneW (base:=b) (l:=Y.env::Y.outer) nt.1 nt.2.1 nt.2.2.1 fun h3 st3 ff3 tr3 kp3 sd3=>?_);have F3:=mk h3 st3 ff3 tr3 fun x o e d=>by obtain⟨sl,g⟩:=nt.2.2.2 x o e d;exact⟨sl,kp3 x _ g d⟩
  have I3:Inv Y.nox pins σ H' { s' with heap:=h3 }:=I1.zt F3.os (F3.un I1.iB) F3.hok F3.bare (ch:=[]) (fun b z=>absurd z (by simp));refine wpAny_handleBy_cons (codeAny_handlers_test ?_) (by intro z;cases z);refine ig (X:=hold Y.nox a) (qI I3) hg hm ?_ hdb;obtain⟨oe,vs,T,oT,ts,ho,⟨hcl,_⟩,_⟩:=id tr3;refine rg (K:=Y.K) I3.kIn ho hcl hS hB hsub ?_;show codeAny _ _ (Code.handlers (.ref a) [.ExceptHandler none (some n) (b₀::bs) hp] Y.env) _ _;refine codeAny_handlers_suite_as ?_;refine KpD.use fO (wpAny_setFlight_noneW (base:=b) (l:=Y.env::Y.outer) st3 ff3 (show h3.TracedAtW b a (.ref C) a0 Iu from tr3) fun h4 st4 ff4 tr4 kp4 sd4=>?_);have F4:=mk h4 st4 ff4 tr4 fun x o e d=>by obtain⟨sl,g⟩:=nt.2.2.2 x o e d;exact⟨sl,kp4 x _ (kp3 x _ g d) d⟩
  have I4:Inv Y.nox pins σ H' { s' with heap:=h4 }:=I1.zt F4.os (F4.un I1.iB) F4.hok F4.bare (ch:=[]) (fun b z=>absurd z (by simp));have ex0:∀x:Addr,x∉Y.nox.ex:=fun x z=>by rw[show Y.nox.ex=[]from hex]at z;simp at z
  have I5:Inv Y.nox pins σ (upd H' a (.ext (rz a C dd))) { s' with heap:=h4 }:=by
   refine l7 I4 F4.new (fun o e n=>?_) (fun z=>?_) (fun x c e z=>?_) (fun p hp z=>?_) ?_
   ·obtain⟨sl,g⟩:∃sl,s1.heap.get? a=some { o with slots:=sl }:=by
     by_cases mf:a∈Y.nox.fs
     ·exact I1.base.slot a o e n mf (ex0 a)
     ·exact⟨o.slots,I1.base.keep a o e n mf (ex0 a)⟩
    exact F.apart g (I1.base.free a o e n (ex0 a)) rfl
   ·obtain⟨m,⟨o,_,_,g,_⟩,_⟩:=I1.loc;exact F.apart g I1.free z.symm
   ·obtain⟨v,o,g,_⟩:=I1.cell x c e;exact F.apart g (I1.freeC x c e) z
   ·obtain⟨g,n,_⟩:=I1.pin p hp;exact F.apart g n z
   ·obtain⟨oe,vs,T,oT,ts,ho,⟨hcl,_⟩,hdt,_⟩:=id tr4;obtain⟨o',g',d'⟩:=(sd2.trans (sd3.trans sd4)) a oD gD;have g':h4.get? a=some o':=g';rw[ho]at g';cases g';exact okX ⟨oe,ho,hcl,d'.trans dD,by unfold PySem.W.notCls;rw[hdt]⟩
  refine gO (X:=Y.nox) (v:=.ref a) I5 hN hj (.inl hk) rfl (fun s6 I6=>?_) (.inr hk);refine HS (hh a pins s6 _ _ (gone j D) (qI I6) (q (A4 (F.un I1.iB)) a F4.new)) (fun f s7 hs=>?_) (fun _ _ z=>z.elim);show Hf _ _ (do bindName Y.env n Iu;unbindBehindTheSuite Y.env n hp) (fun _ s₃=>SP Y.nox pins D f s₃) _ s7;cases f with
  |next=>obtain⟨σ',H2,J,z⟩:=hs;exact ir (X:=Y.nox) (f7 (X:=Y.nox) I.ok J) hN hj hk fun s8 J8=>⟨_,H2,J8,z⟩
  |brk=>obtain⟨σ',H2,J,z⟩:=hs;exact ir (X:=Y.nox) (f7 (X:=Y.nox) I.ok J) hN hj hk fun s8 J8=>⟨_,H2,J8,z⟩
  |cont=>obtain⟨σ',H2,J,z⟩:=hs;exact ir (X:=Y.nox) (f7 (X:=Y.nox) I.ok J) hN hj hk fun s8 J8=>⟨_,H2,J8,z⟩
  |ret u=>obtain⟨v,σ',H2,J,r,z⟩:=hs;exact ir (X:=Y.nox) (f7 (X:=Y.nox) I.ok J) hN hj hk fun s8 J8=>⟨v,_,H2,J8,r,z⟩
open PySem.W (findIn)
section
variable{X:Cx}
def Part(X:Cx)(e:Expr)(c:L2.St->Hp->Prop):Prop:=∀(pins:List (Addr×Obj)) (s:G3) (σ:L2.St) (H:Hp),Inv X pins σ H s->c σ H->Hf (Hm X.prog X.w) X.A (eval e X.env) (fun v s'=>∃x t,v=.str x t/\x.length<=1000/\Inv X pins σ H s') X.xe s
def Parts(X:Cx):List Expr->(L2.St->Hp->Prop)->Prop
 |[],c=>∀σ H,c σ H
 |e::es,c=>∃c1 c2,Part X e c1/\Parts X es c2/\∀σ H,c σ H->c1 σ H/\c2 σ H
theorem rA{x:Str}{j}{p:Pos}(h:x.length<=1000):Part X (.Constant (.str x) j p) (fun _ _=>True):=fun pins s σ H I _=>Calls.Constant_str ⟨x,_,rfl,h,I.tok _⟩
theorem zC(n:Nat)(h:n<10^6):(G1 (toString ((n:Nat):Int))).length<=1000:=by
 have e:(G1 (toString ((n:Nat):Int))).length=(G1 (toString ((n:Nat):Int))).cps.toList.length:=by simp[PySem.Str.length]
 rw[e,PySem.W.KIN.signs_num,G4];exact He ((Nat.length_toDigits_le_iff (b:=10) (k:=6) (by decide) (by decide)).mpr h) (by decide)
def Small(v:V):Prop:=v=.non\/∃i:Int,v=.int i/\0<=i/\i<1000000
theorem xi{e:Expr}{te:TE}{p:Pos}(he:PE X e te):Part X (.FormattedValue e (-1) none p) (fun σ H=>te σ H fun v H1=>H1=H/\Small v):=by
 intro pins s σ H I h;refine wpAny_FormattedValue_plain (thn (he pins s σ H _ I h) fun v s1 z=>?_);obtain⟨x,H1,I1,r1,eH,q1⟩:=z;subst eH;rcases q1 with rfl|⟨i,rfl,h0,h1⟩
 ·cases (show v=Iu from r1);exact wpAny_formatField_none ⟨_,_,rfl,by decide +kernel,I1.tok _⟩
 ·obtain⟨t,rfl⟩:=(show ∃t,v=Value.int i t from r1)
  have hz:i.natAbs.log2<1920:=by
   have:i.natAbs<2^20:=by omega
   by_cases z:i.natAbs=0
   ·rw[z];decide
   ·exact Nat.lt_trans ((Nat.log2_lt z).mpr this) (by decide)
  refine wpAny_formatField_int hz ⟨_,_,rfl,?_,I1.tok _⟩;have:=zC i.toNat (by omega);rw[show((i.toNat:Nat):Int)=i by omega]at this;exact this
theorem qY{pins:List (Addr×Obj)}{Q:VK}{σ:L2.St}{H:Hp}:∀{es:List Expr} {ts:List (Sem G0)} {c:L2.St->Hp->Prop} {acc:Str} {s:G3},ts=es.map (fun e=>eval e X.env)->Parts X es c->c σ H->Inv X pins σ H s->acc.length+1000*es.length<=GX->(∀m,Q (.str m) H)->
 Joins (Hm X.prog X.w) X.A X.xe ts acc (fun out s1=>out.length<=GX/\EP X pins σ Q (.str out s1.toks) { s1 with toks:=s1.toks+1 }) s
 |[],ts,c,acc,s,et,hp,hc,I,hl,q=>by
  subst et
  exact⟨by simpa using hl,.str acc,H,I.tok _,⟨_,rfl⟩,q _⟩
 |e::es,ts,c,acc,s,et,hp,hc,I,hl,q=>by
  subst et
  obtain⟨c1,c2,h1,h2,h3⟩:=hp
  obtain⟨d1,d2⟩:=h3 σ H hc
  refine HS (h1 pins s σ H I d1) (fun v s1 z=>?_) fun _ _ z=>z
  obtain⟨x,t,rfl,lx,I1⟩:=z
  have la:(acc++x).length=acc.length+x.length:=PySem.Str.length_append acc x
  rw[Hw]at hl
  exact⟨x,t,rfl,by omega,qY rfl h2 d2 I1 (by omega) q⟩
def Fb(c:L2.St->Hp->Prop):TE:=fun σ H Q=>c σ H/\∀m,Q (.str m) H
theorem AM{e1 e2:Expr}{es:List Expr}{p:Pos}{c:L2.St->Hp->Prop}(h:Parts X (e1::e2::es) c)(hl:es.length<=10)(he:evalEach (e1::e2::es) X.env=(e1::e2::es).map (fun e=>eval e X.env)):PE X (.JoinedStr (e1::e2::es) p) (Fb c):=by
 intro pins s σ H Q I q;refine wpAny_JoinedStr ?_
 have:(IL).length+1000*(e1::e2::es).length<=GX:=by
  have z:20000<=GX:=nbL rfl
  have y:(IL).length=0:=rfl
  simp only[Hw];omega
 exact qY he h q.1 I this q.2
end
section
variable{X:Cx}{S:Addr}{c:Str}{a1 a2:Expr}{np apos cpos pos:Pos}{t:TA}
structure ClsB(K:cc)(S:Addr):Prop where
 ga:PySem.W.specialIn K (.ref S) "__getattribute__"=some (some (.builtin "type.__getattribute__"))
 rd:PySem.W.readsIn K S (.type "type")=true
 fi:PySem.W.findCls K (.ref S) (.type "type") "__init__"=some (.val (.builtin "ValueError.__init__"))
def BB(K:cc)(S:Addr)(t:TA):TE:=fun σ H Q=>t σ H fun vs H1=>∃a x C fI dd,vs=[.ref a,.str x]/\ClsI K C S fI/\H1 a=some (.ext (gx a C dd))/\Q .non (upd H1 a (.ext (gx a C dd)))
theorem zV{pl:Sem Bool}(B:ClsB X.K S)(hg:Gl X c)(hm:X.mg c=some (.ref S))(ha:PA X [a1,a2] t)(hdb:(c==("__debug__":Str))=false)(hst:Hc [a1,a2] X.env=(false,eval a1 X.env)::Hc [a2] X.env)(hpl:(IV cpos (Hc [a2] X.env)).any (·.1)=false)
 (ht:eval (.Call (.Attribute (.Name c np) "__init__" apos) [a1,a2] [] cpos) X.env=(do
  let ov <-eval (.Name c np) X.env
  standAt apos.atName
  let(f,first) <-holding [ov] (getMethod ov "__init__" pl)
  callWith cpos f first (IV cpos (Hc [a1,a2] X.env)) (backToKw cpos (keywordEach [] X.env)))):PE X (.Call (.Attribute (.Name c np) "__init__" apos) [a1,a2] [] cpos) (BB X.K S t):=by
 intro pins s σ H Q I h
 refine PySem.W.methodCall_KW (pl:=pl) (ig I hg hm ?_ hdb) ht
 refine PySem.W.method_cls I.kIn B.ga (PySem.W.cls_value I.kIn B.rd B.fi rfl ?_)
 have I0:=I.tok (s.toks+1)
 have hp2:((IV cpos (Hc [a1,a2] X.env)).any (·.1)||false)=false:=by rw[hst];show((false||(IV cpos (Hc [a2] X.env)).any (·.1))||false)=false;rw[hpl];rfl
 have ha2:=ha cpos pins _ σ H _ I0 h
 rw[hst]at ha2 hp2 ⊢
 refine PySem.W.callWith_of (P:=fun h=>X.K.In h) hp2 (fun h _=>⟨.machine,.inr (.inl rfl),.now⟩) (Calls.evalArgs_plain (thn ha2 fun us s1 z=>?_))
 obtain⟨vs,H1,I1,r,a,x,C,fI,dd,ev,M,hx,q⟩:=z
 subst ev
 obtain⟨u1,u2,rfl,ru1,ru2⟩:=vals2 r
 cases (show u1=Iq a from ru1)
 refine⟨I1.kIn,?_⟩
 obtain⟨⟨t0,g⟩,_⟩:=I1.hok a _ hx
 refine wH M I1.kIn g fun h' kp g'=>⟨.non,_,I1.write (x:=a) (e:=a) (t':=s1.toks) (by rw[hx];exact True.intro) (.inl rfl) (fun b u ne e=>kp b u ne e) ⟨_,g'⟩ (okG g'),rfl,q⟩
end
section
variable{X:Cx}{o value:Expr}{f:Str}{pos pos':Pos}{ta tv:TE}
def B9(K:cc)(ta tv:TE)(f:Str):TS:=fun D σ H=>tv σ H fun y H1=>ta σ H1 fun x H2=>∃a C S fI,x=.ref a/\ClsI K C S fI/\findIn K (.ref C) f=some none/\
 ((H2 a=some (.ext (gx a C none))/\∀dx,H2 dx=none->D.nx σ (upd (upd H2 a (.ext (gx a C (some dx)))) dx (.ext (lG dx [(f,y)]))))\/
  ∃dx fs,H2 a=some (.ext (gx a C (some dx)))/\H2 dx=some (.ext (lG dx fs))/\fs.length<=900/\D.nx σ (upd H2 dx (.ext (lG dx (mC f y fs)))))
theorem As(ha:PE X o ta)(hv:PE X value tv)(hs:swapsWith value (some (.Attribute o f pos')) pos.line X.env=pure false):PS X (.Assign [.Attribute o f pos'] value pos) (B9 X.K ta tv f):=by
 intro pins s σ H D I h;refine plainObj_wpAny_Assign_Attribute (thn (hv pins s σ H _ I h) fun u s1 ⟨y,H1,I1,ry,q⟩=>thn (ha pins s1 σ H1 _ I1 q) fun ov s2 z=>?_) hs;obtain⟨x,H2,I2,rx,a,C,S,fI,ex,M,hn,q2⟩:=z;subst ex;obtain rfl:ov=Iq a:=rx;rcases q2 with⟨hx,q2⟩|⟨dx,fs,hx,hdx,hl,q2⟩
 ·obtain⟨⟨t0,g⟩,_⟩:=I2.hok a _ hx;have hf:H2 s2.heap.objs.size=none:=I2.hok.fresh (GY _);have ne:s2.heap.objs.size≠a:=fun z=>by rw[z,hx]at hf;cases hf
  refine Au M I2.kIn g hn fun h' tk' kp g' n1=>?_;have I3:Inv X pins σ (upd H2 a (.ext (gx a C (some s2.heap.objs.size)))) { s2 with heap:=h',toks:=tk' }:=I2.write (x:=a) (e:=a) (by rw[hx];exact True.intro) (.inl rfl) (fun b u nb e=>kp b u nb e) ⟨_,g'⟩ (okG g');refine⟨σ,_,?_,q2 _ hf⟩;have hn2:upd H2 a (.ext (gx a C (some s2.heap.objs.size))) s2.heap.objs.size=none:=by rw[aR ne];exact hf
  refine l7 I3 hn2 (fun o e n=>?_) (fun z=>?_) (fun x c e z=>?_) (fun p hp z=>?_) (okF ⟨_,n1,fun g=>?_,fun g hg=>?_⟩)
  ·exact absurd (G8 (Hb e) I2.sz) (IX _)
  ·exact absurd (z▸I2.lt) (IX _)
  ·obtain⟨v,o,e',_⟩:=I2.cell x c e;exact absurd (z▸Hb e') (IX _)
  ·obtain⟨e',_⟩:=I2.pin p hp;exact absurd (z▸Hb e') (IX _)
  ·show qN (Js g [(f,y)]) (if g=f then some u else none);by_cases z:g=f
   ·subst z;rw[if_pos rfl];simp only[Js,beq_self_eq_true];exact ry
   ·rw[if_neg z];have:(g==f)=false:=beq_eq_false_iff_ne.mpr z;simp only[Js,this];exact True.intro
  ·by_cases z:g=f
   ·subst z;simp
   ·exact absurd (show(if g=f then some u else none)=none by rw[if_neg z]) hg
 ·obtain⟨⟨t0,g⟩,_⟩:=I2.hok a _ hx;obtain⟨⟨mA,n0,r,wi⟩,_⟩:=I2.hok dx _ hdx;refine yl M I2.kIn g n0 wi (by rw[G4];omega) hn fun h' tk' kp n1=>⟨σ,_,I2.write (x:=dx) (e:=dx) (by rw[hdx];exact True.intro) (.inl rfl) (fun b u nb e=>kp b u nb e) (let⟨o,_,_,e,_⟩:=n1;⟨o,e⟩) (okF ⟨_,n1,fun g=>?_,fun g hg=>?_⟩),q2⟩
  ·show qN ((mC f y fs).lookup g) (if g=f then some u else mA g);rw[kr];by_cases z:g=f
   ·rw[if_pos z,if_pos z];exact ry
   ·rw[if_neg z,if_neg z];exact r g
  ·by_cases z:g=f
   ·rw[z];exact(ka f y fs).1
   ·refine(ka f y fs).2 g (wi g fun y=>hg ?_);show(if g=f then some u else mA g)=none;rw[if_neg z];exact y
structure ErrA(K:cc)(C:Addr)(f:Str):Prop where
 c:ErrC K C
 hd:Ji K C=true
 no:findIn K (.ref C) f=some none
def EE(K:cc)(ta:TE)(f:Str):TE:=fun σ H Q=>ta σ H fun x H1=>∃a C dx fs v φ,x=.ref a/\H1 a=some (.ext φ)/\(∀h,φ h->rz a C (some dx) h)/\H1 dx=some (.ext (lG dx fs))/\ErrA K C f/\fs.lookup f=some v/\Q v H1
theorem AE(he:PE X o ta)(hb:J5 o f X.env (eval o X.env)=eval o X.env):PE X (.Attribute o f pos) (EE X.K ta f):=by intro pins s σ H Q I h;refine AL hb (thn (he pins s σ H _ I h) fun u s1 z=>?_);obtain⟨x,H1,I1,rx,a,C,dx,fs,v,φ,ex,ea,im,ed,Z,l,q⟩:=z;subst ex;obtain rfl:u=Iq a:=rx;obtain⟨p,_⟩:=I1.hok a _ ea;obtain⟨oe,g,hc,hd,hnc⟩:=im _ p;obtain⟨⟨mA,n0,r,_⟩,_⟩:=I1.hok dx _ ed;obtain⟨u,hu,ru⟩:=qN.some_of (v:=v) (o:=mA f) (by rw[<-l];exact r f);exact AB F.excAttr_ValueError.ga I1.kIn Z.c Z.hd g hc hnc hd n0 hu Z.no (vU ru) ⟨v,H1,I1.tok _,ru,q⟩
end
inductive SmD:D->Prop
 |non:SmD .non
 |int {i:Int} (h0:0<=i) (h1:i<1000000):SmD (.int i)
def sV:D->V
 |.int i=>.int i
 |_=>.non
theorem SmD.rep{K:cc}{H:Hp}{d:D}{v:V}(h:SmD d)(r:Rep K H d v):v=sV d/\Small v:=by
 cases h with
 |non=>rw[Rep]at r;exact⟨r,.inl r⟩
 |int h0 h1=>rw[Rep]at r;exact⟨r,.inr ⟨_,r,h0,h1⟩⟩
theorem SmD.back{K:cc}{H:Hp}{d:D}(h:SmD d):Rep K H d (sV d):=by
 cases h with
 |non=>rw[Rep];rfl
 |int h0 h1=>rw[Rep];rfl
def iD(C:Addr)(dd:Option Addr):MO:=.gen fun K H a=>∃φ,H a=some (.ext φ)/\∀h,φ h->rz a C dd h
def sR(fs:List (Str×D)):MO:=.gen fun K H d=>H d=some (.ext (lG d (fs.map fun p=>(p.1,sV p.2))))
theorem Ge{K:cc}{H:Hp}{a C:Addr}{dd:Option Addr}{φ:Heap->Prop}(h:H a=some (.ext φ))(k:∀h,φ h->rz a C dd h):qb K H a (iD C dd):=⟨⟨φ,h,k⟩,by rw[h];simp,fun H' g e=>⟨φ,e.trans h,k⟩⟩
theorem Gk{K:cc}{H:Hp}{d:Addr}{fs:List (Str×D)}(h:H d=some (.ext (lG d (fs.map fun p=>(p.1,sV p.2))))):qb K H d (sR fs):=⟨h,by rw[h];simp,fun H' g e=>e.trans h⟩
theorem Abs.EI{K:cc}{H:Hp}{M:MH}{p:Addr}{o:HO}{m:MO}(h:Abs K H M)(hp:H p=none)(q:qb K (upd H p o) p m):Abs K (upd H p o) (av M p m):=fun a u e=>by
 by_cases ne:a=p
 ·subst ne;rw[ag]at e;cases e;exact q
 ·rw[ao ne]at e;exact(h a u e).gw (.new hp) (aR ne)
theorem nI(f:Str):∀fs:List (Str×D),(fs.map fun p=>(p.1,sV p.2)).lookup f=(fs.lookup f).map sV
 |[]=>rfl
 |(x,d)::r=>by
  simp only[Ho,Js]
  cases f==x with
  |true=>rfl
  |false=>exact nI f r
def spI(C:Addr)(names:List Str):Sp:=fun vs H Q _=>∃a ys,vs=.ref a::ys/\ys.length=names.length/\(∀y∈ys,Small y)/\H a=some (.ext (gx a C none))/\
 ∀dx,H dx=none->Q .non (upd (upd H a (.ext (gx a C (some dx)))) dx (.ext (lG dx (names.zip ys))))
def MkE(P:Hi)(w:HL)(K:cc)(mg:Str->Option G0)(base:Heap)(k:Nat)(c:Str)(C:Addr)(names:List Str):Prop:=
 ∃S fI fd ps,ClsI K C S fI/\HY K (.ref C) (.type "BaseException")=some true/\FnOk P w K mg base CX0 k fI fd ps (spI C names)/\Binds K fd ps []/\mg c=some (.ref C)
theorem MkE.mono{P:Hi}{w:HL}{K:cc}{mg:Str->Option G0}{base:Heap}{j k:Nat}{c:Str}{C:Addr}{names:List Str}(h:MkE P w K mg base j c C names)(l:j<=k):MkE P w K mg base k c C names:=let⟨S,fI,fd,ps,M,B,F,r⟩:=h;⟨S,fI,fd,ps,M,B,F.mono l,r⟩
theorem rV:∀{names:List Str} {ds:List D} {vs:List V} {K:cc} {H:Hp},aK K H ds vs->(∀d∈ds,SmD d)->(names.zip ds).map (fun p=>(p.1,sV p.2))=names.zip vs/\∀v∈vs,Small v
 |names,[],vs,K,H,r,h=>by
  rw[aK]at r;subst r
  exact⟨by simp,by simp⟩
 |names,d::ds,vs,K,H,r,h=>by
  rw[aK]at r
  obtain⟨v,r',rfl,r1,r2⟩:=r
  obtain⟨e,sm⟩:=(h d Hx).rep r1
  cases names with
  |nil=>
   obtain⟨_,z2⟩:=rV (names:=[]) r2 (fun d hd=>h d (GZ _ hd))
   exact⟨rfl,fun x hx=>(Hr.mp hx).elim (fun z=>z▸sm) (z2 x)⟩
  |cons n ns=>
   obtain⟨z1,z2⟩:=rV (names:=ns) r2 (fun d hd=>h d (GZ _ hd))
   exact⟨by rw[IP,Ho,z1,e];rfl,fun x hx=>(Hr.mp hx).elim (fun z=>z▸sm) (z2 x)⟩
section
variable{X:Cx}{k:Nat}{C:Addr}{names:List Str}{c f:Str}{np cpos pos:Pos}{e o:Expr}{es:List Expr}{t:TAD}{ta:TD}
def DD(K:cc)(ta:TD)(f:Str):TD:=fun δ M Q=>ta δ M fun x M1=>∃a C dx fs d,x=.ref a/\M1 a=some (iD C (some dx))/\M1 dx=some (sR fs)/\ErrA K C f/\fs.lookup f=some d/\SmD d/\Q d M1
theorem A3(he:DE X o ta)(hb:J5 o f X.env (eval o X.env)=eval o X.env:=by rfl):DE X (.Attribute o f pos) (DD X.K ta f):=
 bD (AE he hb) fun σ H Q zz1_0=>by obtain⟨δ,M,R,hs,hM,q,fin⟩:=zz1_0;exact(⟨δ,M,_,hs,hM,q,fun x M1 v H1 g1 r1 a1 z=>by
  obtain⟨a,C,dx,fs,d,ex,h1,h2,Z,l,sm,q1⟩:=z
  subst ex
  rw[Rep]at r1;subst r1
  obtain⟨⟨φ,ea,im⟩,_⟩:=a1 _ _ h1
  obtain⟨ed,_⟩:=a1 _ _ h2
  exact⟨a,C,dx,_,sV d,φ,rfl,ea,im,ed,Z,by rw[nI,l];rfl,fin _ _ _ _ g1 sm.back a1 q1⟩⟩)
def yU(K:cc):RC:=fun ds M Q=>pG K ds M Q\/∃a C dd c cv b,ds=[.ref a,c]/\M a=some (iD C dd)/\ErrK K C/\Gm c=some cv/\Io K (.ref C) cv=some b/\Q (.bl b) M
theorem cu{K:cc}(hK:X.K=K):cX X (.builtin "isinstance") (yU K):=by
 subst hK;intro pins s σ H vs us Q I rv z0;obtain⟨ds,M,R,rs,a,q,fin⟩:=z0;rcases q with q|⟨x,C,dd,c,cv,b,ed,hM,z,hc,hk,q⟩
 ·exact xb pins s σ H vs us Q I rv ⟨ds,M,R,rs,a,q,fin⟩
 ·subst ed;obtain⟨v,u,rfl,r,r'⟩:=lV rs;rw[Rep]at r;subst r;obtain⟨v',u',rfl,rw0,ru⟩:=vals2 rv;cases (show v'=Iq x from rw0)
  have eu:u'=cv:=by
   cases c with
   |ty n=>cases hc;rw[Rep]at r';subst r';exact ru
   |ref d=>cases hc;rw[Rep]at r';subst r';exact ru
   |_=>cases hc
  subst eu;obtain⟨⟨φ,ea,im⟩,_⟩:=a _ _ hM;obtain⟨p,_⟩:=I.hok x _ ea;obtain⟨o,g1,g2,_⟩:=im _ p;have h:∀tk,EP X pins σ Q (.bool b) { s with toks:=tk }:=fun tk=>⟨.bl b,H,I.tok tk,rfl,fin _ _ _ _ .refl (by rw[Rep]) a q⟩;exact JD (AS F.excAttr_ValueError.ga z.c z.s) I.kIn ⟨o,g1,g2⟩ hk (fun z=>nomatch z) h
end
abbrev RK:=Addr->Option Addr->MH->Prop
section
variable{P:Hi}{w:HL}{K:cc}{mg:Str->Option G0}{base:Heap}{N:List Str}{qual:Str}{scope:JH}{f:Addr}{cd:G0}{A:HM}{outer:List Env}{s:G3}{H:Hp}{E:XK}
def xH(R:RK)(C:Addr)(names:List Str)(t:TAD):TSD:=fun B δ M=>t δ M fun ds M1=>ds.length=names.length/\ds.length<=1000/\(∀d∈ds,SmD d)/\∀dx,M1 dx=none->R C (some dx) (av M1 dx (sR (names.zip ds)))
theorem nR{R:RK}{k:Nat}{C:Addr}{names:List Str}{c:Str}{np cpos pos:Pos}{e:Expr}{es:List Expr}{t:TAD}(hE:∀C dd M' H',Abs K H' M'->R C dd M'->E (.ref C) dd H')(M:MkE P w K mg base k c C names)(hr:Room (k+1) (bQ (cJ P w) P w K mg base N qual scope f cd A outer s H E).A)(ha:DA (bQ (cJ P w) P w K mg base N qual scope f cd A outer s H E) (e::es) t)(hg:Gl (bQ (cJ P w) P w K mg base N qual scope f cd A outer s H E) c:=by rfl)(hdb:(c==("__debug__":Str))=false:=by decide) (he:Hc (e::es) (bQ (cJ P w) P w K mg base N qual scope f cd A outer s H E).env=(false,eval e (bQ (cJ P w) P w K mg base N qual scope f cd A outer s H E).env)::Hc es (bQ (cJ P w) P w K mg base N qual scope f cd A outer s H E).env:=by rfl) (hpl:(IV cpos (Hc es (bQ (cJ P w) P w K mg base N qual scope f cd A outer s H E).env)).any (·.1)=false:=by rfl) : DSt (bQ (cJ P w) P w K mg base N qual scope f cd A outer s H E) (.Raise (some (.Call (.Name c np) (e::es) [] cpos)) none pos) (xH R C names t):=by
 obtain⟨S,fI,fd,ps,M,B,F,hb,hm⟩:=M;refine dA (wR M B F hr hb hg hm ha hdb he hpl) fun D σ H1 ⟨δ,M0,hs,a0,B0,ok,q⟩=>⟨δ,M0,_,hs,a0,q,fun ds M1 vs H1 g1 r1 a1 z=>?_⟩;obtain⟨l1,l2,sm,q1⟩:=z;obtain⟨ez,sv⟩:=rV (names:=names) r1 sm;refine⟨by rw[<-r1.length];exact He l2 (by decide),fun a ha=>⟨a,vs,rfl,by rw[<-r1.length,l1],sv,aY,fun dx hdx=>⟨rfl,a,some dx,rfl,?_,hE C (some dx) _ _ ?_ (q1 dx ?_)⟩⟩⟩
 ·have ne:dx≠a:=fun z=>by subst z;rw[aY]at hdx;cases hdx
  rw[aR ne.symm,aY]
 ·have ne:dx≠a:=fun z=>by subst z;rw[aY]at hdx;cases hdx
  have hd1:H1 dx=none:=by rw[aR ne]at hdx;exact hdx
  have eH:gI (upd (upd (upd H1 a (.ext (gx a C none))) a (.ext (gx a C (some dx)))) dx (.ext (lG dx (names.zip vs)))) a=upd H1 dx (.ext (lG dx (names.zip vs))):=by
   funext b
   by_cases z:b=a
   ·subst z;rw[tX,aR ne.symm];exact ha.symm
   ·rw[d6 z];by_cases y:b=dx
    ·subst y;rw[aY,aY]
    ·rw[aR y,aR z,aR z,aR y]
  rw[eH];refine a1.EI hd1 ?_;rw[<-ez];exact Gk aY
 ·have ne:dx≠a:=fun z=>by subst z;rw[aY]at hdx;cases hdx
  rw[aR ne]at hdx;exact a1.fresh hdx
abbrev qD:=List D->MH->RK->Prop
def yx(K:cc)(sp:qD):Sp:=fun vs H _ E=>∃ds M R,aK K H ds vs/\Abs K H M/\sp ds M R/\∀C dd M' H',Abs K H' M'->R C dd M'->E (.ref C) dd H'
def mj(P:Hi)(w:HL)(K:cc)(mg:Str->Option G0)(base:Heap)(k:Nat)(x:Str)(sp:qD):Prop:=
 ∃f fd ps,FnOk P w K mg base (cJ P w) k f fd ps (yx K sp)/\mg x=some (.ref f)/\Jd K (.ref f)=true/\Binds K fd ps []
theorem mj.mono{j k:Nat}{x:Str}{sp:qD}(h:mj P w K mg base j x sp)(l:j<=k):mj P w K mg base k x sp:=let⟨f,fd,ps,F,r⟩:=h;⟨f,fd,ps,F.mono l,r⟩
end
section
variable{P:Hi}{w:HL}{K:cc}{mg:Str->Option G0}{base:Heap}
theorem BM{x:Str}{st:Stmt}{N ps:List Str}{k:Nat}{sp:qD}(T:Txt K mg x st)(S:FnScope N ps (aq st))
 (hb:∀(kV doc pm:G0) (an:Option Addr) (cdv ct:G0) (us:List G0),us.length=ps.length->bindArgs (IQ x x (cb st) (bo st) (aq st) .none kV doc pm an cdv ct) ⟨us,[]⟩=pure (ps.zip us))
 (len:∀ds M R,sp ds M R->ds.length=ps.length)
 (body:∀(f:Addr) (cdv:G0) (A:HM) (outer:List Env) (s:G3) (H:Hp) (E:XK) (R:RK),Room k (A.deeper (envOfC x (aq st) s.heap.objs.size f cdv))->(∀C dd M' H',Abs K H' M'->R C dd M'->E (.ref C) dd H')->
  ∃t,DSs (bQ (cJ P w) P w K mg base N x (aq st) f cdv A outer s H E) (bo st) t/\∀ds M,sp ds M R->t { nx:=fun _ _=>False,rt:=fun _ _=>False } (fX N ds) M):mj P w K mg base (k+1) x sp:=by
 obtain⟨f,fd,F,hm⟩:=T
 have hbb:=F.binds hb
 have hkp:=F.kp
 obtain⟨oc,od,kV,doc,pm,an,cdv,ct,osl,rfl,lk,hcd⟩:=F.ex
 refine⟨f,_,ps,BK lk hcd S (fun vs H Q E zz3_0=>by obtain⟨ds,M,R,rs,_,q,_⟩:=zz3_0;rw[<-rs.length];exact len _ _ _ q) (fun A outer s H vs Q E hr zz4_0=>?_),hm,hkp,hbb⟩
 obtain⟨ds,M,R,rs,a,q,hE⟩:=zz4_0
 obtain⟨t,ht,hq⟩:=body f cdv A outer s H E R hr hE
 exact⟨_,ht,fX N ds,M,kq rs,a,{ nx:=fun _ _=>False,rt:=fun _ _=>False },⟨fun _ _ _ _ _ _ _ z=>z.elim,fun _ _ _ _ _ _ _ z=>z.elim,fun _ _ _ _ _ _ _ z=>z,fun _ _ _ _ _ _ _ z=>z⟩,hq ds M q⟩
end
abbrev tY:=DS->MH->RK->Prop
def gL(K:cc)(t:tY):TR:=fun σ H E=>∃δ M R,Slots K H δ σ/\Abs K H M/\t δ M R/\∀C dd M' H1 H',Grow K H H1->Abs K H' M'->R C dd M'->E H1 (.ref C) dd H'
def Az(sp:qD)(t:TAD):tY:=fun δ M R=>t δ M fun ds M1=>sp ds M1 R
section
variable{Y:Cx}
theorem nU{k:Nat}{x:Str}{sp:qD}{p pos:Pos}{e:Expr}{es:List Expr}{t:TAD}(C:mj Y.prog Y.w Y.K Y.mg Y.base k x sp)(hr:Room k Y.A)(ha:DA Y.nox (e::es) t)(hg:Gl Y.nox x:=by rfl)(hdb:(x==("__debug__":Str))=false:=by decide) (he:Hc (e::es) Y.env=(false,eval e Y.env)::Hc es Y.env:=by rfl) (hpl:(IV pos (Hc es Y.env)).any (·.1)=false:=by rfl):C4 Y.nox (.Call (.Name x p) (e::es) [] pos) (gL Y.K (Az sp t)):=by obtain⟨f,fd,ps,F,hm,hk,hb⟩:=C;intro pins s σ H E I ⟨δ,M,R,hs,hM,q,fin⟩;exact xO F hr hg hm hk hb ha hdb he hpl pins s σ H E I ⟨δ,M,_,hs,hM,q,fun ds M1 vs H1 g1 r1 a1 q1=>⟨ds,M1,R,r1,a1,q1,fun C dd M' H' a' q'=>fin C dd M' H1 H' g1 a' q'⟩⟩
def C9(K:cc)(S:Addr)(j:Nat)(tb:TSD)(tR:tY)(th:TSD):TSD:=fun B δ M=>tb B δ M\/
 tR δ M fun C dd M'=>HY K (.ref C) (.ref S)=some true/\∀a,M' a=none->th (BP j B) (δ.set j (some (.ref a))) (av M' a (iD C dd))
theorem Bl{body:List Stmt}{b₀:Stmt}{bs:List Stmt}{c n:Str}{cp hp pos:Pos}{S:Addr}{tb:TSD}{tR:tY}{th:TSD}(j:Nat)(hN:Y.N.Nodup)(cl:ClsE Y.K c S)(hm:Y.mg c=some (.ref S))(hB:HY Y.K (.ref S) (.type "BaseException")=some true)
 (hb:DSs Y.nox body tb) (hr:vI Y.nox body (gL Y.K tR)) (hh:∀a,DSs (hold Y.nox a) (b₀::bs) th)
 (hj:Y.N[j]?=some n:=by rfl) (hk:Y.env.scope.names.lookup n=some .local:=by rfl) (hg:Gl Y.nox c:=by rfl) (hdb:(c==("__debug__":Str))=false:=by decide) (hst:Y.stack=Y.env::Y.outer:=by rfl) (hfr:Y.env.frame=some Y.env.locals:=by rfl) (hex:Y.ex=[]:=by rfl) :
 DSt Y.nox (.Try body [.ExceptHandler (some (.Name c cp)) (some n) (b₀::bs) hp] [] [] pos) (C9 Y.K S j tb tR th):=
 dA (Bn (tb:=uA Y.K tb) (tR:=gL Y.K tR) (th:=uA Y.K th) hst hfr hex hN hj hk hg hm hdb cl.ex hB hb hr hh) fun D σ H ⟨δ,M,hs,a,B,ok,q⟩=>by
  rcases q with q|q
  ·exact .inl ⟨δ,M,hs,a,B,ok,q⟩
  ·refine .inr ⟨δ,M,_,hs,a,q,fun C dd M' H1 H' g1 a' z=>⟨C,rfl,z.1,fun g2 x hx=>?_⟩⟩
   have g3:Grow Y.K H (upd H' x (.ext (rz x C dd))):=(g1.trans g2).trans (.new hx)
   refine⟨δ.set j (some (.ref x)),av M' x (iD C dd),(hs.mono g3).set (by rw[Rep]) j,a'.EI hx (Ge aY fun h z=>z),BP j B,?_,z.2 x (a'.fresh hx)⟩
   exact⟨fun δ' M2 σ' H2 g' s' a2 z=>ok.nx _ _ _ _ (g3.trans g') (s'.gone j) a2 z,fun d M2 v H2 g' r a2 z=>ok.rt _ _ _ _ (g3.trans g') r a2 z,fun δ' M2 σ' H2 g' s' a2 z=>ok.bk _ _ _ _ (g3.trans g') (s'.gone j) a2 z,fun δ' M2 σ' H2 g' s' a2 z=>ok.ct _ _ _ _ (g3.trans g') (s'.gone j) a2 z⟩
end
def vh(s:Stmt)(i:Nat):Stmt:=match s with
 |.ClassDef _ _ _ b _ _ _ _ _ _ _=>b.getD i (.Pass ⟨0,0,0,0⟩)
 |_=>.Pass ⟨0,0,0,0⟩
section
variable{X:Cx}{e:Expr}{es:List Expr}{c1 c2:L2.St->Hp->Prop}
theorem parts_nil:Parts X [] (fun _ _=>True):=fun _ _=>trivial
theorem iP(h1:Part X e c1)(h2:Parts X es c2):Parts X (e::es) (fun σ H=>c1 σ H/\c2 σ H):=⟨c1,c2,h1,h2,fun _ _ z=>z⟩
end
section
variable{P:Hi}{w:HL}{K:cc}{mg:Str->Option G0}{base:Heap}{C S fI:Addr}{n1 n2:Str}{N:List Str}{vs:List V}{H:Hp}{Q:VK}{E:XK}{c:L2.St->Hp->Prop}
theorem Ee(M:ClsI K C S fI)(h1:findIn K (.ref C) n1=some none)(hN:N.length=2)(h:spI C [n1] vs H Q E)(hc:∀a y,Small y->c [some (.ref a),some y] H) :
 El (BY (BB K S (zx (yj 0) (zx (Fb c) FD)))) (B9 K (yj 0) (yj 1) n1) { nx:=fun _ H'=>Q .non H',rt:=Q } (L2.start N vs) H:=by
 obtain⟨a,ys,rfl,hl,sm,hx,q⟩:=h
 match ys,hl with
 |[y],_=>
  have e:L2.start N [.ref a,y]=[some (.ref a),some y]:=by unfold L2.start;rw[hN];rfl
  rw[e]
  refine⟨_,rfl,hc a y (sm y (by simp)),fun m=>⟨a,m,C,fI,none,rfl,M,hx,?_⟩⟩
  exact⟨_,rfl,_,rfl,a,C,S,fI,rfl,M,h1,.inl ⟨aY,fun dx hd=>by
   have ne:dx≠a:=fun z=>by subst z;rw[aY]at hd;cases hd
   rw[z5];rw[aR ne]at hd;exact q dx hd⟩⟩
end
section
variable{K:cc}{mg:Str->Option G0}{x y qual:Str}{st:Stmt}{C S fI:Addr}
theorem Cy{n:Str}(a:Ih K HK x=some (some (.ref C)))(h:findIn K (.ref C) n=some none):findIn K (.ref (cl K x)) n=some none:=by rw[eV a];exact h
theorem yr{n:String}(h:JN K S veM n=true):PySem.W.tailIn K veM (.ref S::veM)=true:=by
 unfold JN at h;split at h
 ·rename_i dct cd sl hl;split at h
  ·simp only[Hl,beq_iff_eq]at h;unfold PySem.W.tailIn;simp only[hl,JG,Hl,beq_iff_eq];refine .inr ⟨⟨h.1.2,h.2⟩,?_⟩;unfold PySem.W.tailIn;simp
  ·cases h
 ·cases h
theorem Ae{cn cq:Str}{NS fI:Addr}{bss:List G0}{hdct:Bool}{sn:List Str}{sub:List G0}{ab:Bool}{col:Option Bool}{dd:Option Addr}{k0 k1 k2 k3 k5:Option G0}{nc:G0}{nd:Option Addr}{es:Array Iz}{en:Nat}{ns:Array (Option G0)}{oc:G0}{od an:Option Addr}{osl:Array (Option G0)}{kV doc pm cdv ct:G0}
 (a:Ih K HK x=some (some (.ref C))) (b:Ih K HK y=some (some (.ref S))) (l:K.lookup C=some (excClassObj cn cq C NS bss (.ref S::veM) hdct sn sub ab col dd k0 k1 k2 k3 k5 "ValueError.__new__")) (lN:K.lookup NS=some ⟨nc,nd,.dict es en,ns⟩) (ok:(es.toList.all fun e=>match e.key with|.str _ _=>true|_=>false)=true) (ni:Ih K NS "__init__"=some (some (.ref fI)))
 (e:JN K S veM "ValueError.__new__"=true) (fn:PySem.W.typeIn K (.ref fI)=some (.type "function")) (kp:Jd K (.ref C)=true) (hd:Ji K C=true) (sa:findIn K (.ref C) "__setattr__"=some (some (.builtin "object.__setattr__"))) (ob:HY K (.ref C) (.type "object")=some true)
 (lf:K.lookup fI=some ⟨oc,od,.func (IQ "__init__" qual (cb st) (bo st) (aq st) .none kV doc pm an cdv ct),osl⟩) (cf:PySem.W.codeIn K cdv qual=true) (kf:Jd K (.ref fI)=true):∃fI fd,ClsI K (cl K x) (cl K y) fI/\Fun K "__init__" qual st fI fd:=by
 rw[eV a,eV b]
 have okN:PySem.W.nsOkIn K NS=true:=by unfold PySem.W.nsOkIn;rw[lN];show(es.all _)=true;rw[<-Array.all_toList];exact ok
 exact⟨fI,_,⟨⟨_,_,_,_,_,_,_,_,_,_,_,_,_,_,_,l,okN,ni⟩,yr e,fn,kp,hd,sa,ob⟩,zr lf cf kf⟩
theorem Br(a:Ih K HK x=some (some (.ref C)))(h1:PySem.W.specialIn K (.ref C) "__getattribute__"=some (some (.builtin "type.__getattribute__")))(h2:PySem.W.readsIn K C (.type "type")=true)(h3:PySem.W.findCls K (.ref C) (.type "type") "__init__"=some (.val (.builtin "ValueError.__init__"))):ClsB K (cl K x):=by rw[eV a];exact⟨h1,h2,h3⟩
theorem E1(a:Ih K HK x=some (some (.ref C)))(h:Ji K C=true):Ji K (cl K x)=true:=by rw[eV a];exact h
end
section
variable{Y:Cx}{c:Expr}{a b:List Stmt}{pos:Pos}
def Gf(tc:TTD)(ta tb:tY):tY:=fun δ M R=>tc δ M fun d M1=>if d=true then ta δ M1 R else tb δ M1 R
theorem CM{tc:TTD}{ta tb:tY}(hc:DT Y.nox c tc)(ha:vI Y.nox a (gL Y.K ta))(hb:vI Y.nox b (gL Y.K tb)):vI Y.nox [.If c a b pos] (gL Y.K (Gf tc ta tb)):=by
 intro pins s σ H E I q;obtain⟨δ,M,R,hs,hM,q,fin⟩:=q;refine wpAny_execs_cons (Q:=fun _ _=>False) (thn (Q:=fun _ _=>False) ?_ fun f s1 z=>z.elim);refine wpAny_If (HS (hc pins s σ H (fun d H1=>if d=true then gL Y.K ta σ H1 E else gL Y.K tb σ H1 E) I ⟨δ,M,_,hs,hM,q,fun d M1 H1 g1 a1 q1=>?_⟩) (fun d s1 z=>?_) (fun e s1 z=>z.elim))
 ·cases d with
  |true=>rw[if_pos rfl]at q1 ⊢;exact⟨δ,M1,R,hs.mono g1,a1,q1,fun C dd M' H2 H' g a' r=>fin C dd M' H2 H' (g1.trans g) a' r⟩
  |false=>rw[if_neg G6]at q1 ⊢;exact⟨δ,M1,R,hs.mono g1,a1,q1,fun C dd M' H2 H' g a' r=>fin C dd M' H2 H' (g1.trans g) a' r⟩
 ·obtain⟨H1,I1,q1⟩:=z;cases d with
  |true=>rw[if_pos rfl]at q1;exact ha pins s1 σ H1 E I1 q1
  |false=>rw[if_neg G6]at q1;exact hb pins s1 σ H1 E I1 q1
end
open PySem PySem.Spec PyProof.Rows L2 Ma
def Ow(w:Wl):Prop:=w.1<w.2.2.1\/(w.1=w.2.2.1/\w.2.1<w.2.2.2)
def fJ(x y:Int):Prop:=0<x\/(x=0/\0<y)
def onB(w:Wl)(x y:Int):Bool:=(HT.lexLe [w.1,w.2.1] [x,y]&&HT.lexLe [x,y] [w.2.2.1,w.2.2.2])&&decide (sd w x y=0)
def zO(w:Wl)(x y:Int):Bool:=decide (w.1=x/\w.2.1=y)||decide (w.2.2.1=x/\w.2.2.2=y)
def inB(w:Wl)(x y:Int):Bool:=!zO w x y&&onB w x y
def eqB(U V:Wl):Bool:=decide (U.1=V.1/\U.2.1=V.2.1/\U.2.2.1=V.2.2.1/\U.2.2.2=V.2.2.2)
def gk(U V:Wl):Bool:=!(eqB U V)&&!(inB U V.1 V.2.1)&&!(inB U V.2.2.1 V.2.2.2)&&!(inB V U.1 U.2.1)&&!(inB V U.2.2.1 U.2.2.2)&&(decide (0<=HC (sd1 U V)*HC (sd2 U V))||decide (0<=HC (sd1 V U)*HC (sd2 V U)))
theorem u9{a b c d:Int}:HT.lexLe [a,b] [c,d]=true↔¬fJ (a-c) (b-d):=by rw[d3,Il,<-Bool.not_eq_true,a6];unfold fJ;omega
theorem lp{W h dx dy ux uy:Int}(hW:0<W)(hu:fJ ux uy)(ex:W*dx=h*ux)(ey:W*dy=h*uy):(fJ dx dy↔0<h)/\((dx=0/\dy=0)↔h=0):=by
 rcases Ij h 0 with z|z|z
 ·have:¬fJ dx dy/\¬(dx=0/\dy=0):=by
   rcases hu with u|⟨u,v⟩
   ·have:h*ux<0:=Int.mul_neg_of_neg_of_pos z u;have:dx<0:=xh hW (by rw[Int.mul_comm];omega);unfold fJ;omega
   ·subst u;have:h*uy<0:=Int.mul_neg_of_neg_of_pos z v;have h1:dy<0:=xh hW (by rw[Int.mul_comm];omega);have h2:dx=0:=by rw[Int.mul_zero]at ex;rcases Jm.mp ex with y|y<;>omega
    unfold fJ;omega
  exact⟨⟨fun y=>absurd y this.1,fun y=>by omega⟩,⟨fun y=>absurd y this.2,fun y=>by omega⟩⟩
 ·subst z;rw[Int.zero_mul]at ex ey;have h1:dx=0:=by rcases Jm.mp ex with y|y<;>omega
  have h2:dy=0:=by rcases Jm.mp ey with y|y<;>omega
  subst h1 h2;unfold fJ;exact⟨by omega,by omega⟩
 ·have:fJ dx dy:=by
   rcases hu with u|⟨u,v⟩
   ·have:0<h*ux:=II z u;exact .inl (yy hW (by rw[Int.mul_comm];omega))
   ·subst u;have:0<h*uy:=II z v;have h1:0<dy:=yy hW (by rw[Int.mul_comm];omega);have h2:dx=0:=by rw[Int.mul_zero]at ex;rcases Jm.mp ex with y|y<;>omega
    exact .inr ⟨h2,h1⟩
  exact⟨⟨fun _=>z,fun _=>this⟩,⟨fun y=>by unfold fJ at this;omega,fun y=>by omega⟩⟩
theorem qx{w:Wl}(h:Ow w):fJ (w.2.2.1-w.1) (w.2.2.2-w.2.1):=by unfold Ow at h;unfold fJ;omega
theorem uM{w:Wl}{x y W h:Int}(hw:Ow w)(hW:0<W)(ex:W*(x-w.1)=h*(w.2.2.1-w.1))(ey:W*(y-w.2.1)=h*(w.2.2.2-w.2.1))(hs:sd w x y=0):inB w x y=decide (0<h/\h<W):=by
 have u:=qx hw;obtain⟨a1,a2⟩:=lp hW u ex ey;have fx:W*(w.2.2.1-x)=(W-h)*(w.2.2.1-w.1):=by grind
 have fy:W*(w.2.2.2-y)=(W-h)*(w.2.2.2-w.2.1):=by grind
 obtain⟨b1,b2⟩:=lp hW u fx fy
 have e1:HT.lexLe [w.1,w.2.1] [x,y]=decide (0<=h):=by
  rw[Hy,u9,decide_eq_true_iff]
  have:fJ (w.1-x) (w.2.1-y)↔¬fJ (x-w.1) (y-w.2.1)/\¬(x-w.1=0/\y-w.2.1=0):=by unfold fJ;omega
  rw[this,a1,a2];omega
 have e2:HT.lexLe [x,y] [w.2.2.1,w.2.2.2]=decide (h<=W):=by
  rw[Hy,u9,decide_eq_true_iff]
  have:fJ (x-w.2.2.1) (y-w.2.2.2)↔¬fJ (w.2.2.1-x) (w.2.2.2-y)/\¬(w.2.2.1-x=0/\w.2.2.2-y=0):=by unfold fJ;omega
  rw[this,b1,b2];omega
 have e3:decide (w.1=x/\w.2.1=y)=decide (h=0):=by rw[decide_eq_decide,<-a2];omega
 have e4:decide (w.2.2.1=x/\w.2.2.2=y)=decide (h=W):=by
  rw[decide_eq_decide]
  have:(w.2.2.1=x/\w.2.2.2=y)↔(w.2.2.1-x=0/\w.2.2.2-y=0):=by omega
  rw[this,b2];omega
 unfold inB zO onB;rw[e1,e2,e3,e4,decide_eq_true hs,Bool.and_true,Hy];simp only[Hl,Il,Bool.or_eq_false_iff,decide_eq_false_iff_not,decide_eq_true_eq];omega
theorem gU{w:Wl}{x y:Int}(hs:sd w x y≠0):inB w x y=false:=by unfold inB onB;rw[decide_eq_false hs];simp
theorem BC{g W:Int}(hW:0<W){a b:Int}(ha:a=-g/\b=W-g\/a=g/\b=g-W):0<=HC a*HC b↔¬(0<g/\g<W):=by
 have key:∀x y:Int,0<=HC x*HC y↔¬((0<x/\y<0)\/(x<0/\0<y)):=fun x y=>by
  rcases Ij x 0 with u|u|u<;>rcases Ij y 0 with v|v|v
  ·rw[Ht u,Ht v];omega
  ·subst v;simp<;>omega
  ·rw[Ht u,HI v];omega
  ·subst u;simp<;>omega
  ·subst u;simp
  ·subst u;simp<;>omega
  ·rw[HI u,Ht v];omega
  ·subst v;simp<;>omega
  ·rw[HI u,HI v];omega
 rw[key];rcases ha with⟨rfl,rfl⟩|⟨rfl,rfl⟩<;>omega
theorem t9{U V:Wl}{W h g:Int}(hU:Ow U)(hV:Ow V)(hW:0<W)(ix:W*(V.1-U.1)=h*(U.2.2.1-U.1)-g*(V.2.2.1-V.1))(iy:W*(V.2.1-U.2.1)=h*(U.2.2.2-U.2.1)-g*(V.2.2.2-V.2.1))
 (ss:(sd1 U V=-g/\sd2 U V=W-g/\sd1 V U=h/\sd2 V U=h-W)\/(sd1 U V=g/\sd2 U V=g-W/\sd1 V U=-h/\sd2 V U=W-h)) (ne:eqB U V=false) :
 gk U V=decide (¬(0<=h/\h<=W/\0<=g/\g<=W)\/((h=0\/h=W)/\(g=0\/g=W))):=by
 have i1:inB U V.1 V.2.1=decide (g=0/\0<h/\h<W):=by
  by_cases z:g=0
  ·subst z
   rw[uM hU hW (h:=h) (by rw[ix];grind) (by rw[iy];grind) (show sd1 U V=0 by omega),decide_eq_decide];omega
  ·rw[gU (show sd1 U V≠0 by omega)];exact(decide_eq_false (fun q=>z q.1)).symm
 have i2:inB U V.2.2.1 V.2.2.2=decide (g=W/\0<h/\h<W):=by
  by_cases z:g=W
  ·subst z
   rw[uM hU hW (h:=h) (by grind) (by grind) (show sd2 U V=0 by omega),decide_eq_decide];omega
  ·rw[gU (show sd2 U V≠0 by omega)];exact(decide_eq_false (fun q=>z q.1)).symm
 have i3:inB V U.1 U.2.1=decide (h=0/\0<g/\g<W):=by
  by_cases z:h=0
  ·subst z
   rw[uM hV hW (h:=g) (by grind) (by grind) (show sd1 V U=0 by omega),decide_eq_decide];omega
  ·rw[gU (show sd1 V U≠0 by omega)];exact(decide_eq_false (fun q=>z q.1)).symm
 have i4:inB V U.2.2.1 U.2.2.2=decide (h=W/\0<g/\g<W):=by
  by_cases z:h=W
  ·subst z
   rw[uM hV hW (h:=g) (by grind) (by grind) (show sd2 V U=0 by omega),decide_eq_decide];omega
  ·rw[gU (show sd2 V U≠0 by omega)];exact(decide_eq_false (fun q=>z q.1)).symm
 have s1:0<=HC (sd1 U V)*HC (sd2 U V)↔¬(0<g/\g<W):=BC hW (by rcases ss with y|y<;>omega)
 have s2:0<=HC (sd1 V U)*HC (sd2 V U)↔¬(0<h/\h<W):=BC hW (by rcases ss with y|y<;>omega)
 have d1:decide (0<=HC (sd1 U V)*HC (sd2 U V))=decide (¬(0<g/\g<W)):=decide_eq_decide.mpr s1
 have d2:decide (0<=HC (sd1 V U)*HC (sd2 V U))=decide (¬(0<h/\h<W)):=decide_eq_decide.mpr s2
 unfold gk
 rw[ne,i1,i2,i3,i4,d1,d2,Hy]
 simp only[Hl,Il,JG,decide_eq_false_iff_not,decide_eq_true_eq,Bool.not_false,true_and]
 omega
theorem pW{n a b c d:Int}(h:b-d<n/\d-b<n):HT.lexLt [a,b] [c,d]=decide (n*a+b<n*c+d):=by
 rw[Hy,a6,decide_eq_true_iff];rcases Ij a c with z|z|z
 ·have:n*1<=n*(c-a):=Jf (by omega) (by omega);have e:n*(c-a)=n*c-n*a:=by grind
  omega
 ·subst z;omega
 ·have:n*1<=n*(a-c):=Jf (by omega) (by omega);have e:n*(a-c)=n*a-n*c:=by grind
  omega
theorem AJ{n a b c d:Int}(h:b-d<n/\d-b<n):(a=c/\b=d)↔n*a+b=n*c+d:=by
 have h1:=pW (a:=a) (c:=c) h;have h2:=pW (a:=c) (c:=a) (b:=d) (d:=b) ⟨h.2,h.1⟩;rw[Hy,a6,decide_eq_true_iff]at h1 h2;constructor
 ·rintro⟨rfl,rfl⟩;rfl
 ·omega
theorem il{a b:Int}{S:Nat}(h:a.natAbs+b.natAbs<=S):a-b<1+2*(S:Int)/\b-a<1+2*(S:Int):=by omega
theorem le4(p q r s:Nat):p+q<=p+q+r+s/\r+s<=p+q+r+s/\p+r<=p+q+r+s/\p+s<=p+q+r+s/\q+r<=p+q+r+s/\q+s<=p+q+r+s:=by omega
theorem vX{U V:Wl}(hU:Ow U)(hV:Ow V)(z1:sd1 U V=0)(z2:sd2 U V=0)(z3:sd1 V U=0)(z4:sd2 V U=0) :
 gk U V=!HT.lexLt [(dE U.1 U.2.1 V.1 V.2.1).1,(dE U.1 U.2.1 V.1 V.2.1).2] [(fQ U.2.2.1 U.2.2.2 V.2.2.1 V.2.2.2).1,(fQ U.2.2.1 U.2.2.2 V.2.2.1 V.2.2.2).2]:=by
 obtain⟨n,hn⟩:∃n:Int,n=1+2*((U.2.1.natAbs+U.2.2.2.natAbs+V.2.1.natAbs+V.2.2.2.natAbs:Nat):Int):=⟨_,rfl⟩
 have L4:=le4 U.2.1.natAbs U.2.2.2.natAbs V.2.1.natAbs V.2.2.2.natAbs
 have lt:=fun{a b c d:Int} (h:b-d<n/\d-b<n)=>pW (a:=a) (c:=c) h
 have ij:=fun{a b c d:Int} (h:b-d<n/\d-b<n)=>AJ (a:=a) (c:=c) h
 have B1:U.2.1-U.2.2.2<n/\U.2.2.2-U.2.1<n:=by rw[hn];exact il L4.1
 have B2:V.2.1-V.2.2.2<n/\V.2.2.2-V.2.1<n:=by rw[hn];exact il L4.2.1
 have B3:U.2.1-V.2.1<n/\V.2.1-U.2.1<n:=by rw[hn];exact il L4.2.2.1
 have B4:U.2.1-V.2.2.2<n/\V.2.2.2-U.2.1<n:=by rw[hn];exact il L4.2.2.2.1
 have B5:U.2.2.2-V.2.1<n/\V.2.1-U.2.2.2<n:=by rw[hn];exact il L4.2.2.2.2.1
 have B6:U.2.2.2-V.2.2.2<n/\V.2.2.2-U.2.2.2<n:=by rw[hn];exact il L4.2.2.2.2.2
 clear hn
 have hU':n*U.1+U.2.1<n*U.2.2.1+U.2.2.2:=by have:=lt (a:=U.1) (c:=U.2.2.1) B1;rw[Hy,a6,decide_eq_true_iff]at this;exact this.mp hU
 have hV':n*V.1+V.2.1<n*V.2.2.1+V.2.2.2:=by have:=lt (a:=V.1) (c:=V.2.2.1) B2;rw[Hy,a6,decide_eq_true_iff]at this;exact this.mp hV
 have sw:∀{a b:Int},a-b<n/\b-a<n->b-a<n/\a-b<n:=fun z=>⟨z.2,z.1⟩
 have inx:∀{w:Wl} {x y:Int},sd w x y=0->(w.2.1-y<n/\y-w.2.1<n)->(w.2.2.2-y<n/\y-w.2.2.2<n)->n*w.1+w.2.1<n*w.2.2.1+w.2.2.2->inB w x y=decide (n*w.1+w.2.1<n*x+y/\n*x+y<n*w.2.2.1+w.2.2.2):=fun{w x y} hs b1 b2 lw=>by
  have e1:decide (w.1=x/\w.2.1=y)=decide (n*w.1+w.2.1=n*x+y):=decide_eq_decide.mpr (ij b1)
  have e2:decide (w.2.2.1=x/\w.2.2.2=y)=decide (n*w.2.2.1+w.2.2.2=n*x+y):=decide_eq_decide.mpr (ij b2)
  have e3:HT.lexLt [x,y] [w.1,w.2.1]=decide (n*x+y<n*w.1+w.2.1):=lt (sw b1)
  have e4:HT.lexLt [w.2.2.1,w.2.2.2] [x,y]=decide (n*w.2.2.1+w.2.2.2<n*x+y):=lt b2
  unfold inB zO onB
  rw[decide_eq_true hs,d3,d3,e1,e2,e3,e4,Bool.and_true,Hy]
  simp only[Hl,Il,Bool.or_eq_false_iff,decide_eq_false_iff_not,decide_eq_true_eq]
  omega
 have i1:=inx (w:=U) (x:=V.1) (y:=V.2.1) z1 B3 B5 hU'
 have i2:=inx (w:=U) (x:=V.2.2.1) (y:=V.2.2.2) z2 B4 B6 hU'
 have i3:=inx (w:=V) (x:=U.1) (y:=U.2.1) z3 (sw B3) (sw B4) hV'
 have i4:=inx (w:=V) (x:=U.2.2.1) (y:=U.2.2.2) z4 (sw B5) (sw B6) hV'
 have i5:eqB U V=decide (n*U.1+U.2.1=n*V.1+V.2.1/\n*U.2.2.1+U.2.2.2=n*V.2.2.1+V.2.2.2):=by
  unfold eqB
  rw[decide_eq_decide,<-ij B3,<-ij B6]
  exact⟨fun z=>⟨⟨z.1,z.2.1⟩,z.2.2⟩,fun z=>⟨z.1.1,z.1.2,z.2⟩⟩
 have j1:HT.lexLt [U.1,U.2.1] [V.1,V.2.1]=decide (n*U.1+U.2.1<n*V.1+V.2.1):=lt B3
 have j2:HT.lexLt [V.2.2.1,V.2.2.2] [U.2.2.1,U.2.2.2]=decide (n*V.2.2.1+V.2.2.2<n*U.2.2.1+U.2.2.2):=lt (sw B6)
 have j3:HT.lexLt [V.1,V.2.1] [V.2.2.1,V.2.2.2]=decide (n*V.1+V.2.1<n*V.2.2.1+V.2.2.2):=lt B2
 have j4:HT.lexLt [V.1,V.2.1] [U.2.2.1,U.2.2.2]=decide (n*V.1+V.2.1<n*U.2.2.1+U.2.2.2):=lt (sw B5)
 have j5:HT.lexLt [U.1,U.2.1] [V.2.2.1,V.2.2.2]=decide (n*U.1+U.2.1<n*V.2.2.1+V.2.2.2):=lt B4
 have j6:HT.lexLt [U.1,U.2.1] [U.2.2.1,U.2.2.2]=decide (n*U.1+U.2.1<n*U.2.2.1+U.2.2.2):=lt B1
 have fb:gk U V=(!(decide (n*U.1+U.2.1=n*V.1+V.2.1/\n*U.2.2.1+U.2.2.2=n*V.2.2.1+V.2.2.2))&&!(decide (n*U.1+U.2.1<n*V.1+V.2.1/\n*V.1+V.2.1<n*U.2.2.1+U.2.2.2))&&!(decide (n*U.1+U.2.1<n*V.2.2.1+V.2.2.2/\n*V.2.2.1+V.2.2.2<n*U.2.2.1+U.2.2.2))&&!(decide (n*V.1+V.2.1<n*U.1+U.2.1/\n*U.1+U.2.1<n*V.2.2.1+V.2.2.2))&&!(decide (n*V.1+V.2.1<n*U.2.2.1+U.2.2.2/\n*U.2.2.1+U.2.2.2<n*V.2.2.1+V.2.2.2))):=by
  unfold gk
  rw[i1,i2,i3,i4,i5,z1,z2,z3,z4]
  simp
 rw[fb]
 unfold dE fQ
 rw[d5,j1,j2]
 generalize n*U.1+U.2.1=A at *
 generalize n*U.2.2.1+U.2.2.2=B at *
 generalize n*V.1+V.2.1=C at *
 generalize n*V.2.2.1+V.2.2.2=D at *
 clear inx i1 i2 i3 i4 i5 lt ij
 by_cases y1:A<C<;>by_cases y2:D<B
 ·rw[decide_eq_true y1,decide_eq_true y2,if_pos rfl,if_pos rfl,j3,Hy]
  simp only[Hl,Il,decide_eq_false_iff_not]
  omega
 ·rw[decide_eq_true y1,decide_eq_false y2,if_pos rfl,if_neg G6,j4,Hy]
  simp only[Hl,Il,decide_eq_false_iff_not]
  omega
 ·rw[decide_eq_false y1,decide_eq_true y2,if_neg G6,if_pos rfl,j5,Hy]
  simp only[Hl,Il,decide_eq_false_iff_not]
  omega
 ·rw[decide_eq_false y1,decide_eq_false y2,if_neg G6,if_neg G6,j6,Hy]
  simp only[Hl,Il,decide_eq_false_iff_not]
  omega
def inS(t b X Y:Int)(w:Wl)(x y:Rat):Bool:=decide (Ma.ut t b X 1 w.1=x/\Ma.ut t b Y 1 w.2.1=y)||decide (Ma.ut t b X 1 w.2.2.1=x/\Ma.ut t b Y 1 w.2.2.2=y)
def mtD(t b X Y:Int)(U V:Wl):D:=mD (Ma.ut t b X 1 U.1) (Ma.ut t b Y 1 U.2.1) (Ma.ut t b X 1 U.2.2.1) (Ma.ut t b Y 1 U.2.2.2) (Ma.ut t b X 1 V.1) (Ma.ut t b Y 1 V.2.1) (Ma.ut t b X 1 V.2.2.1) (Ma.ut t b Y 1 V.2.2.2)
inductive Meets(t b X Y:Int)(U V:Wl):D->Prop
 |non (h:gk U V=true):Meets t b X Y U V .non
 |str {d:D} (h:gk U V=false):Meets t b X Y U V (.tup [.str "stretch",d])
 |spot {x y:Rat} (h:gk U V=(inS t b X Y U x y&&inS t b X Y V x y)):Meets t b X Y U V (.tup [.str "spot",Ma.spt x y])
theorem ku{t b X x p W k d:Int}(ht:0<t)(hb:0<b)(hW:0<W):Ma.ut t b X 1 x=Ma.ut t b X W (p*W+k*d)↔W*(x-p)=k*d:=by rw[Ma.yS ht hb (by decide) hW];constructor<;>intro h<;>grind
theorem meets{t b X Y:Int}{U V:Wl}(ht:0<t)(hb:0<b)(hU:Ow U)(hV:Ow V):Meets t b X Y U V (mtD t b X Y U V):=by
 unfold mtD;rw[zq ht hb];have uU:=qx hU;have uV:=qx hV;have i1:sd2 U V=sd1 U V+crs (U.2.2.1-U.1) (U.2.2.2-U.2.1) (V.2.2.1-V.1) (V.2.2.2-V.2.1):=u6 _ _ _ _ _ _ _ _;have i2:sd1 V U=crs (V.1-U.1) (V.2.1-U.2.1) (V.2.2.1-V.1) (V.2.2.2-V.2.1):=uO _ _ _ _ _ _;have i3:sd2 V U=crs (V.1-U.1) (V.2.1-U.2.1) (V.2.2.1-V.1) (V.2.2.2-V.2.1)-crs (U.2.2.1-U.1) (U.2.2.2-U.2.1) (V.2.2.1-V.1) (V.2.2.2-V.2.1):=uj _ _ _ _ _ _ _ _;have i4:crs (V.1-U.1) (V.2.1-U.2.1) (U.2.2.1-U.1) (U.2.2.2-U.2.1)=-sd1 U V:=ve _ _ _ _ _ _;have i5:crs (U.2.2.1-U.1) (U.2.2.2-U.2.1) (V.1-U.1) (V.2.1-U.2.1)=sd1 U V:=rfl;have ix:=BR U.1 U.2.1 U.2.2.1 U.2.2.2 V.1 V.2.1 V.2.2.1 V.2.2.2;have iy:=BG U.1 U.2.1 U.2.2.1 U.2.2.2 V.1 V.2.1 V.2.2.1 V.2.2.2;unfold xv;rw[i4];rw[i5]at ix iy ⊢;rw[<-i2]at ix iy i3 ⊢;generalize hw:crs (U.2.2.1-U.1) (U.2.2.2-U.2.1) (V.2.2.1-V.1) (V.2.2.2-V.2.1)=w at *;dsimp only;by_cases z:w=0
 ·subst z;rw[if_pos rfl];rw[Int.add_zero]at i1;rw[Int.sub_zero]at i3;rw[Int.zero_mul]at ix iy;by_cases y:sd1 U V=0
  ·have H0:sd1 V U=0:=by
    rw[y,Int.zero_mul,Int.add_zero]at ix iy;rcases Jm.mp ix.symm with q|q
    ·exact q
    ·rcases Jm.mp iy.symm with q'|q'
     ·exact q'
     ·unfold fJ at uU;omega
   have fl:=vX hU hV y (i1.trans y) H0 (i3.trans H0);by_cases g:HT.bY [(dE U.1 U.2.1 V.1 V.2.1).1,(dE U.1 U.2.1 V.1 V.2.1).2] [(fQ U.2.2.1 U.2.2.2 V.2.2.1 V.2.2.2).1,(fQ U.2.2.1 U.2.2.2 V.2.2.1 V.2.2.2).2]=true
   ·rw[if_pos (.inr g)];refine .non ?_;rw[fl,Il,<-Bool.not_eq_true];intro q;rw[d5,a6]at g;rw[a6]at q;omega
   ·rw[if_neg (fun q=>q.elim (fun q=>q y) g)];by_cases e:(dE U.1 U.2.1 V.1 V.2.1).1=(fQ U.2.2.1 U.2.2.2 V.2.2.1 V.2.2.2).1/\(dE U.1 U.2.1 V.1 V.2.1).2=(fQ U.2.2.1 U.2.2.2 V.2.2.1 V.2.2.2).2
    ·rw[if_pos e];refine .spot ?_;have f1:gk U V=true:=by rw[fl,Il,<-Bool.not_eq_true,a6];omega
     rw[f1]
     have:inS t b X Y U (Ma.ut t b X 1 (dE U.1 U.2.1 V.1 V.2.1).1) (Ma.ut t b Y 1 (dE U.1 U.2.1 V.1 V.2.1).2)=true/\inS t b X Y V (Ma.ut t b X 1 (dE U.1 U.2.1 V.1 V.2.1).1) (Ma.ut t b Y 1 (dE U.1 U.2.1 V.1 V.2.1).2)=true:=by
      unfold Ow at hU hV;unfold dE fQ at e;unfold dE;by_cases y1:HT.bY [V.1,V.2.1] [U.1,U.2.1]=true
      ·rw[if_pos y1]at e ⊢;by_cases y2:HT.lexLt [V.2.2.1,V.2.2.2] [U.2.2.1,U.2.2.2]=true
       ·rw[if_pos y2]at e;dsimp only at e;omega
       ·rw[if_neg y2]at e;dsimp only at e ⊢;unfold inS;refine⟨?_,?_⟩
        ·rw[e.1,e.2,decide_eq_true (p:=Ma.ut t b X 1 U.2.2.1=Ma.ut t b X 1 U.2.2.1/\_) ⟨rfl,rfl⟩,Bool.or_true]
        ·rw[decide_eq_true (p:=Ma.ut t b X 1 V.1=Ma.ut t b X 1 V.1/\_) ⟨rfl,rfl⟩,Bool.true_or]
      ·rw[if_neg y1]at e ⊢;by_cases y2:HT.lexLt [V.2.2.1,V.2.2.2] [U.2.2.1,U.2.2.2]=true
       ·rw[if_pos y2]at e;dsimp only at e ⊢;unfold inS;refine⟨?_,?_⟩
        ·rw[decide_eq_true (p:=Ma.ut t b X 1 U.1=Ma.ut t b X 1 U.1/\_) ⟨rfl,rfl⟩,Bool.true_or]
        ·rw[e.1,e.2,decide_eq_true (p:=Ma.ut t b X 1 V.2.2.1=Ma.ut t b X 1 V.2.2.1/\_) ⟨rfl,rfl⟩,Bool.or_true]
       ·rw[if_neg y2]at e;dsimp only at e;omega
     rw[this.1,this.2];rfl
    ·rw[if_neg e];refine .str ?_;rw[fl,Bool.not_eq_false',a6];rw[d5,a6]at g;omega
  ·rw[if_pos (.inl y)];refine .non ?_
   have H0:sd1 V U≠0:=fun q=>by
    rw[q,Int.zero_mul,Int.zero_add]at ix iy;rcases Jm.mp ix.symm with u|u
    ·exact y u
    ·rcases Jm.mp iy.symm with u'|u'
     ·exact y u'
     ·unfold fJ at uV;omega
   have en:eqB U V=false:=decide_eq_false fun q=>y (by unfold sd1 sd crs;rw[<-q.1,<-q.2.1];grind);unfold gk;rw[en,gU (show sd U V.1 V.2.1≠0 from y),gU (show sd U V.2.2.1 V.2.2.2≠0 from fun q=>y (i1.symm.trans q)),gU (show sd V U.1 U.2.1≠0 from H0),gU (show sd V U.2.2.1 U.2.2.2≠0 from fun q=>H0 (i3.symm.trans q)),i1]
   have:0<=HC (sd1 U V)*HC (sd1 U V):=by
    rcases Ij (sd1 U V) 0 with q|q|q
    ·rw[Ht q];decide
    ·rw[q];decide
    ·rw[HI q];decide
   rw[decide_eq_true this];rfl
 ·rw[if_neg z];have en:eqB U V=false:=decide_eq_false fun q=>z (by rw[<-hw,<-q.1,<-q.2.1,<-q.2.2.1,<-q.2.2.2];unfold crs;grind)
  have main:∀W h g:Int,0<W->(w.natAbs:Int)=W->W*(V.1-U.1)=h*(U.2.2.1-U.1)-g*(V.2.2.1-V.1)->W*(V.2.1-U.2.1)=h*(U.2.2.2-U.2.1)-g*(V.2.2.2-V.2.1)->
   ((sd1 U V=-g/\sd2 U V=W-g/\sd1 V U=h/\sd2 V U=h-W)\/(sd1 U V=g/\sd2 U V=g-W/\sd1 V U=-h/\sd2 V U=W-h))->
   Meets t b X Y U V (EY t b X Y (if min h g<0\/(w.natAbs:Int)<max h g then .non else .tup [.int (U.1*(w.natAbs:Int)+h*(U.2.2.1-U.1)),.int (U.2.1*(w.natAbs:Int)+h*(U.2.2.2-U.2.1)),.int (w.natAbs:Int)])):=fun W h g hW eW ex ey ss=>by
   have fp:=t9 hU hV hW ex ey ss en
   rw[eW]
   by_cases o:min h g<0\/W<max h g
   ·rw[if_pos o]
    exact .non (by rw[fp,decide_eq_true_iff];omega)
   ·rw[if_neg o]
    refine .spot ?_
    rw[fp]
    have s1:inS t b X Y U (Ma.ut t b X W (U.1*W+h*(U.2.2.1-U.1))) (Ma.ut t b Y W (U.2.1*W+h*(U.2.2.2-U.2.1)))=decide (h=0\/h=W):=by
     have q0:=(lp (W:=W) (h:=h) (dx:=0) (dy:=0) hW uU)
     unfold inS
     rw[Hy,JG,decide_eq_true_iff,decide_eq_true_iff,decide_eq_true_iff,ku ht hb hW,ku ht hb hW,ku ht hb hW,ku ht hb hW]
     constructor
     ·rintro(⟨a,c⟩|⟨a,c⟩)
      ·left
       exact(lp hW uU (dx:=0) (dy:=0) (by rw[<-a];grind) (by rw[<-c];grind)).2.mp ⟨rfl,rfl⟩
      ·right
       have:=(lp (h:=h-W) hW uU (dx:=0) (dy:=0) (by grind) (by grind)).2.mp ⟨rfl,rfl⟩
       omega
     ·rintro(rfl|rfl)
      ·left;constructor<;>grind
      ·right;constructor<;>grind
    have s2:inS t b X Y V (Ma.ut t b X W (U.1*W+h*(U.2.2.1-U.1))) (Ma.ut t b Y W (U.2.1*W+h*(U.2.2.2-U.2.1)))=decide (g=0\/g=W):=by
     unfold inS
     rw[Hy,JG,decide_eq_true_iff,decide_eq_true_iff,decide_eq_true_iff,ku ht hb hW,ku ht hb hW,ku ht hb hW,ku ht hb hW]
     constructor
     ·rintro(⟨a,c⟩|⟨a,c⟩)
      ·left
       exact(lp hW uV (dx:=0) (dy:=0) (by grind) (by grind)).2.mp ⟨rfl,rfl⟩
      ·right
       have:=(lp (h:=g-W) hW uV (dx:=0) (dy:=0) (by grind) (by grind)).2.mp ⟨rfl,rfl⟩
       omega
     ·rintro(rfl|rfl)
      ·left;constructor<;>grind
      ·right;constructor<;>grind
    rw[s1,s2,Hy,Hl,decide_eq_true_iff,decide_eq_true_iff,decide_eq_true_iff]
    omega
  by_cases n:w<0
  ·rw[if_pos n,if_pos n];exact main (-w) (-sd1 V U) (- -sd1 U V) (by omega) (by omega) (by grind) (by grind) (.inr (by omega))
  ·rw[if_neg n,if_neg n];exact main w (sd1 V U) (-sd1 U V) (by omega) (by omega) (by grind) (by grind) (.inl (by omega))
def opD:Option Nat->D
 |some j=>.int (j:Int)
 |none=>.non
section
variable{prog:Hi}{w:HL}{A:HM}{R:Result->G3->Prop}{s:G3}{elt t1 i1 t2 i2:Expr}{scope:JH}{pos:Pos}{it acc:G0}{env:Env}
end
section
variable{X:Cx}{x y:Str}{px py pos:Pos}{js:List Nat}{scope:JH}{elt i1 i2:Expr}{te:TE}{wi wi2:TI}{pins:List (Addr×Obj)}{σ:L2.St}{H:Hp}{s:G3}{fp:List Addr}{it:Addr}{tn:Nat->Heap->Prop}{J:It}
end
section
variable{X:Cx}{x y:Str}{px py pos:Pos}{js:List Nat}{scope:JH}{elt i1 i2:Expr}{te:TD}{wd wd2:TID}
end
section
variable{prog:Hi}{w:HL}{A:HM}{E:G0->G3->Prop}{s:G3}
end
section
variable{X:Cx}{e st:Expr}{pos p2:Pos}
end
section
variable{X:Cx}
end
abbrev iT(i:Int):Str:=G1 (toString i)
theorem Du{i:Int}(h:Bd 1900 i):i.natAbs.log2<1920:=by
 by_cases z:i.natAbs=0
 ·rw[z];decide
 ·rw[Nat.log2_lt z];exact G8 h (Nat.pow_le_pow_right (by decide) (by decide))
section
variable{X:Cx}
theorem len_app(x y:Str):(x++y).length=x.length+y.length:=PySem.Str.length_append x y
def xE:R2D:=fun x y M Q=>match x,y with
 |.str a,.str b=>a.length+b.length<=GX/\Q (.str (a++b)) M
 |x,y=>yY x y M Q
theorem aM:OpD X (J2 .Add) xE:=eF (tf.or ck) fun v u H Q z9=>by
 obtain⟨x,y,M,R,r1,r2,a,q,fin⟩:=z9;unfold xE at q;split at q
 ·obtain rfl:v=.str _:=by rw[Rep]at r1;exact r1
  obtain rfl:u=.str _:=by rw[Rep]at r2;exact r2
  exact .inl ⟨_,_,rfl,rfl,q.1,fin _ _ _ _ .refl (by rw[Rep]) a q.2⟩
 ·exact .inr ⟨x,y,M,R,r1,r2,a,q,fin⟩
theorem qX{a b:Str}:decide (V.str a=V.str b)=decide (a=b):=by by_cases h:a=b<;>simp[h]
def Ac:R2D:=fun x y M Q=>match x,y with
 |.str a,.str b=>Q (.bl (decide (a=b))) M
 |x,y=>Ds x y M Q
def tQ:R2D:=fun x y M Q=>match x,y with
 |.str a,.str b=>Q (.bl (!decide (a=b))) M
 |x,y=>AU x y M Q
theorem br(hu:X.A.units+64<JI):OpD X (Hn .Eq) Ac:=eF (Es.or (eE hu)) fun v u H Q z9=>by
 obtain⟨x,y,M,R,r1,r2,a,q,fin⟩:=z9;unfold Ac at q;split at q
 ·obtain rfl:v=.str _:=by rw[Rep]at r1;exact r1
  obtain rfl:u=.str _:=by rw[Rep]at r2;exact r2
  exact .inl ⟨rfl,by rw[qX];exact fin _ _ _ _ .refl (by rw[Rep]) a q⟩
 ·exact .inr ⟨x,y,M,R,r1,r2,a,q,fin⟩
theorem d9(hu:X.A.units+64<JI):OpD X (Hn .NotEq) tQ:=eF (Ex.or (n8 hu)) fun v u H Q z9=>by
 obtain⟨x,y,M,R,r1,r2,a,q,fin⟩:=z9;unfold tQ at q;split at q
 ·obtain rfl:v=.str _:=by rw[Rep]at r1;exact r1
  obtain rfl:u=.str _:=by rw[Rep]at r2;exact r2
  exact .inl ⟨rfl,by rw[qX];exact fin _ _ _ _ .refl (by rw[Rep]) a q⟩
 ·exact .inr ⟨x,y,M,R,r1,r2,a,q,fin⟩
def uf:R2D:=fun x y M Q=>match x,y with
 |.str a,.str b=>∃c:Nat,a=⟨#[c]⟩/\Q (.bl (!decide (c∈b.cps.toList))) M
 |x,y=>w8 (fun b=>!b) x y M Q
theorem jL(hu:X.A.units+66<JI):OpD X (Hn .NotIn) uf:=eF (pg.or (mG hu)) fun v u H Q z9=>by
 obtain⟨x,y,M,R,r1,r2,a,q,fin⟩:=z9;unfold uf at q;split at q
 ·obtain rfl:v=.str _:=by rw[Rep]at r1;exact r1
  obtain rfl:u=.str _:=by rw[Rep]at r2;exact r2
  obtain⟨c,rfl,q⟩:=q;exact .inl ⟨_,_,rfl,rfl,by rw[PySem.StrLaws.found_one];exact fin _ _ _ _ .refl (by rw[Rep]) a q⟩
 ·exact .inr ⟨x,y,M,R,r1,r2,a,q,fin⟩
def BV:RC:=fun ds M Q=>match ds with
 |[.str x]=>x.length<=GX/\Q (.int (x.length:Int)) M
 |ds=>DC ds M Q
theorem b4:cX X (.builtin "len") BV:=bT (ph.or tJ) fun vs H Q z9=>by
 obtain⟨ds,M,R,rs,a,q,fin⟩:=z9;unfold BV at q;split at q
 ·obtain⟨v,rfl,r⟩:=b6 rs;rw[Rep]at r;subst r;exact .inl ⟨_,rfl,q.1,fin _ _ _ _ .refl (by rw[Rep]) a q.2⟩
 ·exact .inr ⟨ds,M,R,rs,a,q,fin⟩
theorem wN(hc:X.calm=true):b8 X (.builtin "any") (fun xs H Q=>∃(p:Addr) (bs:List Bool),xs=[.ref p]/\SqL X.K H p (bs.map V.bl)/\Q (.bl (bs.any id)) H):=by
 intro pins s σ H xs us Q I r z0;obtain⟨l,bs,e,hp,k⟩:=z0;subst e;obtain⟨u,rfl,ru⟩:=vals1 r;cases ru;obtain⟨its,r1,p1,_⟩:=I.list hp;have hv:=fN r1;have hl:=p1.isList;have lt:l≠s.heap.objs.size:=HJ (let⟨_,e,_⟩:=hl;Hb e);refine call_any_walk (x:=.ref l) (wpAny_pyIter_list hl ⟨s.heap.objs.size,[s.heap.objs.size,l],[s.heap.objs.size],its.toArray.size,_,_,fun i=>(bs[i]?).getD false,rfl,Walks.list (A:=X.A.in1) (I.ok.hd hc) _ l lt its.toArray,⟨⟨_,Hk _ rfl,rfl,rfl⟩,hl.push _⟩,fun i v s' Q' E' hP hQ=>?_,fun h' tk hk=>?_⟩)
 ·have hP':its[i]?=some v:=by simpa using hP
  rw[hv,G9]at hP';cases eb:bs[i]? with
  |none=>rw[eb]at hP';cases hP'
  |some b=>
   rw[eb]at hP'
   cases hP'
   have hQ':Q' b s':=by simpa[eb]using hQ
   exact Iv hQ'
 ·rw[show((HF its.toArray.size).any fun i=>(bs[i]?).getD false)=bs.any id by rw[Hg,hv,G4];exact LSm.range_any bs];exact⟨.bl (bs.any id),H,I.kept (LSm.kept_iter hk),rfl,k⟩
def E7:RC:=fun ds M Q=>match ds with
 |[.ref l]=>∃bs:List Bool,M l=some (.lst (Ir D.bl bs))/\Q (.bl (bs.any id)) M
 |_=>False
theorem DV(hc:X.calm=true):cX X (.builtin "any") E7:=bT (wN hc) fun vs H Q z9=>by
 obtain⟨ds,M,R,rs,a,q,fin⟩:=z9;unfold E7 at q;split at q
 ·obtain⟨bs,e,q⟩:=q;obtain⟨v,rfl,r⟩:=b6 rs;rw[Rep]at r;subst r;obtain⟨xs,hx,rx⟩:=a _ _ e;rw[mW rx]at hx;exact⟨_,bs,rfl,SqL.of hx,fin _ _ _ _ .refl (by rw[Rep]) a q⟩
 ·exact q.elim
theorem DF:HX "any"=some (.builtin "any"):=by decide +kernel
def BL:R2D:=fun x y M Q=>match x,y with
 |.str z,.int i=>z.length<=GX/\∃c,atI z.cps.toList i=some c/\Q (.str ⟨#[c]⟩) M
 |x,y=>A7 x y M Q
theorem aS{a b:Expr}{ta tb:TD}{pos:Pos}(ha:DE X a ta)(hb:DE X b tb)(hs:k8 b:=by exact fun _ _=>rfl):DE X (.Subscript a b pos) (r6 BL ta tb):=
 xQ (ye xS fun v u H Q z9=>by
  obtain⟨x,y,M,R,r1,r2,a,q,fin⟩:=z9
  unfold BL at q
  split at q
  ·obtain rfl:v=.str _:=by rw[Rep]at r1;exact r1
   obtain rfl:u=.int _:=by rw[Rep]at r2;exact r2
   obtain⟨hz,c,e,q⟩:=q
   exact .inr (.inr ⟨_,_,c,rfl,rfl,hz,e,fin _ _ _ _ .refl (by rw[Rep]) a q⟩)
  ·exact nQ ⟨x,y,M,R,r1,r2,a,q,fin⟩) ha hb hs
theorem vR:b8 X (.type "int") (fun xs H Q=>∃x n,xs=[.str x]/\PySem.intText? x=some n/\x.length<=640/\Q (.int n) H):=by intro pins s σ H xs us Q I r h;obtain⟨x,n,rfl,hn,hl,q⟩:=h;obtain⟨u,rfl,t,rfl⟩:=vals1 r;exact PySem.W.KIN.call_text hn hl ⟨.int n,H,I.tok _,⟨_,rfl⟩,q⟩
def BW:RC:=fun ds M Q=>match ds with
 |[.str x]=>∃n,PySem.intText? x=some n/\x.length<=640/\Q (.int n) M
 |ds=>ze ds M Q
theorem dZ:cX X (.type "int") BW:=bT (vR.or jN) fun vs H Q z9=>by
 obtain⟨ds,M,R,rs,a,q,fin⟩:=z9;unfold BW at q;split at q
 ·obtain⟨v,rfl,r⟩:=b6 rs;rw[Rep]at r;subst r;obtain⟨n,e1,e2,q⟩:=q;exact .inl ⟨_,n,rfl,e1,e2,fin _ _ _ _ .refl (by rw[Rep]) a q⟩
 ·exact .inr ⟨ds,M,R,rs,a,q,fin⟩
def BJ:RC:=fun ds M Q=>match ds with
 |[.int i]=>Bd 1900 i/\Q (.str (iT i)) M
 |_=>False
theorem uE:cX X (.type "str") BJ:=bT p6 fun vs H Q z9=>by
 obtain⟨ds,M,R,rs,a,q,fin⟩:=z9;unfold BJ at q;split at q
 ·obtain⟨v,rfl,r⟩:=b6 rs;rw[Rep]at r;subst r;exact⟨_,rfl,Du q.1,fin _ _ _ _ .refl (by rw[Rep]) a q.2⟩
 ·exact q.elim
end
open PySem PySem.Spec PyProof.Rows L2 PySem.Builtin PySem.Builtin.Str
section
variable{X:Cx}
theorem oi:∀{ts:List Str} {us:List G0},Vals (ts.map V.str) us->∃l:List (Str×Tok),us=strValues l/\l.map (·.1)=ts
 |[],_,.nil=>⟨[],rfl,rfl⟩
 |t::ts,_,.cons r q=>by
  obtain⟨k,rfl⟩:=(show ∃k,_=Value.str t k from r)
  obtain⟨l,rfl,e⟩:=oi q
  exact⟨(t,k)::l,rfl,by rw[Ho,e]⟩
theorem oG:∀(l:List (Str×Tok)),Vals ((l.map (·.1)).map V.str) (strValues l)
 |[]=>.nil
 |(x,t)::l=>.cons ⟨t,rfl⟩ (oG l)
def CJ:V->List V->Hp->VK->Prop:=fun x vs H Q=>∃a b,x=.str a/\vs=[.str b]/\Q (.bl (Jg a b)) H
theorem zo:MtM X "str.startswith" CJ:=by intro pins s σ H x vs v us Q I rx rv z0;obtain⟨a,b,ex,ev,q⟩:=z0;subst ex ev;obtain⟨t,rfl⟩:=rx;obtain⟨u,rfl,t',rfl⟩:=rv.one;exact SC.startswith ⟨.bl _,H,I,rfl,q⟩
def Eg:V->List V->Hp->VK->Prop:=fun x vs H Q=>∃a b,x=.str a/\vs=[.str b]/\(b.length==0)=false/\a.length<=GX/\∀p,H p=none->Q (.ref p) (upd H p (.tup [.str (Iy a b).1,.str (Iy a b).2.1,.str (Iy a b).2.2]))
theorem zU:MtM X "str.partition" Eg:=by
 intro pins s σ H x vs v us Q I rx rv z0;obtain⟨a,b,ex,ev,hb,ha,q⟩:=z0;subst ex ev;obtain⟨t,rfl⟩:=rx;obtain⟨u,rfl,t',rfl⟩:=rv.one;refine call_meets PySem.F.slot_str_partition (Jy _ _ _) PySem.F.entry_str_partition (PySem.F.args_str_partition_2 _ _) (meets_str_partition a b t t' hb ha) ?_;have q':=q _ (I.hok.fresh (GY _));have key:∀(p1 p2 p3:Str) (t1 t2 t3 k:Tok),Q (.ref s.heap.objs.size) (upd H s.heap.objs.size (.tup [.str p1,.str p2,.str p3]))->EP X pins σ Q (.ref s.heap.objs.size) { s with toks:=k,heap:=s.heap.push { cls:=.type "tuple",data:=.seq [.str p1 t1,.str p2 t2,.str p3 t3].toArray } }:=fun p1 p2 p3 t1 t2 t3 k z=>⟨.ref s.heap.objs.size,_,I.laid (o:=.tup [.str p1,.str p2,.str p3]) (t':=k) (fun b u e=>G5 _ e) (GY _) ⟨nbL rfl,_,.cons ⟨_,rfl⟩ (.cons ⟨_,rfl⟩ (.cons ⟨_,rfl⟩ .nil)),⟨_,Hk _ rfl,rfl,_,rfl⟩⟩,rfl,z⟩
 revert q'
 unfold Iy;cases occurrences a b 0 a.length 1 with
 |nil=>intro q';exact key _ _ _ _ _ _ _ q'
 |cons i r=>intro q';exact key _ _ _ _ _ _ _ q'
def DY:V->List V->Hp->VK->Prop:=fun x vs H Q=>∃a b,x=.str a/\vs=[.str b]/\(b.length==0)=false/\a.length+2<=GX/\∀p,H p=none->Q (.ref p) (upd H p (.lst ((HN a b).map V.str)))
theorem yD:MtM X "str.split" DY:=by
 intro pins s σ H x vs v us Q I rx rv z0;obtain⟨a,b,ex,ev,hb,ha,q⟩:=z0;subst ex ev;obtain⟨t,rfl⟩:=rx;obtain⟨u,rfl,t',rfl⟩:=rv.one;have q':=q _ (I.hok.fresh (GY _))
 have hn:(partsBetween a (occurrences a b 0 a.length (a.length+1)) b.length).length<=GX:=by
  have:=StrLaws.occ_length_le a b 0 a.length (a.length+1)
  rw[length_partsBetween];omega
 have key:∀(l:List (Str×Tok)) (k:Tok),l.map (·.1)=HN a b->EP X pins σ Q (.ref s.heap.objs.size) { s with toks:=k,heap:=s.heap.push { cls:=.type "list",data:=.seq (strValues l).toArray } }:=fun l k e=>by
  rw[<-e]at q'
  refine⟨.ref s.heap.objs.size,_,I.laid (o:=.lst ((l.map (·.1)).map V.str)) (t':=k) (fun b u e=>G5 _ e) (GY _) ⟨?_,_,0,oG l,Hk _ rfl⟩,rfl,q'⟩
  have h2:=PyProof.Rows.split_le a b
  rw[<-e,G4]at h2
  rw[G4,G4];omega
 cases h1:(decide (a.length<b.length)||decide (strKind a<strKind b))with
 |true=>exact call_meets PySem.F.slot_str_split (Jy _ _ _) PySem.F.entry_str_split (PySem.F.args_str_split_2 _ _) (meets_str_split_cannot_occur a b t t' h1) (key [(a,t)] s.toks (by unfold HN;rw[if_pos h1];rfl))
 |false=>
  cases hf:(occurrences a b 0 a.length (a.length+1)).isEmpty with
  |true=>exact call_meets PySem.F.slot_str_split (Jy _ _ _) PySem.F.entry_str_split (PySem.F.args_str_split_2 _ _) (meets_str_split_not_found a b t t' h1 hb hf) (key [(a,t)] s.toks (by unfold HN;rw[if_neg (ne_true_of_eq_false h1),if_pos hf];rfl))
  |false=>
   refine call_meets PySem.F.slot_str_split (Jy _ _ _) PySem.F.entry_str_split (PySem.F.args_str_split_2 _ _) (meets_str_split_sep a b t t' h1 hb hf (by omega) hn) ?_
   rw[strsFrom_eq]
   exact key (numbered s.toks _) _ (by rw[numbered_texts];unfold HN;rw[if_neg (ne_true_of_eq_false h1),if_neg (ne_true_of_eq_false hf)])
def Dc:V->List V->Hp->VK->Prop:=fun x vs H Q=>∃a l ts,x=.str a/\vs=[.ref l]/\H l=some (.lst (ts.map V.str))/\JoinOk a ts=true/\Q (.str (HP a ts)) H
theorem AW:MtM X "str.join" Dc:=by intro pins s σ H x vs v us Q I rx rv z0;obtain⟨a,l,ts,ex,ev,hH,hj,q⟩:=z0;subst ex ev;obtain⟨t,rfl⟩:=rx;obtain⟨u,rfl,ru⟩:=rv.one;cases (show u=Iq l from ru);obtain⟨its,r,p,hz⟩:=I.list (SqL.of hH);obtain⟨ls,rfl,e⟩:=oi r;have hj':=hj;rw[<-e]at hj';have hg:∀us,Txt.join a us=HP a us:=fun us=>StrLaws.glued_eq_join a us;refine call_meets PySem.F.slot_str_join (Jy _ _ _) PySem.F.entry_str_join (PySem.F.args_str_join_2 _ _) (meets_str_join_list a t l ls (by unfold JoinOk at hj';rw[Il]at hj';exact hj')) ⟨p.isList,post_join ls ⟨joinOk_length hj',fun t' k=>?_⟩⟩;refine⟨.str _,H,I.tok k,⟨t',rfl⟩,?_⟩;rw[e,hg];exact q
theorem CQ:SlR X (fun x lo hi H Q=>∃z i,x=.str z/\lo=some i/\hi=none/\z.length<=GX/\Q (.str (IT z (some i) none)) H):=by
 intro pins s σ H x v vl vu lo hi sl Q I rx hs pl pu z0;obtain⟨z,i,ex,e1,e2,hz,q⟩:=z0;subst ex e1 e2;obtain⟨t,rfl⟩:=rx;cases pl with
 |int _ u=>
  cases pu
  exact⟨"str",_,Ja.lookup,Jy _ _ _,Jj (l:=some (i,u)) (u:=none) (st:=none) hs rfl (post_val_or_str ⟨He (JK z _ _) hz,fun t' k=>⟨.str _,H,I.tok k,⟨t',rfl⟩,q⟩⟩)⟩
def Fn(te tl:TD):TD:=fun δ M Q=>te δ M fun x M1=>∃z,x=.str z/\z.length<=GX/\tl δ M1 fun l M2=>∃i,l=.int i/\Q (.str (IT z (some i) none)) M2
theorem wY{a lo:Expr}{te tl:TD}{pos p2:Pos}(he:DE X a te)(hl:DE X lo tl):DE X (.Subscript a (.Slice (some lo) none none p2) pos) (Fn te tl):=
 bD (mQ CQ he (vt hl) uH) fun σ H Q z9=>by
  obtain⟨δ,M,R,hs,hM,q,fin⟩:=z9
  refine⟨δ,M,_,hs,hM,q,fun d M1 v H1 g1 r1 a1 zz1_0=>?_⟩
  obtain⟨z,ed,hz,q1⟩:=zz1_0
  subst ed
  rw[Rep]at r1;subst r1
  refine⟨δ,M1,_,hs.mono g1,a1,q1,fun d M2 v H2 g2 r2 a2 zz2_0=>?_⟩
  obtain⟨i,ed,q2⟩:=zz2_0
  subst ed
  rw[Rep]at r2;subst r2
  exact⟨i,rfl,z,i,rfl,rfl,rfl,hz,fin _ _ _ _ (g1.trans g2) (by rw[Rep]) a2 q2⟩
end
section
variable{X:Cx}{o e1:Expr}{to:TD}{t:TAD}{apos cpos:Pos}
def A9(to:TD)(t:TAD):TD:=fun δ M Q=>to δ M fun x M1=>∃a,x=.str a/\t δ M1 fun ds M2=>∃b,ds=[.str b]/\Q (.bl (Jg a b)) M2
theorem rX(ho:DE X o to)(ha:DA X [e1] t)
 (hbase:J5 o "startswith" X.env (eval o X.env)=eval o X.env:=by rfl)
 (hfew:((IV cpos (Hc [e1] X.env)).all (fun x=>!x.1)&&(backToKw cpos (keywordEach [] X.env)).all (fun x=>x.1.isSome)
  && decide ([e1].length+([]:List Keyword).length+(if([]:List Keyword).isEmpty then 0 else 1)<30))=true:=by rfl)
 (hline:(apos.endLine==cpos.line)=true:=by rfl) (hs:Hc [e1] X.env=(false,eval e1 X.env)::Hc [] X.env:=by rfl) (hplain:(IV cpos (Hc [] X.env)).any (·.1)=false:=by rfl) :
 DE X (.Call (.Attribute o "startswith" apos) [e1] [] cpos) (A9 to t):=
 bD (oQ PySem.F.plainAttrs_str PySem.F.slot_str_startswith PySem.F.type_str_startswith zo ho ha hbase hfew hline hs hplain) fun σ H Q z9=>by
  obtain⟨δ,M,R,hsl,hM,q,fin⟩:=z9
  refine⟨δ,M,_,hsl,hM,q,fun x M1 v H1 g1 r1 a1 zz3_0=>?_⟩
  obtain⟨a,ex,q1⟩:=zz3_0
  subst ex
  rw[Rep]at r1
  subst r1
  refine⟨rfl,δ,M1,_,hsl.mono g1,a1,q1,fun ds M2 us H2 g2 r2 a2 zz4_0=>?_⟩
  obtain⟨b,ed,q2⟩:=zz4_0
  subst ed
  obtain⟨u1,rfl,ru1⟩:=b6 r2
  rw[Rep]at ru1
  subst ru1
  exact⟨a,b,rfl,rfl,fin _ _ _ _ (g1.trans g2) (by rw[Rep]) a2 q2⟩
def AZ(to:TD)(t:TAD):TD:=fun δ M Q=>to δ M fun x M1=>∃a,x=.str a/\a.length<=GX/\t δ M1 fun ds M2=>∃b,ds=[.str b]/\(b.length==0)=false/\Q (.tup [.str (Iy a b).1,.str (Iy a b).2.1,.str (Iy a b).2.2]) M2
theorem xg(ho:DE X o to)(ha:DA X [e1] t)
 (hbase:J5 o "partition" X.env (eval o X.env)=eval o X.env:=by rfl)
 (hfew:((IV cpos (Hc [e1] X.env)).all (fun x=>!x.1)&&(backToKw cpos (keywordEach [] X.env)).all (fun x=>x.1.isSome)
  && decide ([e1].length+([]:List Keyword).length+(if([]:List Keyword).isEmpty then 0 else 1)<30))=true:=by rfl)
 (hline:(apos.endLine==cpos.line)=true:=by rfl) (hs:Hc [e1] X.env=(false,eval e1 X.env)::Hc [] X.env:=by rfl) (hplain:(IV cpos (Hc [] X.env)).any (·.1)=false:=by rfl) :
 DE X (.Call (.Attribute o "partition" apos) [e1] [] cpos) (AZ to t):=
 bD (oQ PySem.F.plainAttrs_str PySem.F.slot_str_partition PySem.F.type_str_partition zU ho ha hbase hfew hline hs hplain) fun σ H Q z9=>by
  obtain⟨δ,M,R,hsl,hM,q,fin⟩:=z9
  refine⟨δ,M,_,hsl,hM,q,fun x M1 v H1 g1 r1 a1 zz5_0=>?_⟩
  obtain⟨a,ex,hz,q1⟩:=zz5_0
  subst ex
  rw[Rep]at r1
  subst r1
  refine⟨rfl,δ,M1,_,hsl.mono g1,a1,q1,fun ds M2 us H2 g2 r2 a2 zz6_0=>?_⟩
  obtain⟨b,ed,hb,q2⟩:=zz6_0
  subst ed
  obtain⟨u1,rfl,ru1⟩:=b6 r2
  rw[Rep]at ru1
  subst ru1
  refine⟨a,b,rfl,rfl,hb,hz,fun p hp=>fin _ _ _ _ ((g1.trans g2).trans (.new hp)) ?_ (a2.new hp) q2⟩
  rw[Rep]
  exact⟨p,_,rfl,SqT.of aY,.cons (by rw[Rep]) (.cons (by rw[Rep]) (.cons (by rw[Rep]) .nil))⟩
theorem oA{K:cc}{H:Hp}:∀(ts:List Str),aK K H (ts.map D.str) (ts.map V.str)
 |[]=>.nil
 |t::ts=>.cons (by rw[Rep]) (oA ts)
theorem uS{K:cc}{H:Hp}:∀{ts:List Str} {xs:List V},aK K H (ts.map D.str) xs->xs=ts.map V.str
 |[],xs,h=>by rw[List.map_nil,aK]at h;exact h
 |n::ns,xs,h=>by
  rw[Ho,aK]at h
  obtain⟨x,r,rfl,h1,h2⟩:=h
  rw[Rep]at h1
  rw[h1,uS h2];rfl
def Ba(to:TD)(t:TAD):TD:=fun δ M Q=>to δ M fun x M1=>∃a,x=.str a/\a.length<=1000000/\t δ M1 fun ds M2=>∃b,ds=[.str b]/\(b.length==0)=false/\∀p,M2 p=none->Q (.ref p) (av M2 p (.lst ((HN a b).map D.str)))
theorem cQ(ho:DE X o to)(ha:DA X [e1] t)
 (hbase:J5 o "split" X.env (eval o X.env)=eval o X.env:=by rfl)
 (hfew:((IV cpos (Hc [e1] X.env)).all (fun x=>!x.1)&&(backToKw cpos (keywordEach [] X.env)).all (fun x=>x.1.isSome)
  && decide ([e1].length+([]:List Keyword).length+(if([]:List Keyword).isEmpty then 0 else 1)<30))=true:=by rfl)
 (hline:(apos.endLine==cpos.line)=true:=by rfl) (hs:Hc [e1] X.env=(false,eval e1 X.env)::Hc [] X.env:=by rfl) (hplain:(IV cpos (Hc [] X.env)).any (·.1)=false:=by rfl) :
 DE X (.Call (.Attribute o "split" apos) [e1] [] cpos) (Ba to t):=
 bD (oQ PySem.F.plainAttrs_str PySem.F.slot_str_split PySem.F.type_str_split yD ho ha hbase hfew hline hs hplain) fun σ H Q z9=>by
  obtain⟨δ,M,R,hsl,hM,q,fin⟩:=z9
  refine⟨δ,M,_,hsl,hM,q,fun x M1 v H1 g1 r1 a1 zz7_0=>?_⟩
  obtain⟨a,ex,hz,q1⟩:=zz7_0
  subst ex
  rw[Rep]at r1
  subst r1
  refine⟨rfl,δ,M1,_,hsl.mono g1,a1,q1,fun ds M2 us H2 g2 r2 a2 zz8_0=>?_⟩
  obtain⟨b,ed,hb,q2⟩:=zz8_0
  subst ed
  obtain⟨u1,rfl,ru1⟩:=b6 r2
  rw[Rep]at ru1
  subst ru1
  refine⟨a,b,rfl,rfl,hb,He (Nat.add_le_add_right hz 2) (show 1000002<=GX from nbL rfl),fun p hp=>?_⟩
  exact fin _ _ _ _ ((g1.trans g2).trans (.new hp)) (by rw[Rep]) (a2.kJ hp (oA _)) (q2 p (a2.fresh hp))
def Cu(to:TD)(t:TAD):TD:=fun δ M Q=>to δ M fun x M1=>∃a,x=.str a/\t δ M1 fun ds M2=>∃l ts,ds=[.ref l]/\M2 l=some (.lst (Ir D.str ts))/\JoinOk a ts=true/\Q (.str (HP a ts)) M2
theorem cR(ho:DE X o to)(ha:DA X [e1] t)
 (hbase:J5 o "join" X.env (eval o X.env)=eval o X.env:=by rfl)
 (hfew:((IV cpos (Hc [e1] X.env)).all (fun x=>!x.1)&&(backToKw cpos (keywordEach [] X.env)).all (fun x=>x.1.isSome)
  && decide ([e1].length+([]:List Keyword).length+(if([]:List Keyword).isEmpty then 0 else 1)<30))=true:=by rfl)
 (hline:(apos.endLine==cpos.line)=true:=by rfl) (hs:Hc [e1] X.env=(false,eval e1 X.env)::Hc [] X.env:=by rfl) (hplain:(IV cpos (Hc [] X.env)).any (·.1)=false:=by rfl) :
 DE X (.Call (.Attribute o "join" apos) [e1] [] cpos) (Cu to t):=
 bD (oQ PySem.F.plainAttrs_str PySem.F.slot_str_join PySem.F.type_str_join AW ho ha hbase hfew hline hs hplain) fun σ H Q z9=>by
  obtain⟨δ,M,R,hsl,hM,q,fin⟩:=z9
  refine⟨δ,M,_,hsl,hM,q,fun x M1 v H1 g1 r1 a1 zz9_0=>?_⟩
  obtain⟨a,ex,q1⟩:=zz9_0
  subst ex
  rw[Rep]at r1
  subst r1
  refine⟨rfl,δ,M1,_,hsl.mono g1,a1,q1,fun ds M2 us H2 g2 r2 a2 zz10_0=>?_⟩
  obtain⟨l,ts,ed,hl,hj,q2⟩:=zz10_0
  subst ed
  obtain⟨u1,rfl,ru1⟩:=b6 r2
  rw[Rep]at ru1
  subst ru1
  obtain⟨ws,hws,rws⟩:=a2 _ _ hl
  rw[uS rws]at hws
  exact⟨a,l,ts,rfl,rfl,hws,hj,fin _ _ _ _ (g1.trans g2) (by rw[Rep]) a2 q2⟩
end
def Its(z:Str):It:=⟨fun i _=>i<z.cps.size,fun i H x H'=>H'=H/\∃c,z.cps[i]?=some c/\x=.str ⟨#[c]⟩,fun i _=>z.cps.size<=i⟩
theorem xp{P:Hi}{w:HL}{K:cc}{tg:Expr}(z:Str)(t:Tok)(it:Addr):Turn P w K tg (Its z) [it] it (fun i h=>h.IsStrIter it "str_ascii_iterator" z t i) where
 mem:=by simp
 obj:=fun i h st b hb=>by
  obtain rfl:b=it:=by simpa using hb
  obtain⟨o,e,c,d⟩:=st
  exact⟨o,e,fun v z=>by rw[d]at z;cases z⟩
 keep:=fun i h h' ⟨o,e,r⟩ k=>⟨o,k it (by simp) o e,r⟩
 item:=by
  intro X hP hw hK hc i pins s σ H E I hf st hg
  subst hP hw hK
  have hg:i<z.cps.size:=hg
  obtain⟨f0,f1,f2,f3,f4,f5⟩:=hf it (by simp)
  refine wpAny_pyNext_ascii_item st (c:=z.cps[i]) (by simp[hg]) fun h' st' sb=>?_
  have I1:Inv X pins σ H { s with heap:=h',toks:=s.toks+1 }:=I.turned (t':=s.toks+1) (fun b o hb e=>(sb.2 b hb).trans e) f0 f1 f3 f4 f5
  obtain⟨o,e,c,d⟩:=id st'
  exact⟨_,rfl,uD (s:={ s with heap:=h',toks:=s.toks+1 }) e c d (by decide) ⟨.str ⟨#[z.cps[i]]⟩,H,I1,⟨_,rfl⟩,⟨rfl,_,by simp[hg],rfl⟩,st',fun b hb=>(hf b hb).1⟩⟩
 done:=by
  intro X hP hw hK hc i pins s σ H E I hf st hg
  subst hP hw hK
  have hg:z.cps.size<=i:=hg
  obtain⟨f0,f1,f2,f3,f4,f5⟩:=hf it (by simp)
  exact wpAny_pyNext_ascii_end (I.ok.hd hc) st (by simp;exact hg) fun h' eb=>⟨rfl,I.turned (t':=s.toks) (fun b o hb e=>eb b o hb e) f0 f1 f3 f4 f5⟩
 self:=fun _ _ _ _ _ st h=>wpAny_pyIter_striter_ascii st h
section
variable{X:Cx}{tg:Expr}
theorem DO{l:Expr}{tl:TE}(hl:PE X l tl):PI X tg l (fun σ H R=>tl σ H fun x H1=>∃z,x=.str z/\z.cps.all (· < 128)=true/\R (Its z) H1):=by
 intro pins s σ H R I h;refine thn (hl pins s σ H _ I h) fun v s1 zz1_0=>?_;obtain⟨x,H1,I1,r1,q1⟩:=zz1_0;obtain⟨z,e,ha,q⟩:=q1;subst e;obtain⟨t,rfl⟩:=r1;refine wpAny_pyIter_ascii ha ?_;refine⟨s1.heap.objs.size,[s1.heap.objs.size],_,_,H1,rfl,I1.kept (t':=s1.toks) fun b o e=>G5 _ e,xp z t _,⟨_,Hk _ rfl,rfl,rfl⟩,fun b hb=>?_,q⟩;obtain rfl:b=s1.heap.objs.size:=by simpa using hb
 exact I1.zc (GY _) (I1.hok.fresh (GY _))
def Gg(tl:TD):TID:=fun δ M R=>tl δ M fun d M1=>∃z,d=.str z/\z.cps.all (· < 128)=true/\R ⟨z.cps.size,fun i=>(z.cps[i]?).map fun c=>.str ⟨#[c]⟩,fun _=>True⟩ M1
theorem xn{l:Expr}{tl:TD}(hl:DE X l tl):DI X tg l (Gg tl):=
 pR (DO hl) fun σ H R ⟨δ,M,RD,hs,hM,q,fin⟩=>⟨δ,M,_,hs,hM,q,fun d M1 v H1 g1 r1 a1 z9=>by
  obtain⟨z,ed,ha,q1⟩:=z9
  subst ed
  rw[Rep]at r1;subst r1
  refine⟨z,rfl,ha,fin _ M1 H1 _ g1 a1 q1 ⟨fun _ _ _ _ _=>GY _,fun i _ _ hi _ _ _=>hi,?_⟩⟩
  rintro i H2 M2 v H3 hi g2 a2 _ ⟨rfl,c,e,rfl⟩
  exact⟨.refl,a2,_,by show(z.cps[i]?).map _=_;rw[e];rfl,by rw[Rep]⟩⟩
theorem Ao{es:List Expr}{k:Nat}{t:TGs}{pos:Pos}(hc:X.calm=true)(h:PGs X es t)(hn:(Im es X.env).length=2:=by rfl)(hst:(Im es X.env).findIdx? (·.1)=some 1:=by rfl) :
 PG X (.Tuple es k pos) (fun v σ H Q=>∃a x0 xs,v=.ref a/\SqL X.K H a (x0::xs)/\xs.length<=1000000/\∀p,H p=none->t [x0,.ref p] σ (upd H p (.lst xs)) Q):=by
 intro pins s σ H v u Q I r z0
 obtain⟨a,x0,xs,ev,hq,hz,q⟩:=z0
 subst ev
 cases r
 obtain⟨its,rv,p,_⟩:=I.list hq
 obtain⟨u0,us,rfl,ru0,rus⟩:∃u0 us,its=u0::us/\RelV x0 u0/\Vals xs us:=by
  cases rv with
  |cons r t=>exact⟨_,_,rfl,r,t⟩
 have hl:=p.isList
 have hal:a<s.heap.objs.size:=let⟨o,ho,_⟩:=hl;Hb ho
 have hne:=HJ hal
 have lus:us.length<=1000000:=by rw[<-rus.length];exact hz
 have hsl:GX=16777216:=sizeLine_eq
 rw[PyProof.Rows.assign_Tuple]
 refine G2 (JL ?_)
 unfold unpack
 rw[hn,hst]
 refine G2 (IG ?_)
 unfold unpackItems notIterableAtAll
 refine G2 (G2 (wpAny_specialOf hl.typeIs slot_list_iter.lookup (Hd ?_)))
 rw[if_neg (by simp)]
 refine G2 (IG (wpAny_pyIter_list hl ?_))
 refine G2 (IG (PySem.W.kun_draw hne 1 0 _ _ ⟨_,Hk _ rfl,rfl,rfl⟩ (hl.push _) (by simp) fun h1 hit1 hs1=>?_))
 have hl1:h1.IsList a (u0::us).toArray:=(hl.push _).extBut hs1.extBut hne
 have hi1:s.heap.objs.size<h1.objs.size:=let⟨_,ho,_⟩:=hit1;Hb ho
 have ha1:a<h1.objs.size:=let⟨_,ho,_⟩:=hl1;Hb ho
 rw[if_neg (by simp)]
 refine G2 (IG (PySem.W.kun_collect (s:={ s with heap:=h1 }) (T:="list_iterator") (.inr (.inr (.inl rfl))) (Walks.list (A:=X.A.in1) (I.ok.hd hc) s.heap.objs.size a hne (u0::us).toArray) (fun j u st=>st.1.typeIs) (k:=1) (by simp) ⟨hit1,hl1⟩ hi1 ha1 (fun h2 tk hk=>?_) (by simp;omega)))
 show Hf _ _ (if us.length<0 then _ else _) _ _ _
 rw[if_neg (by omega)]
 have kp:∀b o,s.heap.get? b=some o->h2.get? b=some o:=fun b o e=>by
  have nb:b≠s.heap.objs.size:=HJ (Hb e)
  exact hk b o nb (hs1.extBut b o nb (G5 _ e))
 have I2:Inv X pins σ H { s with heap:=h2,toks:=tk }:=I.kept (t':=tk) kp
 have e1:us.take us.length=us:=List.take_length
 show Hf _ _ (newList (us.take us.length) >>= fun d=>pure ([u0]++[d]++us.drop us.length)) _ _ _
 rw[e1,List.drop_length]
 refine G2 (wpAny_newList ?_ (by omega))
 refine Hd ?_
 have I3:=I2.laid (h':=h2.push (seqObj "list" us.toArray 0)) (a:=h2.objs.size) (o:=.lst xs) (t':=tk) (fun b u e=>G5 _ e) (GY _) ⟨by omega,us,0,rus,Hk _ rfl⟩
 exact h pins _ σ _ [x0,.ref h2.objs.size] [u0,.ref h2.objs.size] Q I3 (.cons ru0 (.cons rfl .nil)) (q _ (I2.hok.fresh (GY _)))
theorem xZ{e:Expr}{t:TGD}{p:Pos}(h:DG X e t)(he:(Im [.Starred e p] X.env).map (·.2)=(Im [e] X.env).map (·.2):=by rfl)(hs:(Im [e] X.env).map (·.2)=assign e X.env::(Im [] X.env).map (·.2):=by rfl):DGs X [.Starred e p] (gConsD t Cc):=fun pins s σ H vs us Q I r q=>by rw[he];exact aw h aX hs pins s σ H vs us Q I r q
def C8(t:mI):TGD:=fun d δ M Q=>∃l d0 ds,d=.ref l/\M l=some (.lst (d0::ds))/\ds.length<=1000000/\∀p,M p=none->t [d0,.ref p] δ (av M p (.lst ds)) Q
theorem z6{es:List Expr}{k:Nat}{t:mI}{pos:Pos}(hc:X.calm=true)(h:DGs X es t)(hn:(Im es X.env).length=2:=by rfl)(hst:(Im es X.env).findIdx? (·.1)=some 1:=by rfl):DG X (.Tuple es k pos) (C8 t):=
 mV (Ao hc h hn hst) fun v σ H Q z=>by
  obtain⟨d,δ,M,R,r,hs,a,⟨l,d0,ds,e,hl,hz,q⟩,fin⟩:=z
  subst e
  rw[Rep]at r;subst r
  obtain⟨xs,hx,rx⟩:=a _ _ hl
  rw[aK]at rx
  obtain⟨x0,xr,rfl,r0,rr⟩:=rx
  refine⟨l,x0,xr,rfl,SqL.of hx,by rw[<-rr.length];exact hz,fun p hp=>?_⟩
  exact⟨[d0,.ref p],δ,_,R,.cons (r0.mono (.new hp)) (.cons (by rw[Rep]) .nil),hs.mono (.new hp),a.kJ hp rr,q p (a.fresh hp),fin.go (.new hp)⟩
end
theorem bA{x y:Str}(h:x.cps.toList=y.cps.toList):x=y:=PySem.Str.ext' (Array.toList_inj.mp h)
theorem bU(x y:Str):(x++y).cps.toList=x.cps.toList++y.cps.toList:=by show(x.cps++y.cps).toList=_;simp
theorem ba(x:Str):x.length=x.cps.toList.length:=by simp[PySem.Str.length]
def dgs(n:Nat):List Nat:=(Nat.toDigits 10 n).map Char.toNat
theorem du(n:Nat):(iT (n:Int)).cps.toList=dgs n:=PySem.W.KIN.signs_num n
theorem sA(n:Nat):(iT (-((n+1:Nat):Int))).cps.toList=45::dgs (n+1):=by have e:(-((n+1:Nat):Int))=Int.negSucc n:=rfl;rw[e];show(G1 (toString (Int.negSucc n))).cps.toList=_;rw[signs_ofString];show("-"++Nat.repr (n+1)).toList.map Char.toNat=_;rw[String.toList_append,Ik,Nat.toList_repr];rfl
theorem dY{n c:Nat}(h:c∈dgs n):48<=c/\c<=57:=by obtain⟨ch,hch,rfl⟩:=IB.mp h;exact digit_range (Nat.isDigit_of_mem_toDigits (by decide) (by decide) hch)
theorem ju{n:Nat}(h:¬n<10):dgs n=dgs (n/10)++dgs (n%10):=by have hm:n%10<10:=Nat.mod_lt n (by decide);have t:Nat.toDigits 10 (n/10)++Nat.toDigits 10 (n%10)=Nat.toDigits 10 (10*(n/10)+n%10):=Nat.toDigits_append_toDigits (by decide) (by omega) hm;rw[Nat.div_add_mod]at t;unfold dgs;rw[<-t,Ik]
theorem c6{n:Nat}(h:n<10):dgs n=[48+n]:=by
 unfold dgs;rw[Nat.toDigits_of_lt_base h];show[(Nat.digitChar n).toNat]=_;have:∀d:Nat,d<10->(Nat.digitChar d).toNat=48+d:=by decide
 rw[this n h]
theorem jI(n:Nat):dgs n≠[]:=fun e=>by have h:=toDigits_len_ge 10 n;rw[List.map_eq_nil_iff.mp e]at h;exact absurd h (by decide)
theorem kO:∀(k n:Nat),n<10^(k+1)->(dgs n).length<=k+1
 |0,n,h=>by rw[c6 (by simpa using h)];simp
 |k+1,n,h=>by
  by_cases z:n<10
  ·rw[c6 z];simp
  ·have h2:n/10<10^(k+1):=by
    have:(10:Nat)^(k+1+1)=10^(k+1)*10:=Nat.pow_succ ..
    omega
   have:=kO k (n/10) h2
   rw[ju z,ID,c6 (Nat.mod_lt n (by decide))]
   simp
   omega
theorem rn:∀(n:Nat) (r:List Nat),dgs n=48::r->n=0:=by
 intro n
 induction n using Nat.strongRecOn with
 |_ n ih=>
  intro r h
  by_cases z:n<10
  ·rw[c6 z]at h;have:=(List.cons.inj h).1;omega
  ·rw[ju z]at h;cases e:dgs (n/10)with
   |nil=>exact absurd e (jI _)
   |cons a l=>
    rw[e,List.cons_append]at h
    have ha:=(List.cons.inj h).1
    have:=ih (n/10) (by omega) l (by rw[e,ha])
    omega
theorem rS{x:Str}{n:Nat}(hx:x.cps.toList=dgs n)(hl:x.length<=640):PySem.intText? x=some (n:Int):=by have e:=PySem.intText_digits (x:=x) (by rw[hx];exact fun c hc=>dY hc) (by rw[hx];exact jI n) (He hl (by decide));rw[hx]at e;rw[e];exact congrArg (fun z:Nat=>some (z:Int)) (PySem.W.KIN.val_back n)
theorem pU{c:Nat}:∀{a b r s:List Nat},c∉a->c∉b->a++c::r=b++c::s->a=b/\r=s
 |[],[],r,s,_,_,h=>⟨rfl,(List.cons.inj h).2⟩
 |[],y::b,r,s,_,hb,h=>absurd (List.cons.inj h).1 fun e=>hb (by rw[<-e];exact Hx)
 |x::a,[],r,s,ha,_,h=>absurd (List.cons.inj h).1 fun e=>ha (by rw[e];exact Hx)
 |x::a,y::b,r,s,ha,hb,h=>by
  obtain⟨e1,e2⟩:=List.cons.inj h
  obtain⟨e3,e4⟩:=pU (fun m=>ha (GZ _ m)) (fun m=>hb (GZ _ m)) e2
  exact⟨by rw[e1,e3],e4⟩
theorem join_cons(c:Nat)(t u:Str)(ts:List Str):(HP ⟨#[c]⟩ (t::u::ts)).cps.toList=t.cps.toList++c::(HP ⟨#[c]⟩ (u::ts)).cps.toList:=by show(t++⟨#[c]⟩++HP ⟨#[c]⟩ (u::ts)).cps.toList=_;rw[bU,bU];simp
theorem rL(c:Nat):∀(ts us:List Str),ts≠[]->us≠[]->(∀t∈ts,c∉t.cps.toList)->(∀u∈us,c∉u.cps.toList)->HP ⟨#[c]⟩ ts=HP ⟨#[c]⟩ us->ts=us
 |[],_,h,_,_,_,_=>absurd rfl h
 |_,[],_,h,_,_,_=>absurd rfl h
 |[t],[u],_,_,_,_,h=>by rw[show t=u from h]
 |[t],u::v::us,_,_,ht,_,h=>by
  exfalso
  have e:t.cps.toList=u.cps.toList++c::(HP ⟨#[c]⟩ (v::us)).cps.toList:=by rw[<-join_cons,<-h];rfl
  exact ht t (Hu.mpr rfl) (by rw[e];simp)
 |t::v::ts,[u],_,_,_,hu,h=>by
  exfalso
  have e:u.cps.toList=t.cps.toList++c::(HP ⟨#[c]⟩ (v::ts)).cps.toList:=by rw[<-join_cons,h];rfl
  exact hu u (Hu.mpr rfl) (by rw[e];simp)
 |t::t2::ts,u::u2::us,_,_,ht,hu,h=>by
  have e:=congrArg (fun x:Str=>x.cps.toList) h
  rw[join_cons,join_cons]at e
  obtain⟨e1,e2⟩:=pU (ht t Hx) (hu u Hx) e
  rw[bA e1,rL c (t2::ts) (u2::us) (by simp) (by simp) (fun z hz=>ht z (GZ _ hz)) (fun z hz=>hu z (GZ _ hz)) (bA e2)]
theorem fT(c:Nat)(ts:List Str)(h0:ts≠[])(h:∀t∈ts,c∉t.cps.toList):HN (HP ⟨#[c]⟩ ts) ⟨#[c]⟩=ts:=rL c _ _ (fun e=>by have:=PyProof.Rows.split_pos (HP ⟨#[c]⟩ ts) ⟨#[c]⟩;rw[e]at this;exact absurd this (by decide)) h0 (StrLaws.split_free _ c) h (JB _ _)
theorem vT{x:Str}{c:Nat}(h:c∉x.cps.toList):Iy x ⟨#[c]⟩=(x,IL,IL):=by
 have e:(occurrences x ⟨#[c]⟩ 0 x.length 1).isEmpty=true:=by rw[PyProof.Rows.empty_one,decide_eq_false h];rfl
 unfold Iy;rw[List.isEmpty_iff.mp e]
theorem wu{x a b:Str}{c:Nat}(h:c∉a.cps.toList)(hx:x.cps.toList=a.cps.toList++c::b.cps.toList):Iy x ⟨#[c]⟩=(a,⟨#[c]⟩,b):=by
 have hm:c∈x.cps.toList:=by rw[hx];simp
 have e:(occurrences x ⟨#[c]⟩ 0 x.length 1).isEmpty=false:=by rw[PyProof.Rows.empty_one,decide_eq_true hm];rfl
 have s1:=StrLaws.partition_sum x ⟨#[c]⟩
 have p2:(Iy x ⟨#[c]⟩).2.1=⟨#[c]⟩:=by
  unfold Iy;cases q:occurrences x ⟨#[c]⟩ 0 x.length 1 with
  |nil=>rw[q]at e;cases e
  |cons i r=>rfl
 have p1:c∉(Iy x ⟨#[c]⟩).1.cps.toList:=by
  rcases PyProof.Rows.partition_head x ⟨#[c]⟩with⟨_,z⟩|⟨i,z1,z2,z3⟩
  ·obtain⟨j,hj⟩:=List.getElem?_of_mem hm;exact absurd ((StrLaws.subAt_one x c j).mpr hj) (z j)
  ·rw[z1];exact StrLaws.part_free x c 0 i (He (Nat.le_add_right _ _) z2.1) fun k _ hk=>z3 k hk
 have e2:=congrArg (fun z:Str=>z.cps.toList) s1;rw[bU,bU,p2,hx]at e2;have e3:(Iy x ⟨#[c]⟩).1.cps.toList++c::(Iy x ⟨#[c]⟩).2.2.cps.toList=a.cps.toList++c::b.cps.toList:=by rw[<-e2];simp
 obtain⟨q1,q2⟩:=pU p1 h e3;exact Prod.ext (bA q1) (Prod.ext p2 (bA q2))
theorem lW{x y:Str}{c:Nat}(h:x.cps.toList=c::y.cps.toList):IT x (some 1) none=y:=by
 have hl:x.length=y.cps.toList.length+1:=by rw[ba,h];rfl
 have e:strSliceIndices (some 1) none 1 x.length=strSliceIndices (some ((1:Nat):Int)) (some ((x.length:Nat):Int)) 1 x.length:=by
  unfold strSliceIndices
  have h1:¬((x.length:Int)<0):=by omega
  have h2:max (0:Int) (min (x.length:Int) (x.length:Int))=x.length:=by omega
  simp[h1,h2]
 have p:=StrLaws.sliced_plain x (a:=1) (b:=x.length) (by omega) (GY _);rw[<-e]at p;have l:(strSliceIndices (some 1) none 1 x.length).length=x.length-1:=by rw[e,StrLaws.strSliceIndices_plain (by omega) (GY _)];simp
 unfold IT;rw[if_neg (by rw[l];simp;omega),p];apply bA;rw[h];simp[hl];exact List.take_of_length_le (by simp)
theorem wg{x:Str}{c:Nat}{r:List Nat}(h:x.cps.toList=c::r):Jg x ⟨#[c]⟩=true:=by obtain⟨h1,h2⟩:=(StrLaws.subAt_one x c 0).mpr (by rw[h];rfl);unfold Jg;rw[h2,decide_eq_true h1];rfl
theorem zi{x:Str}{c:Nat}(h:x.cps.toList[0]?≠some c):Jg x ⟨#[c]⟩=false:=by
 cases e:Jg x ⟨#[c]⟩with
 |false=>rfl
 |true=>
  unfold Jg at e
  rw[Hl,decide_eq_true_eq]at e
  exact absurd ((StrLaws.subAt_one x c 0).mp e) h
theorem eR:G1 "/"=⟨#[47]⟩:=by decide +kernel
theorem dG:G1 " "=⟨#[32]⟩:=by decide +kernel
theorem Bg:G1 "\n"=⟨#[10]⟩:=by decide +kernel
theorem kR:G1 "-"=⟨#[45]⟩:=by decide +kernel
theorem fh:G1 "0"=⟨#[48]⟩:=by decide +kernel
theorem jR:G1 ""=IL:=by decide +kernel
theorem lO:(G1 "wall").cps.toList=[119,97,108,108]:=by decide +kernel
theorem qi:(G1 "0123456789").cps.toList=[48,49,50,51,52,53,54,55,56,57]:=by decide +kernel
theorem cZ(a:Int):∃n:Nat,(a=n/\(iT a).cps.toList=dgs n)\/(a=-(n:Int)/\0<n/\(iT a).cps.toList=45::dgs n):=by
 by_cases h:0<=a
 ·obtain⟨n,rfl⟩:=Jk h;exact⟨n,.inl ⟨rfl,du n⟩⟩
 ·obtain⟨n,e⟩:∃n:Nat,a=-((n+1:Nat):Int):=⟨a.natAbs-1,by omega⟩;subst e;exact⟨n+1,.inr ⟨rfl,by omega,sA n⟩⟩
theorem kY{a:Int}{c:Nat}(h:c∈(iT a).cps.toList):c=45\/(48<=c/\c<=57):=by
 obtain⟨n,⟨_,e⟩|⟨_,_,e⟩⟩:=cZ a
 ·rw[e]at h;exact .inr (dY h)
 ·rw[e]at h;rcases Hr.mp h with h|h
  ·exact .inl h
  ·exact .inr (dY h)
theorem fV{a:Int}{k:Nat}(h:a.natAbs<10^(k+1)):(iT a).length<=k+2:=by
 obtain⟨n,⟨z,e⟩|⟨z,_,e⟩⟩:=cZ a
 ·have hn:a.natAbs=n:=by omega
  have:=kO k n (by omega);rw[ba,e];omega
 ·have hn:a.natAbs=n:=by omega
  have:=kO k n (by omega);rw[ba,e,Hw];omega
theorem pI{n:Nat}{a:Int}(h:Bd (n+1) a):a.natAbs<10^(n+1):=G8 h (Nat.pow_le_pow_left (by decide) _)
theorem gR{α:Type}(l:List α):L2.atI l ((0:Nat):Int)=l[0]?:=by
 cases l with
 |nil=>rfl
 |cons a l=>exact eQ rfl
def sF(a b:Int):Str:=if b=1 then iT a else iT a++⟨#[47]⟩++iT b
abbrev sQ(q:Rat):Str:=sF q.num (q.den:Int)
theorem iu{a b:Int}{c:Nat}(h:c∈(sF a b).cps.toList):c=45\/c=47\/(48<=c/\c<=57):=by
 unfold sF at h;split at h
 ·rcases kY h with z|z
  ·exact .inl z
  ·exact .inr (.inr z)
 ·rw[bU,bU]at h;rcases Hv.mp h with h|h
  ·rcases Hv.mp h with h|h
   ·rcases kY h with z|z
    ·exact .inl z
    ·exact .inr (.inr z)
   ·exact .inr (.inl (by simpa using h))
  ·rcases kY h with z|z
   ·exact .inl z
   ·exact .inr (.inr z)
theorem Dy{a b:Int}(ha:Bd 900 a)(hb:Bd 900 b):(sF a b).length<=2000:=by
 have h1:=fV (k:=899) (pI ha);have h2:=fV (k:=899) (pI hb);unfold sF;split
 ·omega
 ·rw[len_app,len_app];have:(⟨#[47]⟩:Str).length=1:=rfl;omega
def ED(q:List Rat):Str:=HP ⟨#[32]⟩ (G1 "wall"::q.map sQ)
def wQ(t b X Y:Int)(w:Wl):List Rat:=[Ma.ut t b X 1 w.1,Ma.ut t b Y 1 w.2.1,Ma.ut t b X 1 w.2.2.1,Ma.ut t b Y 1 w.2.2.2]
def jA(t b X Y:Int)(w:Wl):Str:=ED (wQ t b X Y w)
theorem xB{M M':MH}{p:Addr}(h:M' p=none)(s:SD.Sub M M'):M p=none:=by
 cases e:M p with
 |none=>rfl
 |some o=>rw[s _ _ e]at h;cases h
theorem b30{z:Int}(h:z.natAbs<10^30):Bd 900 z:=G8 h (by show 10^30<=2^900;exact He (show 10^30<=2^100 by decide) (Nat.pow_le_pow_right (by decide) (by decide)))
theorem gW(s c:Nat):∀ts:List Str,c∈(HP ⟨#[s]⟩ ts).cps.toList->c=s\/∃t∈ts,c∈t.cps.toList
 |[],h=>by simp[HP,IL]at h
 |[t],h=>.inr ⟨t,Hu.mpr rfl,h⟩
 |t::u::ts,h=>by
  rw[join_cons]at h
  rcases Hv.mp h with h|h
  ·exact .inr ⟨t,Hx,h⟩
  ·rcases Hr.mp h with h|h
   ·exact .inl h
   ·rcases gW s c (u::ts) h with z|⟨v,z1,z2⟩
    ·exact .inl z
    ·exact .inr ⟨v,GZ _ z1,z2⟩
theorem Ap(t b X Y:Int)(w:Wl):10∉(jA t b X Y w).cps.toList/\(jA t b X Y w).cps.toList≠[]:=by
 refine⟨fun h=>?_,fun h=>?_⟩
 ·rcases gW 32 10 _ h with z|⟨v,z1,z2⟩
  ·cases z
  ·rcases Hr.mp z1 with rfl|z1
   ·rw[lO]at z2;exact absurd z2 (by decide)
   ·obtain⟨q,_,rfl⟩:=IB.mp z1;have:=iu z2;omega
 ·have e:(jA t b X Y w).cps.toList=(G1 "wall").cps.toList++32::(HP ⟨#[32]⟩ ((wQ t b X Y w).map sQ)).cps.toList:=join_cons 32 _ _ _;rw[e,lO]at h;cases h
section
variable{X:Cx}
def EV(te:TD):TTD:=fun δ M Q=>te δ M fun x M1=>∃l xs,x=.ref l/\M1 l=some (.lst xs)/\Q (!xs.isEmpty) M1
theorem um{e:Expr}{te:TD}(he:DE X e te)(hw:∀whole,isTrue e X.env whole=(do let v <-whole;standAt e.pos;holding [v] (truthy v)):=by intro _;rfl):DT X e (EV te):=
 lD (xA he hw) fun σ H Q ⟨δ,M,R,hs,hM,q,fin⟩=>⟨δ,M,_,hs,hM,q,fun x M1 v H1 g1 r1 a1 ⟨l,xs,ex,hl,q1⟩=>by
  subst ex
  rw[Rep]at r1;subst r1
  obtain⟨ys,hy,ry⟩:=a1 _ _ hl
  refine⟨_,.inl ⟨ys,SqL.of hy,rfl⟩,?_⟩
  have e:ys.isEmpty=xs.isEmpty:=by
   have:=ry.length
   cases xs<;>cases ys<;>simp at this ⊢
  rw[e]
  exact fin _ _ _ g1 a1 q1⟩
end
section
variable{X:Cx}
theorem zY:SlR X (fun x lo hi H Q=>∃z,x=.str z/\z.length<=GX/\Q (.str (IT z lo hi)) H):=by
 intro pins s σ H x v vl vu lo hi sl Q I rx hs pl pu z0;obtain⟨z,ex,hz,q⟩:=z0;subst ex;obtain⟨t,rfl⟩:=rx;cases pl with
 |int i u=>
  cases pu with
  |int j u'=>exact⟨"str",_,Ja.lookup,Jy _ _ _,Jj (l:=some (_,u)) (u:=some (_,u')) (st:=none) hs rfl (post_val_or_str ⟨He (JK z _ _) hz,fun t' k=>⟨.str _,H,I.tok k,⟨t',rfl⟩,q⟩⟩)⟩
  |none=>exact⟨"str",_,Ja.lookup,Jy _ _ _,Jj (l:=some (_,u)) (u:=none) (st:=none) hs rfl (post_val_or_str ⟨He (JK z _ _) hz,fun t' k=>⟨.str _,H,I.tok k,⟨t',rfl⟩,q⟩⟩)⟩
 |none=>
  cases pu with
  |int j u'=>exact⟨"str",_,Ja.lookup,Jy _ _ _,Jj (l:=none) (u:=some (_,u')) (st:=none) hs rfl (post_val_or_str ⟨He (JK z _ _) hz,fun t' k=>⟨.str _,H,I.tok k,⟨t',rfl⟩,q⟩⟩)⟩
  |none=>exact⟨"str",_,Ja.lookup,Jy _ _ _,Jj (l:=none) (u:=none) (st:=none) hs rfl (post_val_or_str ⟨He (JK z _ _) hz,fun t' k=>⟨.str _,H,I.tok k,⟨t',rfl⟩,q⟩⟩)⟩
def Ax:D->Option Int->Option Int->MH->DK->Prop:=fun x lo hi M Q=>match x with
 |.str z=>z.length<=GX/\Q (.str (IT z lo hi)) M
 |x=>AQ x lo hi M Q
def F6(te:TD)(tl th:TOD):TD:=fun δ M Q=>te δ M fun x M1=>tl δ M1 fun l M2=>th δ M2 fun u M3=>Ax x l u M3 Q
variable{a:Expr}{te:TD}{tl th:TOD}{lo hi:Option Expr}{pos p2:Pos}
theorem aP(he:DE X a te)(hl:PO X lo (oJ X.K tl))(hu:PO X hi (oJ X.K th)):DE X (.Subscript a (.Slice lo hi none p2) pos) (F6 te tl th):=
 bD (mQ ((uI.or za).or zY) he hl hu) fun σ H Q z9=>by
  obtain⟨δ,M,R,hs,a,q,fin⟩:=z9
  refine⟨δ,M,_,hs,a,q,fun x M1 v H1 g1 r1 a1 q1=>⟨δ,M1,_,hs.mono g1,a1,q1,fun l M2 H2 g2 a2 q2=>⟨δ,M2,_,hs.mono (g1.trans g2),a2,q2,fun u M3 H3 g3 a3 q3=>?_⟩⟩⟩
  have G:=(g1.trans g2).trans g3
  have r3:=r1.mono (g2.trans g3)
  unfold Ax at q3
  split at q3
  ·rw[Rep]at r3
   subst r3
   exact .inr ⟨_,rfl,q3.1,fin _ _ _ _ G (by rw[Rep]) a3 q3.2⟩
  ·unfold AQ at q3
   split at q3
   ·obtain⟨ds,e3,q3⟩:=q3
    obtain rfl:v=.ref _:=r3
    obtain⟨xs,hx,rs⟩:=a3 _ _ e3
    exact .inl (.inl ⟨_,xs,rfl,SqL.of hx,fun z hz=>fin _ _ _ _ (G.trans (.new hz)) (by rw[Rep]) (a3.kJ hz (rs.cut _ _)) (q3 z (a3.fresh hz))⟩)
   ·rw[Rep]at r3
    obtain⟨b,xs,rfl,hx,rs⟩:=r3
    exact .inl (.inl ⟨_,xs,rfl,hx.sql,fun z hz=>fin _ _ _ _ (G.trans (.new hz)) (by rw[Rep]) (a3.kJ hz (rs.cut _ _)) (q3 z (a3.fresh hz))⟩)
   ·obtain⟨hw,q3⟩:=q3
    rw[Rep]at r3
    obtain⟨b,xs,rfl,hx,rs⟩:=r3
    exact .inl (.inr ⟨_,xs,rfl,hx,by rw[<-rs.length];exact hw,fun z hz=>fin _ _ _ _ (G.trans (.new hz)) (by rw[Rep];exact⟨z,_,rfl,SqT.of aY,(rs.cut _ _).mono (.new hz)⟩) (a3.new hz) q3⟩)
   ·exact q3.elim
def tw(z:Str)(n:Int):Str:=⟨(Jx n.toNat z.cps).foldl (·++·) #[]⟩
theorem tI:OpR X (J2 .Mult) (fun x y H Q=>∃z n,x=.str z/\y=.int n/\1<n/\n<=1000/\0<z.length/\z.length<=1000/\(tw z n).length<=GX/\Q (.str (tw z n)) H):=by
 intro pins s σ H x y v u Q I rx ry h;obtain⟨z,n,rfl,rfl,h1,h2,h3,h4,h5,q⟩:=h;obtain⟨t,rfl⟩:=rx;obtain⟨t',rfl⟩:=ry;have e:(n==1||z.length==0)=false:=by rw[Bool.or_eq_false_iff];exact⟨by rw[beq_eq_false_iff_ne];omega,by rw[beq_eq_false_iff_ne];omega⟩
 have sz:1000000<=GX:=nbL rfl;have le:z.length*n.toNat<=1000*1000:=Nat.mul_le_mul h4 (by omega);refine PySem.P.mul_str (by rw[Bool.or_eq_false_iff];exact⟨decide_eq_false (by omega),decide_eq_false (by omega)⟩) (fun _ _=>?_) (fun _ _=>?_) ?_
 ·have:(1000:Int)<=(2^63-1)/n:=by rw[Int.le_ediv_iff_mul_le (by omega)];omega
  omega
 ·show decide (_>GX)=false;exact decide_eq_false (by omega)
 ·rw[if_neg (by omega),if_neg (by rw[e];decide)];exact⟨h5,.str _,H,I.tok _,⟨_,rfl⟩,q⟩
def Ca:R2D:=fun x y M Q=>match x,y with
 |.str z,.int n=>1<n/\n<=1000/\0<z.length/\z.length<=1000/\(tw z n).length<=GX/\Q (.str (tw z n)) M
 |x,y=>BF x y M Q
theorem jE:OpD X (J2 .Mult) Ca:=eF (tI.or aH) fun v u H Q z9=>by
 obtain⟨x,y,M,R,r1,r2,a,q,fin⟩:=z9;unfold Ca at q;split at q
 ·obtain rfl:v=.str _:=by rw[Rep]at r1;exact r1
  obtain rfl:u=.int _:=by rw[Rep]at r2;exact r2
  obtain⟨h1,h2,h3,h4,h5,q⟩:=q;exact .inl ⟨_,_,rfl,rfl,h1,h2,h3,h4,h5,fin _ _ _ _ .refl (by rw[Rep]) a q⟩
 ·exact .inr ⟨_,_,M,R,r1,r2,a,q,fin⟩
theorem DQ{es:List Expr}{k n:Nat}{t:TGs}{pos:Pos}(hc:X.calm=true)(h:PGs X es t)(hn:(Im es X.env).length=n:=by rfl)(hst:(Im es X.env).findIdx? (·.1)=none:=by rfl) :
 PG X (.Tuple es k pos) (fun v σ H Q=>∃a xs,v=.ref a/\SqL X.K H a xs/\xs.length=n/\t xs σ H Q):=by
 intro pins s σ H v u Q I r z0
 obtain⟨a,xs,ev,hq,hl,q⟩:=z0
 subst ev
 cases r
 obtain⟨its,rv,p,_⟩:=I.list hq
 have e:(Im es X.env).length=its.toArray.size:=by rw[hn,<-hl,rv.length,Hg]
 rw[PyProof.Rows.assign_Tuple]
 refine G2 (JL ?_)
 unfold unpack
 rw[e,hst]
 refine G2 (IG (PySem.W.kun_itemsOf (I.ok.hd hc) p.isList fun h' hx=>?_))
 have I1:Inv X pins σ H { s with heap:=h' }:=I.kept (t':=s.toks) fun b o e=>hx b o (HJ (Hb e)) e
 exact h pins _ σ H xs _ Q I1 (by simpa using rv) q
def E2(n:Nat)(t:mI):TGD:=fun d δ M Q=>∃l ds,d=.ref l/\M l=some (.lst ds)/\ds.length=n/\t ds δ M Q
theorem yK{es:List Expr}{k n:Nat}{t:mI}{pos:Pos}(hc:X.calm=true)(h:DGs X es t)(hn:(Im es X.env).length=n:=by rfl)(hst:(Im es X.env).findIdx? (·.1)=none:=by rfl):DG X (.Tuple es k pos) (E2 n t):=
 mV (DQ hc h hn hst) fun v σ H Q z=>by
  obtain⟨d,δ,M,R,r,hs,a,⟨l,ds,e,hl,hn,q⟩,fin⟩:=z
  subst e
  rw[Rep]at r;subst r
  obtain⟨xs,hx,rx⟩:=a _ _ hl
  exact⟨l,xs,rfl,SqL.of hx,by rw[<-rx.length];exact hn,ds,δ,M,R,rx,hs,a,q,fin⟩
abbrev sgV(c:Nat):V:=.str ⟨#[c]⟩
theorem lZ:∀(l:List Nat) (us:List G0),us.length=l.length->(∀(j:Nat) (v:G0),us[j]?=some v->∃(c:Nat) (u:Tok),l[j]?=some c/\v=Value.str ⟨#[c]⟩ u)->Vals (l.map sgV) us
 |[],[],_,_=>.nil
 |c::l,v::us,hl,h=>by
  obtain⟨c',u,e,hv⟩:=h 0 v rfl
  have:c=c':=by simpa using e
  subst this
  exact .cons ⟨u,hv⟩ (lZ l us (by simpa using hl) fun j v hj=>h (j+1) v (by simpa using hj))
theorem si(hc:X.calm=true):b8 X (.type "list") (fun xs H Q=>∃z,xs=[.str z]/\z.length<=10000/\∀p,H p=none->Q (.ref p) (upd H p (.lst (z.cps.toList.map sgV)))):=by
 intro pins s σ H xs us Q I rx z0;obtain⟨z,ex,hz,q⟩:=z0;subst ex;obtain⟨u,rfl,ru⟩:=vals1 rx;obtain⟨t,rfl⟩:=ru;have sz:1000000<=GX:=nbL rfl;have hz':z.cps.size<=10000:=hz;refine call_list_str (I.ok.hd hc) z t (fun h' tk acc' c' hk hS hacc=>?_) (by omega);have rv:Vals (z.cps.toList.map sgV) acc'.toList:=lZ _ _ (by rw[Jo,Jo];exact hacc.1) fun j v hj=>by obtain⟨c,u,e1,e2⟩:=hacc.2 j v (by rw[<-Array.getElem?_toList];exact hj);exact⟨c,u,by rw[Array.getElem?_toList];exact e1,e2⟩
 have I3:=I.laid (h':=h') (a:=s.heap.objs.size) (o:=.lst (z.cps.toList.map sgV)) (t':=tk) hk (GY _) ⟨by rw[G4,Jo];omega,acc'.toList,c',rv,by rw[Array.toArray_toList];exact hS⟩;exact⟨.ref _,_,I3,rfl,q _ (I.hok.fresh (GY _))⟩
def yA:RC:=fun ds M Q=>match ds with
 |[.str z]=>z.length<=10000/\∀p,M p=none->Q (.ref p) (av M p (.lst (z.cps.toList.map fun c=>D.str ⟨#[c]⟩)))
 |ds=>yf ds M Q
theorem yQ(hc:X.calm=true):cX X (.type "list") yA:=bT ((si hc).or Bp) fun vs H Q z9=>by
 obtain⟨ds,M,R,rs,a,q,fin⟩:=z9;unfold yA at q;split at q
 ·obtain⟨v,rfl,r⟩:=b6 rs;rw[Rep]at r;subst r
  exact .inl ⟨_,rfl,q.1,fun p hp=>fin _ _ _ _ (.new hp) (by rw[Rep]) (a.kJ hp (by
   have:∀l:List Nat,aK X.K H (l.map fun c=>D.str ⟨#[c]⟩) (l.map sgV):=fun l=>by
    induction l with
    |nil=>exact .nil
    |cons c l ih=>exact .cons (by rw[Rep]) ih
   exact this _)) (q.2 p (a.fresh hp))⟩
 ·exact .inr ⟨_,M,R,rs,a,q,fin⟩
end
def Dx:Expr->Option Str
 |.Constant (.str x) _ _=>some x
 |_=>none
def oh:List Expr->List Str
 |[]=>[]
 |e::es=>(Dx e).getD IL::oh es
def Bu(ss:List Str):TAD:=fun δ M Q=>Q (ss.map D.str) M
theorem vH{X:Cx}:∀{es:List Expr},(es.all fun e=>(Dx e).isSome)=true->DA X es (Bu (oh es))
 |[],_=>ae
 |e::es,h=>by
  rw[List.all_cons,Hl]at h
  have ih:=vH (X:=X) h.2
  cases e with
  |Constant c j pos=>
   cases c with
   |str x=>exact aa aG ih rfl
   |_=>cases h.1
  |_=>cases h.1
theorem qy{X:Cx}{es:List Expr}{pos:Pos}(h:(es.all fun e=>(Dx e).isSome)=true):DE X (.List es pos) (B7 (Bu (oh es))):=aW (vH h)
section
variable{X:Cx}{e st:Expr}{pos p2:Pos}
end
def N30(q:Rat):Prop:=q.num.natAbs<10^30/\q.den<10^30
def spq(s:Rat×Rat):D:=Ma.spt s.1 s.2
def flat:List (Rat×Rat)->List Rat
 |[]=>[]
 |s::r=>s.1::s.2::flat r
theorem qE:∀l:List (Rat×Rat),(flat l).length=2*l.length
 |[]=>rfl
 |s::r=>by show(flat r).length+1+1=_;rw[qE r,Hw];omega
theorem ER:(G1 "ask").cps.toList=[97,115,107]:=by decide +kernel
theorem Cq:G1 "ask"≠G1 "wall":=by decide +kernel
theorem wj{M M':MH}(s:SD.Sub M M'){v:D}{ds:List D}(h:zz M v ds):zz M' v ds:=by
 cases v with
 |ref a=>exact s _ _ h
 |tup _=>exact h
 |rol _=>exact h
 |_=>exact h.elim
def gy(q:Rat):JO:=.tuple [.int q.num,.int (q.den:Int)]
theorem qS:∀(l:List (Rat×Rat)) (j:Nat),(flat l)[2*j]?=(l[j]?).map (·.1)/\(flat l)[2*j+1]?=(l[j]?).map (·.2)
 |[],j=>by simp[flat]
 |s::l,0=>⟨rfl,rfl⟩
 |s::l,j+1=>by
  have ih:=qS l j
  rw[show 2*(j+1)=2*j+1+1 by omega,show 2*j+1+1+1=(2*j+1)+1+1 by omega]
  exact ih
theorem zH{n c:Nat}(hn:0<n)(h:48<=c/\c<=57):dgs n++[c]=dgs (10*n+(c-48)):=by rw[ju (n:=10*n+(c-48)) (by omega),show(10*n+(c-48))/10=n by omega,show(10*n+(c-48))%10=c-48 by omega,c6 (n:=c-48) (by omega),show 48+(c-48)=c by omega]
theorem qG:∀(r:List Nat) (n:Nat),0<n->(∀c∈r,48<=c/\c<=57)->∃m,dgs n++r=dgs m
 |[],n,_,_=>⟨n,by simp⟩
 |c::r,n,hn,h=>by
  have hc:=h c (by simp)
  obtain⟨m,e⟩:=qG r (10*n+(c-48)) (by omega) (fun c hc=>h c (by simp[hc]))
  refine⟨m,?_⟩
  rw[<-e,<-zH hn hc];simp
theorem A8{l:List Nat}(h0:l≠[])(h:∀c∈l,48<=c/\c<=57)(hz:l=[48]\/l[0]?≠some 48):∃n,l=dgs n:=by
 rcases hz with rfl|hz
 ·exact⟨0,(c6 (n:=0) (by decide)).symm⟩
 cases l with
 |nil=>exact absurd rfl h0
 |cons c r=>
  have hc:=h c (by simp)
  have c0:c≠48:=fun z=>hz (by simp[z])
  obtain⟨m,e⟩:=qG r (c-48) (by omega) (fun c hc=>h c (by simp[hc]))
  refine⟨m,?_⟩
  rw[<-e,c6 (by omega),show 48+(c-48)=c by omega];rfl
theorem zh:∀(k n:Nat),(dgs n).length<=k->n<10^k
 |0,n,h=>by
  have:=jI n
  cases e:dgs n with
  |nil=>exact absurd e this
  |cons _ _=>rw[e]at h;simp at h
 |k+1,n,h=>by
  by_cases hn:n<10
  ·have:1<=10^k:=Nat.one_le_pow _ _ (by decide)
   rw[Nat.pow_succ];omega
  ·rw[ju hn,ID,c6 (n:=n%10) (by omega)]at h
   have:=zh k (n/10) (by simpa using h)
   rw[Nat.pow_succ];omega
def Wh(z:Str)(n:Nat):Prop:=z.cps.toList=dgs n/\n<10^30
theorem Wh.len{z:Str}{n:Nat}(h:Wh z n):z.length<=30:=by rw[ba,h.1];exact kO 29 n h.2
theorem Wh.pos{z:Str}{n:Nat}(h:Wh z n):1<=z.length:=by
 rw[ba,h.1];cases e:dgs n with
 |nil=>exact absurd e (jI n)
 |cons _ _=>simp
theorem Wh.dig{z:Str}{n c:Nat}(h:Wh z n)(hc:c∈z.cps.toList):48<=c/\c<=57:=dY (n:=n) (by rw[<-h.1];exact hc)
theorem Wh.head{z:Str}{n:Nat}(h:Wh z n)(h0:z.cps.toList[0]?=some 48):z=⟨#[48]⟩:=by
 rw[h.1]at h0;cases ed:dgs n with
 |nil=>exact absurd ed (jI n)
 |cons c r=>
  rw[ed]at h0
  have:c=48:=by simpa using h0
  subst this
  have n0:=rn n r ed
  subst n0
  exact bA (by rw[h.1,c6 (by decide)])
theorem vq{z:Str}(l1:1<=z.length)(l2:z.length<=30)(hd:∀c∈z.cps.toList,48<=c/\c<=57)(h0:z.cps.toList[0]?=some 48->z=⟨#[48]⟩):∃n,Wh z n:=by
 obtain⟨n,e⟩:=A8 (l:=z.cps.toList) (fun e=>by rw[ba,e]at l1;simp at l1) hd (by
  by_cases q:z.cps.toList[0]?=some 48
  ·exact .inl (by rw[h0 q])
  ·exact .inr q)
 exact⟨n,e,zh 30 n (by rw[<-e,<-ba];exact l2)⟩
theorem Wh.read{z:Str}{n:Nat}(h:Wh z n):PySem.intText? z=some (n:Int):=rS h.1 (by have:=h.len;omega)
theorem Wh.one{z:Str}{n m:Nat}(h:Wh z n)(h':Wh z m):n=m:=by have:=h.read.symm.trans h'.read;have:=Option.some.inj this;omega
theorem dw{n m:Nat}(hn:n<10^30)(hm:m<10^30)(h:dgs n=dgs m):n=m:=Wh.one (z:=Str.mk (dgs n).toArray) ⟨by simp,hn⟩ ⟨by simp[h],hm⟩
theorem qp{a b:Int}(ha:a.natAbs<10^30)(hb:b.natAbs<10^30)(h:iT a=iT b):a=b:=by
 have no:∀{n:Nat} {r:List Nat},dgs n≠45::r:=fun{n r} e=>by
  have:=dY (show 45∈dgs n by rw[e];simp)
  omega
 obtain⟨n,⟨e1,e2⟩|⟨e1,n0,e2⟩⟩:=cZ a<;>obtain⟨m,⟨f1,f2⟩|⟨f1,m0,f2⟩⟩:=cZ b<;>rw[h,f2]at e2
 ·have:=dw (by omega) (by omega) e2;omega
 ·exact absurd e2.symm no
 ·exact absurd e2 no
 ·have:=dw (by omega) (by omega) (List.cons.inj e2).2;omega
theorem lQ{c:Nat}:∀{l:List Nat},c∈l->∃a b,l=a++c::b/\c∉a
 |x::l,h=>by
  by_cases e:x=c
  ·exact⟨[],l,by rw[e];rfl,by simp⟩
  ·obtain⟨a,b,e1,e2⟩:=lQ (l:=l) (by rcases Hr.mp h with q|q;exact absurd q.symm e;exact q)
   exact⟨x::a,b,by rw[e1];rfl,by simp[e2,Ne.symm e]⟩
theorem qM(a:Int):47∉(iT a).cps.toList:=fun h=>by have:=kY h;omega
theorem eA{q:Rat}(h:(q.den:Int)=1):sQ q=iT q.num:=by show sF q.num (q.den:Int)=_;unfold sF;rw[if_pos h]
theorem jx{q:Rat}(h:¬(q.den:Int)=1):sQ q=iT q.num++⟨#[47]⟩++iT (q.den:Int):=by show sF q.num (q.den:Int)=_;unfold sF;rw[if_neg h]
theorem zu{q:Rat}(h:47∉(sQ q).cps.toList):(q.den:Int)=1:=by
 by_cases z:(q.den:Int)=1
 ·exact z
 ·rw[jx z,bU,bU]at h;exact absurd (by simp) h
theorem mT{q:Rat}{a b:List Nat}(h:(sQ q).cps.toList=a++47::b)(ha:47∉a):¬(q.den:Int)=1/\a=(iT q.num).cps.toList/\b=(iT (q.den:Int)).cps.toList:=by
 by_cases z:(q.den:Int)=1
 ·rw[eA z]at h;exact absurd (show 47∈(iT q.num).cps.toList by rw[h];simp) (qM _)
 ·rw[jx z,bU,bU,List.append_assoc]at h;have:=pU ha (qM _) h.symm;exact⟨z,this.1,this.2⟩
theorem b5{x y:Str}(h:x.cps.all (· < 128)=true)(s:∀c∈y.cps.toList,c∈x.cps.toList):y.cps.all (· < 128)=true:=by rw[IZ]at h ⊢;intro c hc;exact h c (by have:=s c (by simpa using hc);simpa using this)
abbrev RW:=Rat×Rat×Rat×Rat
def wq(U:RW):D:=Ma.wll U.1 U.2.1 U.2.2.1 U.2.2.2
def OwQ(U:RW):Prop:=Ma.ah U.1 U.2.1 U.2.2.1 U.2.2.2
structure NQ(n:Nat)(U:RW):Prop where
 a:Ma.Bq n U.1
 b:Ma.Bq n U.2.1
 c:Ma.Bq n U.2.2.1
 d:Ma.Bq n U.2.2.2
def qt(U:RW)(x y:Rat):Bool:=decide (U.1=x/\U.2.1=y)||decide (U.2.2.1=x/\U.2.2.2=y)
def crQ(U:RW)(x y:Rat):Rat:=Ma.cr U.1 U.2.1 U.2.2.1 U.2.2.2 x y
def inQ(U:RW)(x y:Rat):Bool:=!qt U x y&&(!decide (Ma.ah x y U.1 U.2.1)&&!decide (Ma.ah U.2.2.1 U.2.2.2 x y)&&decide (Ma.sgn (crQ U x y)=0))
def eqQ(U V:RW):Bool:=decide (U.1=V.1/\U.2.1=V.2.1/\U.2.2.1=V.2.2.1/\U.2.2.2=V.2.2.2)
def cA(U V:RW):Bool:=!(eqQ U V)&&!(inQ U V.1 V.2.1)&&!(inQ U V.2.2.1 V.2.2.2)&&!(inQ V U.1 U.2.1)&&!(inQ V U.2.2.1 U.2.2.2) &&
 (decide (0<=Ma.sgn (crQ U V.1 V.2.1)*Ma.sgn (crQ U V.2.2.1 V.2.2.2))||decide (0<=Ma.sgn (crQ V U.1 U.2.1)*Ma.sgn (crQ V U.2.2.1 U.2.2.2)))
def uq(b:Int)(w:Wl):RW:=(Ma.ut 1 b 0 1 w.1,Ma.ut 1 b 0 1 w.2.1,Ma.ut 1 b 0 1 w.2.2.1,Ma.ut 1 b 0 1 w.2.2.2)
theorem sL(b x:Int):Ma.ut 1 b 0 1 x=Rat.divInt x b:=by unfold Ma.ut;simp
theorem common:∀l:List Rat,∃b:Int,0<b/\∀q∈l,∃x:Int,q=Ma.ut 1 b 0 1 x
 |[]=>⟨1,by decide,fun q h=>nomatch h⟩
 |q::l=>by
  obtain⟨b,hb,h⟩:=common l
  have hq:(0:Int)<(q.den:Int):=by have:=q.den_pos;omega
  refine⟨(q.den:Int)*b,II hq hb,fun r hr=>?_⟩
  rcases Hr.mp hr with rfl|hr
  ·refine⟨r.num*b,?_⟩
   rw[sL,Rat.divInt_mul_right (by omega),Ic]
  ·obtain⟨x,hx⟩:=h r hr
   refine⟨(q.den:Int)*x,?_⟩
   rw[hx,sL,sL,Rat.divInt_mul_left (by omega)]
theorem Bs(U V:RW):∃(b:Int) (u v:Wl),0<b/\U=uq b u/\V=uq b v:=by
 obtain⟨b,hb,h⟩:=common [U.1,U.2.1,U.2.2.1,U.2.2.2,V.1,V.2.1,V.2.2.1,V.2.2.2];obtain⟨x1,e1⟩:=h U.1 (by simp);obtain⟨x2,e2⟩:=h U.2.1 (by simp);obtain⟨x3,e3⟩:=h U.2.2.1 (by simp);obtain⟨x4,e4⟩:=h U.2.2.2 (by simp);obtain⟨y1,f1⟩:=h V.1 (by simp);obtain⟨y2,f2⟩:=h V.2.1 (by simp);obtain⟨y3,f3⟩:=h V.2.2.1 (by simp);obtain⟨y4,f4⟩:=h V.2.2.2 (by simp);refine⟨b,(x1,x2,x3,x4),(y1,y2,y3,y4),hb,?_,?_⟩
 ·show(U.1,U.2.1,U.2.2.1,U.2.2.2)=_;unfold uq;rw[<-e1,<-e2,<-e3,<-e4]
 ·show(V.1,V.2.1,V.2.2.1,V.2.2.2)=_;unfold uq;rw[<-f1,<-f2,<-f3,<-f4]
section
variable{b:Int}(hb:0<b)
include hb
theorem pq{x y:Int}:Ma.ut 1 b 0 1 x=Ma.ut 1 b 0 1 y↔x=y:=by rw[Ma.yS (by decide) hb (by decide) (by decide)];omega
theorem CA{x y u v:Int}:Ma.ah (Ma.ut 1 b 0 1 x) (Ma.ut 1 b 0 1 y) (Ma.ut 1 b 0 1 u) (Ma.ut 1 b 0 1 v)↔HT.lexLt [x,y] [u,v]=true:=by unfold Ma.ah;rw[Ma.oy (by decide) hb (by decide) (by decide),Ma.oy (by decide) hb (by decide) (by decide),pq hb,Ma.a6];omega
theorem EC(w:Wl):OwQ (uq b w)↔Ow w:=by unfold OwQ uq Ow;rw[CA hb,Ma.a6]
theorem z8(w:Wl)(x y:Int):inQ (uq b w) (Ma.ut 1 b 0 1 x) (Ma.ut 1 b 0 1 y)=inB w x y:=by
 unfold inQ inB qt zO onB crQ uq;dsimp only;have e1:decide (Ma.ut 1 b 0 1 w.1=Ma.ut 1 b 0 1 x/\Ma.ut 1 b 0 1 w.2.1=Ma.ut 1 b 0 1 y)=decide (w.1=x/\w.2.1=y):=decide_eq_decide.mpr (and_congr (pq hb) (pq hb));have e2:decide (Ma.ut 1 b 0 1 w.2.2.1=Ma.ut 1 b 0 1 x/\Ma.ut 1 b 0 1 w.2.2.2=Ma.ut 1 b 0 1 y)=decide (w.2.2.1=x/\w.2.2.2=y):=decide_eq_decide.mpr (and_congr (pq hb) (pq hb));have e3:decide (Ma.ah (Ma.ut 1 b 0 1 x) (Ma.ut 1 b 0 1 y) (Ma.ut 1 b 0 1 w.1) (Ma.ut 1 b 0 1 w.2.1))=HT.lexLt [x,y] [w.1,w.2.1]:=by rw[Hy,decide_eq_true_iff];exact CA hb
 have e4:decide (Ma.ah (Ma.ut 1 b 0 1 w.2.2.1) (Ma.ut 1 b 0 1 w.2.2.2) (Ma.ut 1 b 0 1 x) (Ma.ut 1 b 0 1 y))=HT.lexLt [w.2.2.1,w.2.2.2] [x,y]:=by rw[Hy,decide_eq_true_iff];exact CA hb
 have e5:decide (HC (sd w x y)=0)=decide (sd w x y=0):=decide_eq_decide.mpr Int.sign_eq_zero_iff_zero;rw[e1,e2,e3,e4,lM (by decide) hb,e5,Ma.d3,Ma.d3]
theorem yC(u v:Wl):cA (uq b u) (uq b v)=gk u v:=by
 unfold cA gk;have e:eqQ (uq b u) (uq b v)=eqB u v:=by unfold eqQ eqB uq;dsimp only;rw[decide_eq_decide,pq hb,pq hb,pq hb,pq hb]
 rw[e];show(!(eqB u v)&&!(inQ (uq b u) (Ma.ut 1 b 0 1 v.1) (Ma.ut 1 b 0 1 v.2.1))&&!(inQ (uq b u) (Ma.ut 1 b 0 1 v.2.2.1) (Ma.ut 1 b 0 1 v.2.2.2))&&!(inQ (uq b v) (Ma.ut 1 b 0 1 u.1) (Ma.ut 1 b 0 1 u.2.1))&&!(inQ (uq b v) (Ma.ut 1 b 0 1 u.2.2.1) (Ma.ut 1 b 0 1 u.2.2.2))&&_)=_;rw[z8 hb,z8 hb,z8 hb,z8 hb];unfold crQ uq;dsimp only;rw[lM (by decide) hb,lM (by decide) hb,lM (by decide) hb,lM (by decide) hb];rfl
end
inductive MeetsQ(U V:RW):D->Prop
 |non (h:cA U V=true):MeetsQ U V .non
 |str {d:D} (h:cA U V=false):MeetsQ U V (.tup [.str "stretch",d])
 |spot {x y:Rat} (h:cA U V=(qt U x y&&qt V x y)):MeetsQ U V (.tup [.str "spot",Ma.spt x y])
def mtQ(U V:RW):D:=mD U.1 U.2.1 U.2.2.1 U.2.2.2 V.1 V.2.1 V.2.2.1 V.2.2.2
theorem Dh{U V:RW}(hU:OwQ U)(hV:OwQ V):MeetsQ U V (mtQ U V):=by
 obtain⟨b,u,v,hb,rfl,rfl⟩:=Bs U V;have m:=meets (t:=1) (X:=0) (Y:=0) (by decide) hb ((EC hb u).mp hU) ((EC hb v).mp hV);have e:mtD 1 b 0 0 u v=mtQ (uq b u) (uq b v):=rfl;rw[e]at m;generalize mtQ (uq b u) (uq b v)=d at m;cases m with
 |non h=>exact .non (by rw[yC hb];exact h)
 |str h=>exact .str (by rw[yC hb];exact h)
 |spot h=>exact .spot (by rw[yC hb];exact h)
def fcQ(W:RW)(us:List RW):Option Nat:=us.findIdx? fun U=>!cA W U
theorem yp{W U:RW}{us:List RW}{i:Nat}(e:us[i]?=some U)(h:cA W U=false)(k:∀j U',j<i->us[j]?=some U'->cA W U'=true):fcQ W us=some i:=by obtain⟨hi,e⟩:=Hj.mp e;unfold fcQ;rw[List.findIdx?_eq_some_iff_getElem];exact⟨hi,by rw[e,h];rfl,fun j hj=>by rw[k j us[j] hj (HG (by omega))];decide⟩
theorem yz{W:RW}{us:List RW}(k:∀(j:Nat) U',us[j]?=some U'->cA W U'=true):fcQ W us=none:=by unfold fcQ;rw[List.findIdx?_eq_none_iff];intro U hU;obtain⟨j,hj,e⟩:=List.getElem_of_mem hU;rw[k j U (by rw[HG hj,e])];rfl
theorem vy{U:RW}{x y:Rat}(M:MH)(Q:DK)(q:Q (.bl (qt U x y)) M):w8 (fun b=>b) (Ma.spt x y) (wq U) M Q:=by refine⟨_,_,Pd.of rfl,.inr (Pd.of rfl),rfl,rfl,?_⟩;rw[J7,J7,List.any_nil,Ma.ik,Ma.ik,Bool.or_false];exact q
theorem lB{q r:Rat}(hq:N30 q)(hr:N30 r)(h:sQ q=sQ r):q=r:=by
 by_cases e:47∈(sQ q).cps.toList
 ·obtain⟨a,b,ez,ha⟩:=lQ e;obtain⟨_,p1,p2⟩:=mT ez ha;rw[h]at ez;obtain⟨_,q1,q2⟩:=mT ez ha;have n:=qp hq.1 hr.1 (bA (p1.symm.trans q1));rw[p2,du,du]at q2;exact Rat.ext n (dw hq.2 hr.2 q2)
 ·have d1:=zu e;rw[h]at e;have d2:=zu e;rw[eA d1,eA d2]at h;exact Rat.ext (qp hq.1 hr.1 h) (by omega)
open Classical in
noncomputable def rdq(z:Str):Option Rat:=if h:∃q,N30 q/\z=sQ q then some h.choose else none
theorem gX{z:Str}{q:Rat}(h:rdq z=some q):N30 q/\z=sQ q:=by
 unfold rdq at h;split at h
 ·rename_i e;have:=e.choose_spec;rw[Option.some.inj h]at this;exact this
 ·cases h
theorem jW{z:Str}(h:∀q,N30 q->z≠sQ q):rdq z=none:=by
 cases e:rdq z with
 |none=>rfl
 |some q=>exact absurd (gX e).2 (h q (gX e).1)
theorem iN{z:Str}{q:Rat}(hq:N30 q)(h:z=sQ q):rdq z=some q:=by unfold rdq;rw[dif_pos ⟨q,hq,h⟩];have:=(⟨q,hq,h⟩:∃q,N30 q/\z=sQ q).choose_spec;exact congrArg some (lB hq this.1 (h.symm.trans this.2)).symm
def opF:Option Rat->D
 |some q=>Ma.fr q
 |none=>.non
structure N4(U:RW):Prop where
 a:N30 U.1
 b:N30 U.2.1
 c:N30 U.2.2.1
 d:N30 U.2.2.2
abbrev fY(U:RW):Str:=ED [U.1,U.2.1,U.2.2.1,U.2.2.2]
theorem jS(U:RW):HN (fY U) ⟨#[32]⟩=G1 "wall"::[sQ U.1,sQ U.2.1,sQ U.2.2.1,sQ U.2.2.2]:=fT 32 _ (by simp) (fun t ht=>by
 rcases Hr.mp ht with rfl|ht
 ·rw[lO];decide
 ·obtain⟨q,_,rfl⟩:=IB.mp ht;intro z;have:=iu z;omega)
open Classical in
noncomputable def rdr(z:Str):Option RW:=if h:∃U,N4 U/\z=fY U then some h.choose else none
theorem j7{z:Str}{U:RW}(h:rdr z=some U):N4 U/\z=fY U:=by
 unfold rdr at h;split at h
 ·rename_i e;have:=e.choose_spec;rw[Option.some.inj h]at this;exact this
 ·cases h
theorem CT{z:Str}{U:RW}(hU:N4 U)(h:z=fY U):rdr z=some U:=by unfold rdr;rw[dif_pos ⟨U,hU,h⟩];have hc:=(⟨U,hU,h⟩:∃U,N4 U/\z=fY U).choose_spec;generalize (⟨U,hU,h⟩:∃U,N4 U/\z=fY U).choose=V at hc;have e:=jS U;rw[<-h,hc.2,jS V]at e;obtain⟨e1,e⟩:=List.cons.inj (List.cons.inj e).2;obtain⟨e2,e⟩:=List.cons.inj e;obtain⟨e3,e⟩:=List.cons.inj e;obtain⟨e4,_⟩:=List.cons.inj e;have a:=lB hc.1.a hU.a e1;have b:=lB hc.1.b hU.b e2;have c:=lB hc.1.c hU.c e3;have d:=lB hc.1.d hU.d e4;obtain⟨_,_,_,_⟩:=U;obtain⟨_,_,_,_⟩:=V;simp only at a b c d;subst a b c d;rfl
theorem ip{z:Str}{w:Str}{ws:List Str}(e:HN z ⟨#[32]⟩=w::ws)(U:RW):rdr z=some U↔w=G1 "wall"/\ws.map rdq=[some U.1,some U.2.1,some U.2.2.1,some U.2.2.2]:=by
 constructor
 ·intro h;obtain⟨hU,hz⟩:=j7 h;rw[hz,jS]at e;obtain⟨e1,e2⟩:=List.cons.inj e;refine⟨e1.symm,?_⟩;rw[<-e2,Ho,Ho,Ho,Ho,List.map_nil,iN hU.a rfl,iN hU.b rfl,iN hU.c rfl,iN hU.d rfl]
 ·rintro⟨rfl,h⟩;have hl:ws.length=4:=by have:=congrArg List.length h;simpa using this
  match ws,hl with
  |[x1,x2,x3,x4],_=>
   obtain⟨h1,h⟩:=List.cons.inj h
   obtain⟨h2,h⟩:=List.cons.inj h
   obtain⟨h3,h⟩:=List.cons.inj h
   obtain⟨h4,_⟩:=List.cons.inj h
   have h1:=gX h1
   have h2:=gX h2
   have h3:=gX h3
   have h4:=gX h4
   refine CT ⟨h1.1,h2.1,h3.1,h4.1⟩ ?_
   rw[<-JB z ⟨#[32]⟩,e,h1.2,h2.2,h3.2,h4.2]
   rfl
theorem mv(c:Nat):∀ts:List Str,ts≠[]->ts.length<=(HP ⟨#[c]⟩ ts).length+1/\∀t∈ts,t.length<=(HP ⟨#[c]⟩ ts).length/\∀x∈t.cps.toList,x∈(HP ⟨#[c]⟩ ts).cps.toList
 |[],h=>absurd rfl h
 |[t],_=>⟨by simp,fun u hu=>by rw[Hu.mp hu];exact⟨GY _,fun x hx=>hx⟩⟩
 |t::u::ts,_=>by
  obtain⟨h1,h2⟩:=mv c (u::ts) (by simp)
  have e:=join_cons c t u ts
  have l:(HP ⟨#[c]⟩ (t::u::ts)).length=t.length+(1+(HP ⟨#[c]⟩ (u::ts)).length):=by rw[ba,e,ID,Hw,<-ba,<-ba];omega
  refine⟨by rw[l];simp at h1 ⊢;omega,fun v hv=>?_⟩
  rcases Hr.mp hv with rfl|hv
  ·exact⟨by omega,fun x hx=>by rw[e];exact List.mem_append_left _ hx⟩
  ·obtain⟨a,b⟩:=h2 v hv
   exact⟨by omega,fun x hx=>by rw[e];exact Ib _ (GZ _ (b x hx))⟩
theorem dh(z:Str)(c:Nat):HN z ⟨#[c]⟩≠[]:=fun e=>by have:=PyProof.Rows.split_pos z ⟨#[c]⟩;rw[e]at this;exact absurd this (by decide)
theorem cU(c:Nat)(z:Str):(HN z ⟨#[c]⟩).length<=z.length+1/\∀t∈HN z ⟨#[c]⟩,t.length<=z.length/\∀x∈t.cps.toList,x∈z.cps.toList:=by have:=mv c _ (dh z c);rw[JB z ⟨#[c]⟩]at this;exact this
theorem N4.nq{U:RW}(h:N4 U):NQ 100 U:=by have k:∀{q:Rat},N30 q->Ma.Bq 100 q:=fun{q} h=>⟨G8 h.1 (by decide),G8 (show((q.den:Int)).natAbs<10^30 by simpa using h.2) (by decide)⟩;exact⟨k h.a,k h.b,k h.c,k h.d⟩
def DJ:Option Rat->JO
 |some q=>gy q
 |none=>.none
theorem jg{M:MH}:∀l:List (Option Rat),Pds M (l.map opF) (l.map DJ)
 |[]=>.nil
 |some q::l=>.cons (Pd.of rfl) (jg l)
 |none::l=>.cons .non (jg l)
theorem jw:∀l:List (Option Rat),HH (l.map DJ)=true
 |[]=>rfl
 |some q::l=>by
  rw[Ho,HH,jw l];rfl
 |none::l=>by
  rw[Ho,HH,jw l];rfl
theorem jB:∀l:List (Option Rat),((l.map DJ).any fun q=>Hz q .none)=l.any (fun o=>o.isNone)
 |[]=>rfl
 |some q::l=>by rw[Ho,J7,J7,jB l];rfl
 |none::l=>by rw[Ho,J7,J7,jB l];rfl
open Classical in
noncomputable def rdw(us:List RW)(z:Str):Option RW:=(rdr z).bind fun W=>if OwQ W/\us.length≠40/\fcQ W us=none then some W else none
theorem pf{us:List RW}{z:Str}(h:rdr z=none):rdw us z=none:=by unfold rdw;rw[h];rfl
theorem ud{us:List RW}{z:Str}{W:RW}(h:rdr z=some W)(c:OwQ W/\us.length≠40/\fcQ W us=none):rdw us z=some W:=by unfold rdw;rw[h,HD,if_pos c]
theorem qf{us:List RW}{z:Str}{W:RW}(h:rdr z=some W)(c:¬(OwQ W/\us.length≠40/\fcQ W us=none)):rdw us z=none:=by unfold rdw;rw[h,HD,if_neg c]
theorem Dl{us:List RW}{z:Str}{W:RW}(h:rdw us z=some W):rdr z=some W/\OwQ W/\us.length≠40/\fcQ W us=none:=by
 unfold rdw at h;cases e:rdr z with
 |none=>rw[e]at h;cases h
 |some V=>
  rw[e,HD]at h
  split at h
  ·rename_i c;cases h;exact⟨rfl,c⟩
  ·cases h
def opW:Option RW->D
 |some W=>wq W
 |none=>.non
open Classical in
noncomputable def bF(z:Str):List Str:=if z=IL then[]else HN z ⟨#[10]⟩
theorem bL(z:Str):(bF z).length<=z.length+1/\∀t∈bF z,t.length<=z.length/\∀x∈t.cps.toList,x∈z.cps.toList:=by
 unfold bF;split
 ·exact⟨by simp,fun t h=>nomatch h⟩
 ·exact cU 10 z
def m6(z:Str):JO:=.str z
theorem k6{M:MH}:∀l:List Str,Pds M (l.map D.str) (l.map m6)
 |[]=>.nil
 |z::l=>.cons (.str z) (k6 l)
theorem tx{z:Str}(h:z.cps.all (· < 128)=true):J6 z=true:=by unfold J6;rw[IZ]at h ⊢;intro c hc;have:=of_decide_eq_true (h c hc);exact decide_eq_true (by omega)
theorem va:∀{l:List Str},(∀z∈l,J6 z=true)->HH (l.map m6)=true
 |[],_=>rfl
 |z::l,h=>by
  rw[Ho,HH,va (fun x hx=>h x (GZ _ hx)),Bool.and_true]
  show Iw (.str z)=true
  rw[Iw]
  exact h z Hx
theorem uB:∀l:List Str,HR (l.map m6)<=10
 |[]=>nbL rfl
 |z::l=>by
  rw[Ho,HR]
  exact Nat.max_le.mpr ⟨nbL rfl,uB l⟩
theorem iM{l:List Str}(h:∀z∈l,J6 z=true):Ia (.list (l.map m6))=true:=by have a:=va h;have b:=uB l;simp[Ia,Iw,PyData.depth,a];omega
theorem Av(l:List Str):Hz (.list (l.map m6)) (.list [])=decide (l=[]):=by
 cases l with
 |nil=>rfl
 |cons z l=>rfl
theorem ne_nil{l:List Str}{a c:Addr}{M:MH}{Q:DK}(ha:M a=some (.lst (l.map D.str)))(hc:M c=some (.lst []))(h:∀z∈l,J6 z=true)(q:Q (.bl (!decide (l=[]))) M):tQ (.ref a) (.ref c) M Q:=by refine⟨_,_,.lst ha (k6 l),.lst hc .nil,iM h,rfl,?_⟩;rw[Av];exact q
theorem tN{x:Str}{c:Nat}{r:List Nat}(h:x.cps.toList=c::r):IT x none (some 1)=⟨#[c]⟩:=by
 have hl:x.length=r.length+1:=by rw[ba,h];rfl
 have e:strSliceIndices none (some 1) 1 x.length=strSliceIndices (some ((0:Nat):Int)) (some ((1:Nat):Int)) 1 x.length:=by
  unfold strSliceIndices
  have h1:¬((x.length:Int)<0):=by omega
  have h2:max (0:Int) (min 0 (x.length:Int))=0:=by omega
  simp[h1,h2]
 have p:=StrLaws.sliced_plain x (a:=0) (b:=1) (by omega) (by omega);rw[<-e]at p;have l:(strSliceIndices none (some 1) 1 x.length).length=1:=by rw[e,StrLaws.strSliceIndices_plain (by omega) (by omega)];simp
 unfold IT;by_cases h1:x.length=1
 ·rw[if_pos (by rw[l,h1];rfl)];apply bA;rw[h];have:r=[]:=by cases r with|nil=>rfl|cons _ _=>simp at hl;omega
  rw[this]
 ·rw[if_neg (by rw[l];simp;omega),p];apply bA;rw[h];simp
theorem nV{x:Str}{lo hi:Option Int}:∀c∈(IT x lo hi).cps.toList,c∈x.cps.toList:=fun c hc=>by
 unfold IT at hc;split at hc
 ·exact hc
 ·have hc:c∈(strSliceIndices lo hi 1 x.length).filterMap (x.cps[·]?):=by simpa using hc
  obtain⟨i,_,e⟩:=J3.mp hc;have:=Array.mem_of_getElem? e;simpa using this
theorem zZ{a:Int}(h:a.natAbs<10^30):PySem.intText? (iT a)=some a:=by
 have hl:=fV (k:=29) h;obtain⟨n,⟨e1,e2⟩|⟨e1,n0,e2⟩⟩:=cZ a
 ·rw[rS e2 (by omega),e1]
 ·have:=PySem.intText_neg e2 (fun c hc=>dY hc) (jI n) (by omega);rw[this,e1,show PySem.NumText.digitsVal (dgs n)=n from PySem.W.KIN.val_back n]
theorem dF{q:Rat}(h:(q.den:Int)=1):HN (sQ q) ⟨#[47]⟩=[iT q.num]:=by rw[eA h];exact fT 47 [iT q.num] (by simp) (fun t ht=>by rw[Hu.mp ht];exact qM _)
theorem ee{q:Rat}(h:¬(q.den:Int)=1):HN (sQ q) ⟨#[47]⟩=[iT q.num,iT (q.den:Int)]:=by
 rw[jx h];refine(show HN (HP ⟨#[47]⟩ [iT q.num,iT (q.den:Int)]) ⟨#[47]⟩=_ from fT 47 _ (by simp) (fun t ht=>?_));rcases Hr.mp ht with rfl|ht
 ·exact qM _
 ·rw[Hu.mp ht];exact qM _
structure Top(t tp:Str):Prop where
 neg:t.cps.toList[0]?=some 45->t.cps.toList=45::tp.cps.toList
 pos:t.cps.toList[0]?≠some 45->tp=t
theorem Top.Er{a:Int}{tp:Str}(h:Top (iT a) tp)(ha:a.natAbs<10^30):Wh tp a.natAbs:=by
 obtain⟨n,⟨e1,e2⟩|⟨e1,n0,e2⟩⟩:=cZ a
 ·have:tp=iT a:=h.pos (by rw[e2];intro z;have:=dY (Hh z);omega);rw[this];exact⟨by rw[e2,show a.natAbs=n by omega],ha⟩
 ·have:=h.neg (by rw[e2];rfl);rw[e2]at this;exact⟨by rw[<-(List.cons.inj this).2,show a.natAbs=n by omega],ha⟩
theorem Top.iT{t tp:Str}{n:Nat}(h:Top t tp)(hn:Wh tp n)(h0:t≠G1 "-0"):∃a:Int,t=iT a/\a.natAbs=n:=by
 by_cases e:t.cps.toList[0]?=some 45
 ·have e1:=h.neg e;rw[hn.1]at e1;have n0:n≠0:=fun z=>by subst z;refine h0 (bA ?_);rw[e1,c6 (by decide)];decide +kernel
  obtain⟨j,rfl⟩:∃j,n=j+1:=⟨n-1,by omega⟩;exact⟨-((j+1:Nat):Int),bA (by rw[e1,sA]),by omega⟩
 ·have e1:=h.pos e;subst e1;exact⟨(n:Int),bA (by rw[hn.1,du]),by omega⟩
theorem Di(a:Int):iT a≠G1 "-0":=fun e=>by
 have e':=congrArg (fun x:Str=>x.cps.toList) e;have z:(G1 "-0").cps.toList=[45,48]:=by decide +kernel
 simp only[z]at e';obtain⟨n,⟨e1,e2⟩|⟨e1,n0,e2⟩⟩:=cZ a
 ·rw[e2]at e';have:=dY (show 45∈dgs n by rw[e'];simp);omega
 ·rw[e2]at e';have:=rn n [] (List.cons.inj e').2;omega
theorem dm{m:Nat}:Wh (G1 "1") m↔m=1:=by have a:Wh (G1 "1") 1:=⟨by rw[c6 (by decide)];decide +kernel,by decide⟩;exact⟨fun h=>h.one a,fun h=>by rw[h];exact a⟩
theorem lj{a:Int}{n m:Nat}(ha:a.natAbs=n):((Rat.divInt (n:Int) (m:Int)).num=n/\((Rat.divInt (n:Int) (m:Int)).den:Int)=m)↔((Rat.divInt a (m:Int)).num=a/\((Rat.divInt a (m:Int)).den:Int)=m):=by
 rcases(show a=n\/a=-(n:Int) by omega)with e|e
 ·rw[e]
 ·rw[e,<-Rat.neg_divInt,Rat.neg_num,Rat.neg_den];omega
theorem FU(n:Int):Rat.divInt n 1=(n:Rat):=by rw[Rat.divInt_eq_div];grind
theorem ug{z t b:Str}{tp:Str}{n m:Nat}{a:Int}(e:HN z ⟨#[47]⟩=[t,b])(ht:t=iT a)(ha:a.natAbs=n)(hn:n<10^30)(hb:Wh b m)(m0:m≠0)(m1:b≠G1 "1") :
 rdq z=if(Rat.divInt (n:Int) (m:Int)).num=n/\((Rat.divInt (n:Int) (m:Int)).den:Int)=m then some (Rat.divInt a m)else none:=by
 have hz:z=t++⟨#[47]⟩++b:=by rw[<-JB z ⟨#[47]⟩,e];rfl
 have m1':m≠1:=fun q=>m1 (bA (by rw[hb.1,q];exact(dm.mpr rfl).1.symm))
 split
 ·rename_i c
  have c':=(lj ha).mp c
  refine iN ⟨by rw[c'.1];omega,by have:=c'.2;have:=hb.2;omega⟩ ?_
  rw[jx (by rw[c'.2];omega),c'.1,c'.2,hz,ht,bA (x:=b) (y:=iT (m:Int)) (by rw[hb.1,du])]
 ·rename_i c
  refine jW fun q hq h=>c ((lj ha).mpr ?_)
  have d1:¬(q.den:Int)=1:=fun d=>by
   rw[h,dF d]at e
   cases e
  rw[h,ee d1]at e
  obtain⟨e1,e2⟩:=List.cons.inj e
  obtain⟨e2,_⟩:=List.cons.inj e2
  have q1:q.num=a:=qp hq.1 (by omega) (e1.trans ht)
  have q2:q.den=m:=dw hq.2 hb.2 (by rw[<-hb.1,<-e2,du])
  have:Rat.divInt a m=q:=by rw[<-q1,<-q2,Ic]
  rw[this]
  exact⟨q1,by omega⟩
theorem qV(d:D)(ds:List D):cutD (d::ds) (some 1) none=ds:=by unfold cutD;rw[show(some (1:Int))=some ((1:Nat):Int)from rfl,HT.pE,HT.zv,Hw,Nat.min_eq_left (by omega)];simp
open Classical in
noncomputable def rdo(z:Str):Option RW:=(rdr z).bind fun W=>if OwQ W then some W else none
theorem tu{z:Str}(h:rdr z=none):rdo z=none:=by unfold rdo;rw[h];rfl
theorem qg{z:Str}{W:RW}(h:rdr z=some W)(c:OwQ W):rdo z=some W:=by unfold rdo;rw[h,HD,if_pos c]
theorem qu{z:Str}{W:RW}(h:rdr z=some W)(c:¬OwQ W):rdo z=none:=by unfold rdo;rw[h,HD,if_neg c]
theorem k9{us:List RW}{z:Str}:rdw us z=(rdo z).bind fun W=>if us.length≠40/\fcQ W us=none then some W else none:=by
 cases h:rdr z with
 |none=>rw[pf h,tu h];rfl
 |some W=>
  by_cases c:OwQ W
  ·rw[qg h c,HD];split
   ·rename_i c';exact ud h ⟨c,c'⟩
   ·rename_i c';exact qf h fun q=>c' q.2
  ·rw[qu h c,qf h fun q=>c q.1];rfl
theorem zl{z:Str}{W:RW}(h:rdo z=some W):rdr z=some W/\OwQ W:=by
 cases e:rdr z with
 |none=>rw[tu e]at h;cases h
 |some V=>
  by_cases c:OwQ V
  ·rw[qg e c]at h;cases h;exact⟨rfl,c⟩
  ·rw[qu e c]at h;cases h
theorem DP{U V:RW}(h:eqQ U V=true):cA U V=false:=by unfold cA;rw[h];simp
theorem D9{U V:RW}(h:inQ U V.1 V.2.1=true):cA U V=false:=by unfold cA;rw[h];simp
theorem Cr{U V:RW}(h:inQ U V.2.2.1 V.2.2.2=true):cA U V=false:=by unfold cA;rw[h];simp
theorem Dk{U V:RW}(h:inQ V U.1 U.2.1=true):cA U V=false:=by unfold cA;rw[h];simp
theorem Ce{U V:RW}(h:inQ V U.2.2.1 U.2.2.2=true):cA U V=false:=by unfold cA;rw[h];simp
theorem AN{U V:RW}(e:eqQ U V=false)(h1:inQ U V.1 V.2.1=false)(h2:inQ U V.2.2.1 V.2.2.2=false)(h3:inQ V U.1 U.2.1=false)(h4:inQ V U.2.2.1 U.2.2.2=false) : cA U V=(decide (0<=Ma.sgn (crQ U V.1 V.2.1)*Ma.sgn (crQ U V.2.2.1 V.2.2.2))||decide (0<=Ma.sgn (crQ V U.1 U.2.1)*Ma.sgn (crQ V U.2.2.1 U.2.2.2))):=by unfold cA;rw[e,h1,h2,h3,h4];rfl
theorem Ct(A:RW)(x y:Rat):inQ A x y=(!qt A x y&&(!(decide (Ma.ah x y A.1 A.2.1)||decide (Ma.ah A.2.2.1 A.2.2.2 x y))&&decide (Ma.sgn (crQ A x y)=0))):=by unfold inQ;simp
theorem xN(U V:RW):Hz (.tuple [.tuple [gy U.1,gy U.2.1],.tuple [gy U.2.2.1,gy U.2.2.2]]) (.tuple [.tuple [gy V.1,gy V.2.1],.tuple [gy V.2.2.1,gy V.2.2.2]])=eqQ U V:=by unfold eqQ;rw[Hz,Hq,Hq,Hq];unfold gy;rw[Ma.ik,Ma.ik,Bool.and_true,<-Bool.decide_and];exact decide_eq_decide.mpr and_assoc
theorem Aj{U:RW}{x y:Rat}(M:MH)(Q:DK)(q:Q (.bl (!qt U x y)) M):w8 (fun b=>!b) (Ma.spt x y) (wq U) M Q:=by refine⟨_,_,Pd.of rfl,.inr (Pd.of rfl),rfl,rfl,?_⟩;rw[J7,J7,List.any_nil,Ma.ik,Ma.ik,Bool.or_false];exact q
def AO(rs:List Str)(us:List RW):D:=if us.length=rs.length then .tup [.str "told",.tup (us.map wq)]else .tup [.str "no text",.int (us.length:Int)]
def wqP(U:RW):JO:=.tuple [.tuple [gy U.1,gy U.2.1],.tuple [gy U.2.2.1,gy U.2.2.2]]
theorem jK{M:MH}:∀l:List RW,Pds M (l.map wq) (l.map wqP)
 |[]=>.nil
 |U::l=>.cons (Pd.of rfl) (jK l)
theorem qj:∀l:List RW,HH (l.map wqP)=true
 |[]=>rfl
 |U::l=>by rw[Ho,HH,qj l];rfl
theorem pT:∀l:List RW,HR (l.map wqP)<=10
 |[]=>nbL rfl
 |U::l=>by
  rw[Ho,HR]
  exact Nat.max_le.mpr ⟨nbL rfl,pT l⟩
theorem jZ:∀l:List RW,Hq (l.map wqP) (l.map wqP)=true
 |[]=>by simp[Hq]
 |U::l=>by
  rw[Ho,Hq,jZ l,show Hz (wqP U) (wqP U)=eqQ U U from xN U U]
  unfold eqQ
  rw[decide_eq_true ⟨rfl,rfl,rfl,rfl⟩];rfl
theorem uu:J6 (G1 "told")=true:=by decide +kernel
theorem ia:J6 (G1 "no text")=true:=by decide +kernel
theorem Ad(rs:List Str)(us:List RW)(M:MH)(Q:DK)(q:Q (.bl false) M):AU (AO rs us) (AO rs us) M Q:=by
 unfold AO;split
 ·have sh:Ia (.tuple [.str "told",.tuple (us.map wqP)])=true:=by
   have h2:=pT us
   unfold Ia
   rw[Hl]
   refine⟨by rw[Iw,HH,HH,Iw,Iw,uu,qj];rfl,decide_eq_true ?_⟩
   rw[PyData.depth,HR,HR,HR,PyData.depth,PyData.depth]
   omega
  refine⟨_,_,.tup (.cons (.str _) (.cons (.tup (jK us)) .nil)),.tup (.cons (.str _) (.cons (.tup (jK us)) .nil)),sh,sh,?_⟩;rw[Hz,Hq,Hq,Hq,kW,Hz,jZ];exact q
 ·refine⟨_,_,Pd.of rfl,Pd.of rfl,?_,?_,?_⟩
  ·simp[Ia,Iw,HH,ia,PyData.depth,HR]
  ·simp[Ia,Iw,HH,ia,PyData.depth,HR]
  ·rw[Hz,Hq,Hq,Hq,kW];simpa[Hz]using q
theorem vK{rs:List Str}(h0:rs≠[])(h:∀r∈rs,10∉r.cps.toList)(h1:rs≠[IL]):bF (HP ⟨#[10]⟩ rs)=rs:=by
 unfold bF;rw[if_neg ?_,fT 10 rs h0 h];intro e;cases rs with
 |nil=>exact h0 rfl
 |cons r rs=>
  cases rs with
  |nil=>exact h1 (by rw[show r=IL from e])
  |cons r2 rs=>
   have z:=join_cons 10 r r2 rs
   rw[e]at z
   exact absurd (congrArg List.length z) (by simp[IL])
theorem oE:bF (HP ⟨#[10]⟩ [IL])=[]:=by unfold bF;exact if_pos rfl
abbrev Asc(z:Str):Prop:=z.cps.all (· < 128)=true
theorem f9{z:Str}:Asc z↔∀c∈z.cps.toList,c<128:=by show z.cps.all (· < 128)=true↔_;rw[IZ];refine⟨fun h c hc=>of_decide_eq_true (h c (by simpa using hc)),fun h c hc=>decide_eq_true (h c (by simpa using hc))⟩
theorem jf{x y:Str}(hx:Asc x)(hy:Asc y):Asc (x++y):=by rw[f9]at *;intro c hc;rw[bU,Hv]at hc;exact hc.elim (hx c) (hy c)
theorem iC{x:Str}{lo hi:Option Int}(h:Asc x):Asc (IT x lo hi):=b5 h nV
theorem eL{s:Nat}{ts:List Str}(hs:s<128)(h:∀t∈ts,Asc t):Asc (HP ⟨#[s]⟩ ts):=by
 rw[f9];intro c hc;rcases gW s c ts hc with rfl|⟨t,ht,hc⟩
 ·exact hs
 ·exact f9.mp (h t ht) c hc
theorem nN{s:Nat}{z:Str}(h:Asc z):∀t∈HN z ⟨#[s]⟩,Asc t:=fun t ht=>b5 h ((cU s z).2 t ht).2
def wt:List Str->Nat
 |[]=>0
 |t::ts=>t.length+1+wt ts
theorem bV:∀a b:List Str,wt (a++b)=wt a+wt b
 |[],b=>by simp[wt]
 |t::a,b=>by show t.length+1+wt (a++b)=_;rw[bV a b];show _=t.length+1+wt a+wt b;omega
theorem pd{t:Str}:∀{ts:List Str},t∈ts->t.length+1<=wt ts
 |u::ts,h=>by
  rcases Hr.mp h with rfl|h
  ·show _<=t.length+1+wt ts;omega
  ·have:=pd h;show _<=u.length+1+wt ts;omega
theorem kT(n:Nat)(ts:List Str):wt (ts.take n)+wt (ts.drop n)=wt ts:=by rw[<-bV,List.take_append_drop]
theorem iY:∀ts:List Str,ts.length<=wt ts
 |[]=>Jb _
 |t::ts=>by have:=iY ts;show ts.length+1<=t.length+1+wt ts;omega
theorem xt:∀ts:List Str,(ts.map (·.length)).sum+ts.length=wt ts
 |[]=>rfl
 |t::ts=>by
  have:=xt ts
  show(t.length::ts.map (·.length)).sum+(ts.length+1)=t.length+1+wt ts
  rw[List.sum_cons]
  omega
theorem zb(s:Str):∀(ts:List Str) (j:Nat),wt (ts.set j s)<=wt ts+s.length+1
 |[],j=>by simp[wt]
 |t::ts,0=>by show s.length+1+wt ts<=t.length+1+wt ts+s.length+1;omega
 |t::ts,j+1=>by have:=zb s ts j;show t.length+1+wt (ts.set j s)<=t.length+1+wt ts+s.length+1;omega
theorem fP(c:Nat):∀ts:List Str,ts≠[]->(HP ⟨#[c]⟩ ts).length+1=wt ts
 |[],h=>absurd rfl h
 |[t],_=>rfl
 |t::u::ts,_=>by
  have:=fP c (u::ts) (by simp)
  rw[ba,join_cons,ID,Hw,<-ba,<-ba]
  show _=t.length+1+wt (u::ts)
  omega
theorem join_le(c:Nat)(ts:List Str):(HP ⟨#[c]⟩ ts).length<=wt ts:=by
 cases ts with
 |nil=>exact Jb _
 |cons t ts=>have:=fP c (t::ts) (by simp);omega
theorem qR(c:Nat)(z:Str):wt (HN z ⟨#[c]⟩)=z.length+1:=by rw[<-fP c _ (dh z c),JB]
theorem d4{c:Nat}{ts:List Str}(h:wt ts<=1000000):JoinOk ⟨#[c]⟩ ts=true:=by unfold JoinOk;rw[joinFits_of_weight (sep:=⟨#[c]⟩) (by rw[xt];omega) (show 1<=16 by decide)];rfl
def bS(xs:List Str)(lo hi:Option Int):List Str:=(xs.drop (HT.sIx xs.length 0 lo)).take (HT.sIx xs.length xs.length hi-HT.sIx xs.length 0 lo)
theorem cut_str(xs:List Str)(lo hi:Option Int):cutD (xs.map D.str) lo hi=(bS xs lo hi).map D.str:=by unfold cutD bS;rw[G4,List.map_take,List.map_drop]
theorem cM{xs:List Str}{lo hi:Option Int}{x:Str}(h:x∈bS xs lo hi):x∈xs:=List.mem_of_mem_drop (List.mem_of_mem_take h)
theorem bG(xs:List Str)(lo hi:Option Int):wt (bS xs lo hi)<=wt xs:=by unfold bS;have h1:=kT (HT.sIx xs.length 0 lo) xs;have h2:=kT (HT.sIx xs.length xs.length hi-HT.sIx xs.length 0 lo) (xs.drop (HT.sIx xs.length 0 lo));omega
theorem Ab{i j:Nat}(h:i<=j)(xs:List Str):wt (xs.drop j)<=wt (xs.drop i):=by have:=kT (j-i) (xs.drop i);rw[List.drop_drop,show i+(j-i)=j by omega]at this;omega
theorem fH{i j:Int}(h0:0<=i)(h:i<=j)(xs:List Str):wt (bS xs none (some i))+wt (bS xs (some j) none)<=wt xs:=by obtain⟨a,rfl⟩:=Jk h0;obtain⟨b,rfl⟩:=Jk (Int.le_trans h0 h);unfold bS;rw[show HT.sIx xs.length xs.length (some ((a:Nat):Int))=min a xs.length from HT.pE _ _ _,show HT.sIx xs.length 0 (some ((b:Nat):Int))=min b xs.length from HT.pE _ _ _];show wt ((xs.drop 0).take (min a xs.length-0))+wt ((xs.drop (min b xs.length)).take (xs.length-min b xs.length))<=wt xs;rw[List.drop_zero,Nat.sub_zero,List.take_of_length_le (l:=xs.drop (min b xs.length)) (by rw[List.length_drop];exact GY _)];have h1:=kT (min a xs.length) xs;have h2:=Ab (i:=min a xs.length) (j:=min b xs.length) (by omega) xs;omega
theorem pj{xs:List Str}{v:Int}(h0:0<=v)(h1:v<(xs.length:Int)):∃s∈xs,atI (xs.map D.str) v=some (.str s):=by
 obtain⟨n,rfl⟩:=Jk h0;have hn:n<xs.length:=by omega
 exact⟨xs[n],List.getElem_mem hn,eQ (by rw[G9,HG hn];rfl)⟩
theorem tV{xs:List Str}{v:Int}(h0:0<=v)(h1:v<(xs.length:Int)):ixN (xs.map D.str).length v=some v.toNat:=by unfold ixN;rw[if_pos h0,if_pos (by rw[G4];exact h1)]
theorem set_str(xs:List Str)(j:Nat)(s:Str):(xs.map D.str).set j (.str s)=(xs.set j s).map D.str:=by rw[List.map_set]
theorem mem_set{xs:List Str}{j:Nat}{s t:Str}(h:t∈xs.set j s):t∈xs\/t=s:=List.mem_or_eq_of_mem_set h
def lnB(n:Nat)(s:Str):Bool:=s.cps.all (· < 128)&&decide (s.length<=n)
theorem mU{n:Nat}{s:Str}(h:lnB n s=true):Asc s/\s.length<=n:=by unfold lnB at h;rw[Hl]at h;exact⟨h.1,of_decide_eq_true h.2⟩
theorem qh{n:Nat}{l:List Str}(h:l.all (lnB n)=true):∀s∈l,Asc s/\s.length<=n:=fun s hs=>mU (IS.mp h s hs)
theorem slS{M:MH}{w:Addr}{ws:List Str}{lo hi:Option Int}{Q:DK}(hw:M w=some (.lst (ws.map D.str)))(k:∀(p:Addr) (M':MH),SD.Sub M M'->M p=none->M' p=some (.lst ((bS ws lo hi).map D.str))->Q (.ref p) M'):Ax (.ref w) lo hi M Q:=⟨_,hw,fun p hp=>by rw[cut_str];exact k p _ (.new hp .refl) hp ag⟩
theorem slN{M:MH}{δ:DS}{w:Addr}{ws:List Str}{lo:Option Int}{Q:DK}(hw:M w=some (.lst (ws.map D.str)))(k:∀(p:Addr) (M':MH),SD.Sub M M'->M p=none->M' p=some (.lst ((bS ws lo none).map D.str))->Q (.ref p) M'):rH δ M (fun u M3=>Ax (.ref w) lo u M3 Q):=slS (hi:=none) hw k
theorem iE{M:MH}{a b:Addr}{xs ys:List Str}{Q:DK}(ha:M a=some (.lst (xs.map D.str)))(hb:M b=some (.lst (ys.map D.str)))(hl:wt xs+wt ys<=1000000)(k:∀(p:Addr) (M':MH),SD.Sub M M'->M p=none->M' p=some (.lst ((xs++ys).map D.str))->Q (.ref p) M'):xE (.ref a) (.ref b) M Q:=by have h1:=iY xs;have h2:=iY ys;have sz:1000000<=GX:=nbL rfl;exact⟨_,_,ha,hb,by rw[G4,G4];omega,fun p hp=>k p _ (.new hp .refl) hp (by rw[ag,Ik])⟩
theorem fW{M:MH}{l r:Addr}{ls:List Str}{x:Int}{ds:List D}(hl:M l=some (.lst (ls.map D.str)))(hr:M r=some (.lst (.int x::ds))):l≠r:=fun e=>by
 rw[e,hr]at hl;have:=MO.lst.inj (Option.some.inj hl);cases ls with
 |nil=>cases this
 |cons t ls=>cases this
def bnd(way k:Int)(n:Nat):Nat:=if way<k then 3*(n+1)else n
theorem jk(way k:Int)(n:Nat):bnd way k n<=bnd way (k+1) n:=by
 unfold bnd;split
 ·rw[if_pos (by omega)];exact GY _
 ·split<;>omega
def bnl(way k:Int)(n:Nat):Nat:=if way<k then 4*n+60 else 2*n
theorem jF(way k:Int)(n:Nat):bnl way k n<=bnl way (k+1) n:=by
 unfold bnl;split
 ·rw[if_pos (by omega)];exact GY _
 ·split<;>omega
theorem Ck(way k:Int)(n:Nat):bnl way k n<=4*n+60:=by unfold bnl;split<;>omega
theorem zN{way:Int}{n B:Nat}(h:n+1<=B):B+(bnd way 5 n+1)<=bnl way 5 B:=by unfold bnd bnl;split<;>omega
theorem stp{c m:Int}(h:0<=c/\c<m):0<=c+1/\c+1<m+1:=⟨by omega,by omega⟩
theorem lpS{rs:List Str}(h:rs≠[]):(0:Int)<((rs.map D.str).length:Int):=by rw[G4];have:=List.length_pos_iff.mpr h;omega
theorem lb{rs:List Str}(h:wt rs<=150000):Bd 8000 ((rs.map D.str).length:Int):=by have:=iY rs;rw[G4];exact cD (by omega)
theorem c5b(c:Int):c+1+1+1+1+1<=c+5:=by omega
theorem zpS(z:Str):(0:Int)<(z.length:Int)+1:=by omega
theorem zbS{z:Str}(h:z.length+1<=150000):Bd 8000 ((z.length:Int)+1):=cD (by omega)
theorem GN{z:Str}(h:z.length<=100):(0:Int)<9+(z.length:Int)/\Bd 8000 (9+(z.length:Int)):=⟨by omega,cD (by omega)⟩
theorem wt1{ss:List Str}{n:Nat}(h:∀t∈ss,Asc t/\t.length<=1)(hl:ss.length<=n):wt ss<=2*n:=by
 have:∀{l:List Str},(∀t∈l,t.length<=1)->wt l<=2*l.length:=fun{l}=>by
  induction l with
  |nil=>intro _;exact Jb _
  |cons t l ih=>
   intro h
   have h1:=h t Hx
   have h2:=ih fun x hx=>h x (GZ _ hx)
   show t.length+1+wt l<=2*(l.length+1)
   omega
 have:=this fun t ht=>(h t ht).2;omega
def sgs(z:Str):List Str:=z.cps.toList.map fun c=>(⟨#[c]⟩:Str)
theorem EL(z:Str):z.cps.toList.map (fun c=>D.str ⟨#[c]⟩)=(sgs z).map D.str:=by unfold sgs;rw[Jr];rfl
theorem xo{z:Str}(h:Asc z):∀t∈sgs z,Asc t/\t.length<=1:=fun t ht=>by obtain⟨c,hc,rfl⟩:=IB.mp ht;refine⟨f9.mpr fun d hd=>?_,GY 1⟩;rw[show d=c by simpa using hd];exact f9.mp h c hc
theorem vg(z:Str):(sgs z).length=z.length:=by unfold sgs;rw[G4,ba]
theorem GD{z sg:Str}{n:Nat}{sp:Int}(hz:z.length=n)(h1:sg.length<=1)(hn:n+1<=150000):z.length<=GX/\(IT z none (some sp)).length+sg.length<=GX/\(IT z none (some sp)++sg).length+(IT z (some sp) none).length<=GX/\(IT z none (some sp)++sg++IT z (some sp) none).length<=3*(n+1):=by have s1:=JK z none (some sp);have s2:=JK z (some sp) none;have sz:1000000<=GX:=nbL rfl;refine⟨by omega,by omega,by rw[len_app];omega,by rw[len_app,len_app];omega⟩
theorem F9{z:Str}{n:Nat}{sp:Int}(hz:z.length<=n)(hn:n+1<=150000):z.length<=GX/\(IT z none (some sp)).length+(IT z (some (sp+1)) none).length<=GX/\(IT z none (some sp)++IT z (some (sp+1)) none).length<=3*(n+1):=by have s1:=JK z none (some sp);have s2:=JK z (some (sp+1)) none;have sz:1000000<=GX:=nbL rfl;refine⟨by omega,by omega,by rw[len_app];omega⟩
theorem cw2{ws:List Str}{a b c d:Option Int}(h:wt ws<=300000):wt (bS ws a b)+wt (bS ws c d)<=1000000:=by have:=bG ws a b;have:=bG ws c d;omega
theorem cj2{ws:List Str}{a b c d:Option Int}(h:wt ws<=300000):JoinOk (G1 " ") (bS ws a b++bS ws c d)=true:=by rw[dG];exact d4 (by rw[bV];exact cw2 h)
theorem cl2{ws:List Str}{a b c d:Option Int}{n:Nat}(h:wt ws=n+1):(HP (G1 " ") (bS ws a b++bS ws c d)).length<=3*(n+1):=by
 have:=join_le 32 (bS ws a b++bS ws c d);have:=bG ws a b;have:=bG ws c d
 rw[dG];rw[bV]at *;omega
theorem ca2{ws:List Str}{a b c d:Option Int}(h:∀t∈ws,Asc t):Asc (HP (G1 " ") (bS ws a b++bS ws c d)):=by rw[dG];refine eL (by decide) fun t ht=>?_;rcases Hv.mp ht with q|q<;>exact h t (cM q)
theorem cw3{ws:List Str}{a b c d e f:Option Int}(h:wt ws<=300000):wt (bS ws a b++bS ws c d)+wt (bS ws e f)<=1000000:=by have:=bG ws a b;have:=bG ws c d;have:=bG ws e f;rw[bV];omega
theorem cj3{ws:List Str}{a b c d e f:Option Int}(h:wt ws<=300000):JoinOk (G1 " ") (bS ws a b++bS ws c d++bS ws e f)=true:=by rw[dG];exact d4 (by rw[bV];exact cw3 h)
theorem cl3{ws:List Str}{a b c d e f:Option Int}{n:Nat}(h:wt ws=n+1):(HP (G1 " ") (bS ws a b++bS ws c d++bS ws e f)).length<=3*(n+1):=by
 have:=join_le 32 (bS ws a b++bS ws c d++bS ws e f);have:=bG ws a b;have:=bG ws c d;have:=bG ws e f
 rw[dG];rw[bV,bV]at *;omega
theorem ca3{ws:List Str}{a b c d e f:Option Int}(h:∀t∈ws,Asc t):∀t∈bS ws a b++bS ws c d++bS ws e f,Asc t:=fun t ht=>by
 rcases Hv.mp ht with q|q
 ·rcases Hv.mp q with q|q<;>exact h t (cM q)
 ·exact h t (cM q)
theorem yo{way k k':Int}{n:Nat}(h:way=k)(hk:k<k'):bnd way k n=n/\bnd way k' n=3*(n+1):=by unfold bnd;rw[if_neg (by omega),if_pos (by omega)];exact⟨rfl,rfl⟩
theorem GV{way:Int}{n:Nat}(h:¬way=0)(h0:0<=way):n<=bnd way 1 n:=by unfold bnd;rw[if_neg (by omega)];exact GY _
theorem in1{rs:List Str}{line:Str}{a:Int}{way:Int}{n:Nat}(ha:0<=a)(hn:n+1<=wt rs)(hl:line.length<=bnd way 5 n):wt (bS rs none (some a)++[line]++bS rs (some (a+1)) none)<=bnl way 5 (wt rs):=by have:=fH ha (show a<=a+1 by omega) rs;have:=zN (way:=way) hn;rw[bV,bV];show wt _+(line.length+1+0)+_<=_;omega
theorem F8{rs:List Str}{line:Str}{a b c d:Option Int}(h:∀t∈rs,Asc t)(hl:Asc line):∀t∈bS rs a b++[line]++bS rs c d,Asc t:=fun t ht=>by
 rcases Hv.mp ht with q|q
 ·rcases Hv.mp q with q|q
  ·exact h t (cM q)
  ·rw[Hu.mp q];exact hl
 ·exact h t (cM q)
theorem w1a{rs:List Str}{line:Str}{a b:Option Int}(h:wt rs<=300000)(hl:line.length<=450010):wt (bS rs a b)+wt [line]<=1000000:=by have:=bG rs a b;show _+(line.length+1+0)<=_;omega
theorem w1b{rs:List Str}{line:Str}{a b c d:Option Int}(h:wt rs<=150000)(hl:line.length<=450010):wt (bS rs a b++[line])+wt (bS rs c d)<=1000000:=by
 have:=bG rs a b;have:=bG rs c d
 rw[bV];show _+(line.length+1+0)+_<=_;omega
theorem Dd{way k:Int}{n B:Nat}(h:n+1<=B)(hB:B<=150000):bnd way k n<=450010:=by unfold bnd;split<;>omega
theorem dbl{ls:List Str}{a:Int}{B:Nat}(ha:0<=a)(h:wt ls<=2*B):wt (bS ls none (some a)++bS ls (some a) (some (a+1))++bS ls (some a) none)<=4*B+60:=by have:=fH ha (Int.le_refl a) ls;have:=bG ls (some a) (some (a+1));rw[bV,bV];omega
theorem Gb{ls:List Str}{a:Int}{B:Nat}(ha:0<=a)(h:wt ls<=2*B):wt (bS ls none (some a)++bS ls (some (a+1)) none)<=4*B+60:=by have:=fH ha (show a<=a+1 by omega) ls;rw[bV];omega
theorem zQ{way k k':Int}{n:Nat}(h:way=k)(hk:k<k'):bnl way k n=2*n/\bnl way k' n=4*n+60:=by unfold bnl;rw[if_neg (by omega),if_pos (by omega)];exact⟨rfl,rfl⟩
theorem yL(a b:Str):Hz (m6 a) (m6 b)=decide (a=b):=by
 unfold m6;rw[Hz];by_cases h:a=b
 ·subst h;simp
 ·rw[decide_eq_false h];simpa using h
theorem md:∀l r:List Str,Hq (l.map m6) (r.map m6)=decide (l=r)
 |[],[]=>by simp[Hq]
 |[],_::_=>by simp[Hq]
 |_::_,[]=>by simp[Hq]
 |a::l,b::r=>by
  rw[Ho,Ho,Hq,md l r,yL]
  by_cases h:a=b
  ·by_cases h2:l=r
   ·subst h;subst h2;simp
   ·rw[decide_eq_false h2,Bool.and_false,decide_eq_false (fun e=>h2 (List.cons.inj e).2)]
  ·rw[decide_eq_false h,Bool.false_and,decide_eq_false (fun e=>h (List.cons.inj e).1)]
theorem uG{l r:List Str}{a c:Addr}{M:MH}{Q:DK}(ha:M a=some (.lst (l.map D.str)))(hc:M c=some (.lst (r.map D.str)))(h:∀z∈l,Asc z)(h':∀z∈r,Asc z)(q:Q (.bl (decide (l=r))) M):Ac (.ref a) (.ref c) M Q:=by refine⟨_,_,.lst ha (k6 l),.lst hc (k6 r),iM (fun z hz=>tx (h z hz)),iM (fun z hz=>tx (h' z hz)),?_⟩;rw[Hz,md];exact q
theorem ut1(a:Int):Ma.ut 1 1 0 1 a=(a:Rat):=by unfold Ma.ut;rw[show a*1+0*1=a by omega,show(1:Int)*1=1 by rfl,Rat.divInt_eq_div];grind
theorem Gz(a:Int):rwl 1 1 0 0 (a,0,a,1)=.tup [.tup [.tup [.int a,.int 1],.tup [.int 0,.int 1]],.tup [.tup [.int a,.int 1],.tup [.int 1,.int 1]]]:=by unfold rwl;rw[ut1,ut1,ut1];rfl
theorem yg{q:Rat}(h:Ma.Bq 60 q):(sQ q).length<=41:=by
 have f:∀a:Int,Bd 60 a->(iT a).length<=20:=fun a ha=>fV (k:=18) (G8 ha (by decide));have h1:=f _ h.1;have h2:=f _ h.2;show(sF q.num (q.den:Int)).length<=41;unfold sF;split
 ·omega
 ·rw[len_app,len_app];have:(Str.mk #[47]).length=1:=rfl;omega
theorem tG{t b X Y:Int}{w:Wl}(h:∀q∈wQ t b X Y w,Ma.Bq 60 q):(jA t b X Y w).length<=172:=by have e:=fP 32 (G1 "wall"::(wQ t b X Y w).map sQ) (by simp);have f:=fun q hq=>yg (h q hq);have h1:=f _ (show Ma.ut t b X 1 w.1∈wQ t b X Y w by simp[wQ]);have h2:=f _ (show Ma.ut t b Y 1 w.2.1∈wQ t b X Y w by simp[wQ]);have h3:=f _ (show Ma.ut t b X 1 w.2.2.1∈wQ t b X Y w by simp[wQ]);have h4:=f _ (show Ma.ut t b Y 1 w.2.2.2∈wQ t b X Y w by simp[wQ]);have h0:(G1 "wall").length=4:=rfl;have e:(jA t b X Y w).length+1=(G1 "wall").length+1+((sQ (Ma.ut t b X 1 w.1)).length+1+((sQ (Ma.ut t b Y 1 w.2.1)).length+1+((sQ (Ma.ut t b X 1 w.2.2.1)).length+1+((sQ (Ma.ut t b Y 1 w.2.2.2)).length+1+0)))):=e;omega
theorem zj(q:Rat):Asc (sQ q):=f9.mpr fun c hc=>by have:=iu (a:=q.num) (b:=(q.den:Int)) hc;omega
theorem qZ:Asc (G1 "wall"):=by decide +kernel
theorem xI(t b X Y:Int)(w:Wl):Asc (jA t b X Y w):=eL (by decide) fun u hu=>by
 rcases Hr.mp hu with rfl|hu
 ·exact qZ
 ·obtain⟨q,_,rfl⟩:=IB.mp hu;exact zj q
theorem rC{n:Nat}:∀{ts:List Str},(∀t∈ts,t.length<=n)->wt ts<=ts.length*(n+1)
 |[],_=>by simp[wt]
 |t::ts,h=>by
  have h1:=h t Hx
  have h2:=rC (ts:=ts) (fun x hx=>h x (GZ _ hx))
  show t.length+1+wt ts<=(ts.length+1)*(n+1)
  rw[Nat.succ_mul]
  omega
theorem mB{t b X Y:Int}{ws:List Wl}(h:∀w∈ws,∀q∈wQ t b X Y w,Ma.Bq 60 q):(∀r∈ws.map (jA t b X Y),Asc r/\10∉r.cps.toList)/\wt (ws.map (jA t b X Y))<=ws.length*173:=by
 constructor
 ·intro r hr;obtain⟨w,hw,rfl⟩:=IB.mp hr;exact⟨xI t b X Y w,(Ap t b X Y w).1⟩
 ·have:=rC (n:=172) (ts:=ws.map (jA t b X Y)) (fun r hr=>by
   obtain⟨w,hw,rfl⟩:=IB.mp hr
   exact tG (h w hw))
  rw[G4]at this;exact this
theorem Fl{a:Int}(h:0<=a/\a<=1000):∀q∈wQ 1 1 0 0 (a,0,a,1),Ma.Bq 60 q:=fun q hq=>by
 have f:∀z:Int,0<=z/\z<=1000->Ma.Bq 60 (Ma.ut 1 1 0 1 z):=fun z hz=>by rw[ut1];exact⟨by show((z:Rat).num).natAbs<2^60;rw[Rat.num_intCast];omega,by show(((z:Rat).den:Int)).natAbs<2^60;rw[Rat.den_intCast];decide⟩
 simp only[wQ,Hr,Jw,or_false]at hq;rcases hq with rfl|rfl|rfl|rfl
 ·exact f a h
 ·exact f 0 (by decide)
 ·exact f a h
 ·exact f 1 (by decide)
open Classical in
noncomputable def rda(z:Str):Option (Rat×Rat):=if h:∃s:Rat×Rat,∃ws,HN z ⟨#[32]⟩=G1 "ask"::ws/\ws.map rdq=[some s.1,some s.2]then some h.choose else none
theorem qq{z:Str}{s:Rat×Rat}(h:rda z=some s):∃ws,HN z ⟨#[32]⟩=G1 "ask"::ws/\ws.map rdq=[some s.1,some s.2]:=by
 unfold rda at h;split at h
 ·rename_i e;have:=e.choose_spec;rw[Option.some.inj h]at this;exact this
 ·cases h
theorem oq{z:Str}{w:Str}{ws:List Str}(e:HN z ⟨#[32]⟩=w::ws)(s:Rat×Rat):rda z=some s↔w=G1 "ask"/\ws.map rdq=[some s.1,some s.2]:=by
 constructor
 ·intro h;obtain⟨vs,e1,e2⟩:=qq h;rw[e]at e1;obtain⟨a,b⟩:=List.cons.inj e1;exact⟨a,by rw[b];exact e2⟩
 ·rintro⟨rfl,h⟩;have ex:∃s:Rat×Rat,∃ws,HN z ⟨#[32]⟩=G1 "ask"::ws/\ws.map rdq=[some s.1,some s.2]:=⟨s,ws,e,h⟩;unfold rda;rw[dif_pos ex];obtain⟨vs,e1,e2⟩:=ex.choose_spec;rw[e]at e1;rw[<-(List.cons.inj e1).2,h]at e2;obtain⟨a,b⟩:=List.cons.inj e2;exact congrArg some (Prod.ext (Option.some.inj a).symm (Option.some.inj (List.cons.inj b).1).symm)
theorem AA{z:Str}{s:Rat×Rat}(h:rda z=some s):N30 s.1/\N30 s.2:=by
 obtain⟨ws,_,e⟩:=qq h;have hl:ws.length=2:=by have:=congrArg List.length e;simpa using this
 match ws,hl with
 |[a,b],_=>
  obtain⟨h1,e⟩:=List.cons.inj e
  exact⟨(gX h1).1,(gX (List.cons.inj e).1).1⟩
theorem uR{z:Str}{U:RW}(h:rdr z=some U):rda z=none:=by
 cases e:rda z with
 |none=>rfl
 |some s=>
  obtain⟨ws,e1,_⟩:=qq e
  exact absurd ((ip e1 U).mp h).1 Cq
def RdS(wd z:Str)(l:List (Rat×Rat)):Prop:=∃ws,HN z ⟨#[32]⟩=wd::ws/\ws.map rdq=(flat l).map some
theorem xY{z:Str}{l:List (Rat×Rat)}(hl:l.length=2)(h:RdS (G1 "wall") z l):∃U:RW,rdr z=some U/\l.map spq=[Ma.spt U.1 U.2.1,Ma.spt U.2.2.1 U.2.2.2]:=by
 obtain⟨ws,e,h⟩:=h
 match l,hl with
 |[s,t],_=>exact⟨(s.1,s.2,t.1,t.2),(ip e _).mpr ⟨rfl,h⟩,rfl⟩
theorem tS{z:Str}(h:∀l,l.length=2->¬RdS (G1 "wall") z l):rdr z=none:=by
 cases e:rdr z with
 |none=>rfl
 |some U=>
  obtain⟨wd,ws,ew⟩:∃wd ws,HN z ⟨#[32]⟩=wd::ws:=by
   cases e:HN z ⟨#[32]⟩with
   |nil=>exact absurd e (dh z 32)
   |cons a b=>exact⟨a,b,rfl⟩
  obtain⟨h1,h2⟩:=(ip ew U).mp e
  exact absurd ⟨ws,by rw[ew,h1],h2⟩ (h [(U.1,U.2.1),(U.2.2.1,U.2.2.2)] rfl)
theorem vx{z:Str}{l:List (Rat×Rat)}(hl:l.length=1)(h:RdS (G1 "ask") z l):∃s:Rat×Rat,rda z=some s/\l=[s]:=by
 obtain⟨ws,e,h⟩:=h
 match l,hl with
 |[s],_=>exact⟨s,(oq e _).mpr ⟨rfl,h⟩,rfl⟩
theorem nG{z:Str}(h:∀l,l.length=1->¬RdS (G1 "ask") z l):rda z=none:=by
 cases e:rda z with
 |none=>rfl
 |some s=>
  obtain⟨ws,e1,e2⟩:=qq e
  exact absurd ⟨ws,e1,e2⟩ (h [s] rfl)
theorem nF:∀{l:List (Rat×Rat)},((flat l).map some).any (fun o=>o.isNone)=false
 |[]=>rfl
 |s::l=>by show(false||(false||((flat l).map some).any _))=false;rw[nF];rfl
theorem ur{ws:List (Option Rat)}{n:Nat}(hn:n=1\/n=2)(hl:ws.length=2*n)(h:ws.any (fun o=>o.isNone)=false):∃l:List (Rat×Rat),l.length=n/\ws=(flat l).map some:=by
 rcases hn with rfl|rfl
 ·match ws,hl with
  |[some a,some b],_=>exact⟨[(a,b)],rfl,rfl⟩
  |[none,_],_=>cases h
  |[some a,none],_=>cases h
 ·match ws,hl with
  |[some a,some b,some c,some d],_=>exact⟨[(a,b),(c,d)],rfl,rfl⟩
  |[none,_,_,_],_=>cases h
  |[some a,none,_,_],_=>cases h
  |[some a,some b,none,_],_=>cases h
  |[some a,some b,some c,none],_=>cases h
abbrev QS:=List RW×List (Rat×Rat)
def sqP(s:Rat×Rat):JO:=.tuple [gy s.1,gy s.2]
theorem k7{M:MH}:∀l:List (Rat×Rat),Pds M (l.map spq) (l.map sqP)
 |[]=>.nil
 |s::l=>.cons (Pd.of rfl) (k7 l)
theorem pY:∀l:List (Rat×Rat),HH (l.map sqP)=true
 |[]=>rfl
 |s::l=>by rw[Ho,HH,pY l];rfl
theorem pX:∀l:List (Rat×Rat),HR (l.map sqP)<=10
 |[]=>nbL rfl
 |s::l=>by
  rw[Ho,HR]
  exact Nat.max_le.mpr ⟨nbL rfl,pX l⟩
theorem lU:∀l:List (Rat×Rat),Hq (l.map sqP) (l.map sqP)=true
 |[]=>by simp[Hq]
 |s::l=>by
  rw[Ho,Hq,lU l]
  simp[sqP,gy,Hz,Hq]
def ya(us:List RW)(p:Addr):D:=.tup [.str "told",.tup [.tup (us.map wq),.ref p]]
theorem Bc{M:MH}{Q:DK}{us:List RW}{ps:List (Rat×Rat)}{p p':Addr}(h:M p=some (.lst (ps.map spq)))(h':M p'=some (.lst (ps.map spq)))(q:Q (.bl false) M):tQ (ya us p) (ya us p') M Q:=by
 have sh:Ia (.tuple [.str "told",.tuple [.tuple (us.map wqP),.list (ps.map sqP)]])=true:=by
  have h2:=pT us
  have h3:=pX ps
  unfold Ia
  rw[Hl]
  refine⟨by simp[Iw,HH,uu,qj,pY],decide_eq_true ?_⟩
  simp only[PyData.depth,HR]
  omega
 refine⟨.tuple [.str "told",.tuple [.tuple (us.map wqP),.list (ps.map sqP)]],.tuple [.str "told",.tuple [.tuple (us.map wqP),.list (ps.map sqP)]],.tup (.cons (.str _) (.cons (.tup (.cons (.tup (jK us)) (.cons (.lst h (k7 ps)) .nil))) .nil)),.tup (.cons (.str _) (.cons (.tup (.cons (.tup (jK us)) (.cons (.lst h' (k7 ps)) .nil))) .nil)),sh,sh,?_⟩;rw[show Hz (.tuple [.str "told",.tuple [.tuple (us.map wqP),.list (ps.map sqP)]]) (.tuple [.str "told",.tuple [.tuple (us.map wqP),.list (ps.map sqP)]])=true by simp[Hz,Hq,jZ,lU]];exact q
theorem C5{M:MH}{Q:DK}{a c:Addr}{ps:List (Rat×Rat)}(ha:M a=some (.lst (ps.map spq)))(hc:M c=some (.lst []))(q:Q (.bl (!decide (ps=[]))) M):tQ (.ref a) (.ref c) M Q:=by
 have sh:Ia (.list (ps.map sqP))=true:=by
  have h3:=pX ps
  unfold Ia
  rw[Hl]
  refine⟨by simp[Iw,pY],decide_eq_true ?_⟩
  simp only[PyData.depth]
  omega
 refine⟨_,_,.lst ha (k7 ps),.lst hc .nil,sh,rfl,?_⟩;rw[show Hz (.list (ps.map sqP)) (.list [])=decide (ps=[]) by cases ps<;>rfl];exact q
theorem Ew{M:MH}{Q:DK}(n:Int)(q:Q (.bl false) M):tQ (.tup [.str "no text",.int n]) (.tup [.str "no text",.int n]) M Q:=by
 refine⟨_,_,Pd.of rfl,Pd.of rfl,?_,?_,?_⟩
 ·simp[Ia,Iw,HH,ia,PyData.depth,HR]
 ·simp[Ia,Iw,HH,ia,PyData.depth,HR]
 ·rw[Hz,Hq,Hq,Hq,kW];simpa[Hz]using q
theorem oX{a b:Int}(ha:Bd 110 a)(hb:Bd 110 b):(sF a b).length<=71:=by
 have f:∀a:Int,Bd 110 a->(iT a).length<=35:=fun a ha=>fV (k:=33) (G8 ha (by decide));have h1:=f _ ha;have h2:=f _ hb;unfold sF;split
 ·omega
 ·rw[len_app,len_app];have:(Str.mk #[47]).length=1:=rfl;omega
theorem Bf{a b c d:Int}(ha:Bd 110 a)(hb:Bd 110 b)(hc:Bd 110 c)(hd:Bd 110 d):Asc (HP ⟨#[32]⟩ [G1 "ask",sF a b,sF c d])/\10∉(HP ⟨#[32]⟩ [G1 "ask",sF a b,sF c d]).cps.toList/\(HP ⟨#[32]⟩ [G1 "ask",sF a b,sF c d]).length<=147/\wt [G1 "ask",sF a b,sF c d]<=148:=by
 have h1:=oX ha hb;have h2:=oX hc hd;have h0:(G1 "ask").length=3:=rfl;have w:wt [G1 "ask",sF a b,sF c d]<=148:=by show(G1 "ask").length+1+((sF a b).length+1+((sF c d).length+1+0))<=148;omega
 have sg:∀x∈(HP ⟨#[32]⟩ [G1 "ask",sF a b,sF c d]).cps.toList,x<128/\x≠10:=fun x hx=>by
  rcases gW 32 x _ hx with rfl|⟨t,ht,hx⟩
  ·decide
  ·simp only[Hr,Jw,or_false]at ht;rcases ht with rfl|rfl|rfl
   ·rw[ER]at hx;simp at hx;omega
   ·have:=iu hx;omega
   ·have:=iu hx;omega
 refine⟨f9.mpr fun x hx=>(sg x hx).1,fun h=>(sg 10 h).2 rfl,?_,w⟩;have:=fP 32 [G1 "ask",sF a b,sF c d] (by simp);omega
noncomputable def rdf(f:Bool)(z:Str):Option (Rat×Rat):=if f=true then rda z else none
theorem Bz(z:Str):rdf false z=none:=rfl
theorem A1{f:Bool}{z:Str}{s:Rat×Rat}(h:rdf f z=some s):N30 s.1/\N30 s.2:=by
 cases f with
 |true=>exact AA h
 |false=>cases h
noncomputable def sfq(f:Bool)(us:List RW)(ps:List (Rat×Rat))(z:Str):Option QS:=match rdf f z with
 |some s=>some (us,ps++[s])
 |none=>if ps=[]then(rdw us z).map (fun W=>(us++[W],[]))else none
theorem kQ{f:Bool}{us:List RW}{ps:List (Rat×Rat)}{z:Str}{s:Rat×Rat}(h:rdf f z=some s):sfq f us ps z=some (us,ps++[s]):=by unfold sfq;rw[h]
theorem di{f:Bool}{us:List RW}{z:Str}(h:rdf f z=none):sfq f us [] z=(rdw us z).map (fun W=>(us++[W],[])):=by unfold sfq;rw[h];exact if_pos rfl
theorem gM{f:Bool}{us:List RW}{ps:List (Rat×Rat)}{z:Str}(h:rdf f z=none)(h2:ps≠[]):sfq f us ps z=none:=by unfold sfq;rw[h];exact if_neg h2
noncomputable def sfQ(f:Bool)(rs:List Str):Nat->Option QS
 |0=>some ([],[])
 |n+1=>(sfQ f rs n).bind fun s=>(rs[n]?).bind fun z=>sfq f s.1 s.2 z
theorem gC{f:Bool}{rs:List Str}{n:Nat}{us:List RW}{ps:List (Rat×Rat)}{z:Str}(h:sfQ f rs n=some (us,ps))(e:rs[n]?=some z):sfQ f rs (n+1)=sfq f us ps z:=by show(sfQ f rs n).bind _=_;rw[h,HD,e,HD]
theorem eM{f:Bool}{rs:List Str}:∀{n:Nat} {q:QS},sfQ f rs n=some q->∀k,k<=n->∃us ps,sfQ f rs k=some (us,ps)
 |0,q,h,k,hk=>⟨q.1,q.2,by rw[show k=0 by omega];exact h⟩
 |n+1,q,h,k,hk=>by
  by_cases e:k=n+1
  ·exact⟨q.1,q.2,by rw[e];exact h⟩
  ·cases g:sfQ f rs n with
   |none=>
    have h:(sfQ f rs n).bind (fun s=>(rs[n]?).bind fun z=>sfq f s.1 s.2 z)=some q:=h
    rw[g]at h
    cases h
   |some p=>exact eM g k (by omega)
theorem oH{f:Bool}{rs:List Str}:∀{m:Nat},sfQ f rs m=none->∃n us ps,n<m/\sfQ f rs n=some (us,ps)/\sfQ f rs (n+1)=none
 |0,h=>by cases h
 |m+1,h=>by
  cases g:sfQ f rs m with
  |none=>
   obtain⟨n,us,ps,h1,h2,h3⟩:=oH g
   exact⟨n,us,ps,by omega,h2,h3⟩
  |some q=>exact⟨m,q.1,q.2,by omega,g,h⟩
theorem mO{f:Bool}{rs:List Str}{i n:Nat}{q:QS}(h:i<=n)(nx:sfQ f rs (i+1)=some q)(gn:sfQ f rs (n+1)=none):i+1<=n:=by
 by_cases e:i=n
 ·rw[e,gn]at nx;cases nx
 ·omega
structure FOk(rs:List Str)(n:Nat)(us:List RW)(ps:List (Rat×Rat)):Prop where
 mem:∀U∈us,NQ 100 U/\OwQ U/\N4 U
 few:us.length<=40
 sum:us.length+ps.length=n
 le:n<=rs.length
 n30:∀s∈ps,N30 s.1/\N30 s.2
theorem jU{f:Bool}{rs:List Str}:∀{n:Nat} {us:List RW} {ps:List (Rat×Rat)},sfQ f rs n=some (us,ps)->FOk rs n us ps
 |0,us,ps,h=>by
  have h:(([],[]):QS)=(us,ps):=Option.some.inj h
  cases h
  exact⟨fun U hU=>(Jw hU).elim,Jb _,rfl,Jb _,fun s hs=>(Jw hs).elim⟩
 |n+1,us,ps,h=>by
  have h:(sfQ f rs n).bind (fun s=>(rs[n]?).bind fun z=>sfq f s.1 s.2 z)=some (us,ps):=h
  cases g:sfQ f rs n with
  |none=>rw[g]at h;cases h
  |some q=>
   obtain⟨vs,qs⟩:=q
   rw[g,HD]at h
   have I:=jU g
   cases e:rs[n]? with
   |none=>rw[e]at h;cases h
   |some z=>
    have hn:=(Hj.mp e).1
    rw[e,HD]at h
    dsimp only at h
    cases r:rdf f z with
    |some s=>
     rw[kQ r]at h
     cases h
     refine⟨I.mem,I.few,by have:=I.sum;simp;omega,hn,fun t ht=>?_⟩
     rcases Hv.mp ht with ht|ht
     ·exact I.n30 t ht
     ·rw[Hu.mp ht];exact A1 r
    |none=>
     by_cases q0:qs=[]
     ·subst q0
      rw[di r]at h
      cases w:rdw vs z with
      |none=>rw[w]at h;cases h
      |some W=>
       rw[w]at h
       cases h
       obtain⟨a,b,c,d⟩:=Dl w
       have N:=(j7 a).1
       refine⟨fun U hU=>?_,by have:=I.few;simp;omega,by have:=I.sum;simp at *;omega,hn,fun t ht=>(Jw ht).elim⟩
       rcases Hv.mp hU with hU|hU
       ·exact I.mem U hU
       ·rw[Hu.mp hU];exact⟨N.nq,b,N⟩
     ·rw[gM r q0]at h;cases h
def Fg(f:Bool)(us:List RW)(p:Addr):D:=if f=true then ya us p else .tup [.str "told",.tup (us.map wq)]
def pF(f:Bool)(rs:List Str)(d:D)(M:MH):Prop:=(∃us ps p,sfQ f rs rs.length=some (us,ps)/\d=Fg f us p/\(f=true->M p=some (.lst (ps.map spq))))\/∃(n:Nat) (us:List RW) (ps:List (Rat×Rat)),n<rs.length/\sfQ f rs n=some (us,ps)/\sfQ f rs (n+1)=none/\d=.tup [.str "no text",.int (n:Int)]
theorem pF.mono{f:Bool}{rs:List Str}{d:D}{M M':MH}(h:pF f rs d M)(s:SD.Sub M M'):pF f rs d M':=by
 rcases h with⟨us,ps,p,e,ed,hp⟩|h
 ·exact .inl ⟨us,ps,p,e,ed,fun hf=>s _ _ (hp hf)⟩
 ·exact .inr h
theorem Bo{f:Bool}{rs:List Str}{d e:D}{M:MH}{Q:DK}(h:pF f rs d M)(h':pF f rs e M)(q:Q (.bl false) M):tQ d e M Q:=by
 rcases h with⟨us,ps,p,g,rfl,hp⟩|⟨n,us,ps,hn,g,g1,rfl⟩
 ·rcases h' with⟨us',ps',p',g',rfl,hp'⟩|⟨n',us',ps',hn',g',g1',rfl⟩
  ·rw[g]at g';cases g';cases f with
   |true=>exact Bc (hp rfl) (hp' rfl) q
   |false=>
    have h:=Ad (us.map fun _=>IL) us M Q q
    unfold AO at h
    rw[if_pos (G4 ..).symm]at h
    exact h
  ·obtain⟨_,_,z⟩:=eM g (n'+1) (by omega);rw[g1']at z;cases z
 ·rcases h' with⟨us',ps',p',g',rfl,hp'⟩|⟨n',us',ps',hn',g',g1',rfl⟩
  ·obtain⟨_,_,z⟩:=eM g' (n+1) (by omega);rw[g1]at z;cases z
  ·have e:n=n':=by
    rcases Nat.lt_trichotomy n n' with l|l|l
    ·obtain⟨_,_,z⟩:=eM g' (n+1) (by omega);rw[g1]at z;cases z
    ·exact l
    ·obtain⟨_,_,z⟩:=eM g (n'+1) (by omega);rw[g1']at z;cases z
   subst e;exact Ew n q
theorem iq{q:Rat}(h:Ma.Bq 210 q):(sQ q).length<=131:=by
 have f:∀a:Int,Bd 210 a->(iT a).length<=65:=fun a ha=>fV (k:=63) (G8 ha (by decide));have h1:=f _ h.1;have h2:=f _ h.2;show(sF q.num (q.den:Int)).length<=131;unfold sF;split
 ·omega
 ·rw[len_app,len_app];have:(Str.mk #[47]).length=1:=rfl;omega
def uQ(U:RW):List Rat:=[U.1,U.2.1,U.2.2.1,U.2.2.2]
theorem tm{U:RW}(h:NQ 210 U):Asc (fY U)/\10∉(fY U).cps.toList/\(fY U).length<=532:=by
 refine⟨eL (by decide) fun u hu=>?_,fun hc=>?_,?_⟩
 ·rcases Hr.mp hu with rfl|hu
  ·exact qZ
  ·obtain⟨q,_,rfl⟩:=IB.mp hu;exact zj q
 ·rcases gW 32 10 _ hc with h|⟨t,ht,hc⟩
  ·cases h
  ·rcases Hr.mp ht with rfl|ht
   ·rw[lO]at hc;simp at hc
   ·obtain⟨q,_,rfl⟩:=IB.mp ht;have:=iu (a:=q.num) (b:=(q.den:Int)) hc;omega
 ·have e:=fP 32 (G1 "wall"::(uQ U).map sQ) (by simp);have h1:=iq h.a;have h2:=iq h.b;have h3:=iq h.c;have h4:=iq h.d;have h0:(G1 "wall").length=4:=rfl;have e:(fY U).length+1=(G1 "wall").length+1+((sQ U.1).length+1+((sQ U.2.1).length+1+((sQ U.2.2.1).length+1+((sQ U.2.2.2).length+1+0)))):=e;omega
def tR(t b X Y:Int)(w:Wl):RW:=(Ma.ut t b X 1 w.1,Ma.ut t b Y 1 w.2.1,Ma.ut t b X 1 w.2.2.1,Ma.ut t b Y 1 w.2.2.2)
theorem Bt(t b X Y:Int)(ws:List Wl):ws.map (rwl t b X Y)=(ws.map (tR t b X Y)).map wq:=by rw[Jr];rfl
theorem xU(t b X Y:Int)(ws:List Wl):(ws.map (tR t b X Y)).map fY=ws.map (jA t b X Y):=by rw[Jr];rfl
theorem By{t b X Y:Int}{ws:List Wl}(h:∀w∈ws,∀q∈wQ t b X Y w,Ma.Bq 60 q):∀U∈ws.map (tR t b X Y),NQ 900 U:=fun U hU=>by obtain⟨w,hw,rfl⟩:=IB.mp hU;have f:∀q∈wQ t b X Y w,Ma.Bq 900 q:=fun q hq=>⟨(h w hw q hq).1.mono (by decide),(h w hw q hq).2.mono (by decide)⟩;exact⟨f _ (by simp[wQ,tR]),f _ (by simp[wQ,tR]),f _ (by simp[wQ,tR]),f _ (by simp[wQ,tR])⟩
theorem wm{M:MH}{Q:DK}{a c:Addr}{us:List RW}(ha:M a=some (.lst (us.map wq)))(hc:M c=some (.lst []))(q:Q (.bl (decide (us=[]))) M):Ac (.ref a) (.ref c) M Q:=by
 have sh:Ia (.list (us.map wqP))=true:=by
  have h3:=pT us
  unfold Ia
  rw[Hl]
  refine⟨by simp[Iw,qj],decide_eq_true ?_⟩
  simp only[PyData.depth]
  omega
 refine⟨_,_,.lst ha (jK us),.lst hc .nil,sh,rfl,?_⟩;rw[show Hz (.list (us.map wqP)) (.list [])=decide (us=[]) by cases us<;>rfl];exact q
theorem nH{a:Int}(h:a.natAbs<10^30):Bd 100 a:=G8 h (by decide)
theorem EG{us:List RW}{v:Int}(h0:0<=v)(h1:v<(us.length:Int)):∃U∈us,atI (us.map wq) v=some (wq U):=by
 obtain⟨n,rfl⟩:=Jk h0;have hn:n<us.length:=by omega
 exact⟨us[n],List.getElem_mem hn,eQ (by rw[G9,HG hn];rfl)⟩
section
variable{P:Hi}{w:HL}{K:cc}{mg:Str->Option G0}{base:Heap}{x:Str}{st:Stmt}{N:List Str}{k:Nat}
def sD1(C:D->MH->DK->Prop):SpD:=fun ds M Q=>match ds with
 |[a]=>C a M Q
 |_=>False
theorem fM{p:Str}{C:D->MH->DK->Prop}(T:Txt K mg x st)(S:FnScope N [p] (aq st))
 (body:∀(f:Addr) (cdv:G0) (A:HM) (outer:List Env) (s:G3) (H:Hp) (E:XK),Room k (A.deeper (envOfC x (aq st) s.heap.objs.size f cdv))->
  ∃t,DSs (bQ CX0 P w K mg base N x (aq st) f cdv A outer s H E).nox (bo st) t/\∀a M Q,C a M Q->t { nx:=fun _ M'=>Ret Q .non M',rt:=Ret Q } (fX N [a]) M)
 (hb:∀(kV doc pm:G0) (an:Option Addr) (cdv ct a:G0),bindArgs (IQ x x (cb st) (bo st) (aq st) .none kV doc pm an cdv ct) ⟨[a],[]⟩=pure ([p].zip [a]):=by intros;rfl):Cal P w K mg base (k+1) x (sD1 C):=by
 refine sE T S (fun kV doc pm an cdv ct us hl=>?_) (fun ds M Q h=>?_) fun f cdv A outer s H E hr=>?_
 ·match us,hl with
  |[_],_=>exact hb ..
 ·unfold sD1 at h
  split at h
  ·rfl
  ·exact h.elim
 ·obtain⟨t,h,hq⟩:=body f cdv A outer s H E hr
  refine⟨t,h,fun ds M Q h=>?_⟩
  unfold sD1 at h
  split at h
  ·exact hq _ _ _ h
  ·exact h.elim
def sD2(C:D->D->MH->DK->Prop):SpD:=fun ds M Q=>match ds with
 |[a,b]=>C a b M Q
 |_=>False
theorem bM{p q:Str}{C:D->D->MH->DK->Prop}(T:Txt K mg x st)(S:FnScope N [p,q] (aq st))
 (body:∀(f:Addr) (cdv:G0) (A:HM) (outer:List Env) (s:G3) (H:Hp) (E:XK),Room k (A.deeper (envOfC x (aq st) s.heap.objs.size f cdv))->
  ∃t,DSs (bQ CX0 P w K mg base N x (aq st) f cdv A outer s H E).nox (bo st) t/\∀a b M Q,C a b M Q->t { nx:=fun _ M'=>Ret Q .non M',rt:=Ret Q } (fX N [a,b]) M)
 (hb:∀(kV doc pm:G0) (an:Option Addr) (cdv ct a b:G0),bindArgs (IQ x x (cb st) (bo st) (aq st) .none kV doc pm an cdv ct) ⟨[a,b],[]⟩=pure ([p,q].zip [a,b]):=by intros;rfl):Cal P w K mg base (k+1) x (sD2 C):=by
 refine sE T S (fun kV doc pm an cdv ct us hl=>?_) (fun ds M Q h=>?_) fun f cdv A outer s H E hr=>?_
 ·match us,hl with
  |[_,_],_=>exact hb ..
 ·unfold sD2 at h
  split at h
  ·rfl
  ·exact h.elim
 ·obtain⟨t,h,hq⟩:=body f cdv A outer s H E hr
  refine⟨t,h,fun ds M Q h=>?_⟩
  unfold sD2 at h
  split at h
  ·exact hq _ _ _ _ h
  ·exact h.elim
def sD3(C:D->D->D->MH->DK->Prop):SpD:=fun ds M Q=>match ds with
 |[a,b,c]=>C a b c M Q
 |_=>False
theorem qO{p q r:Str}{C:D->D->D->MH->DK->Prop}(T:Txt K mg x st)(S:FnScope N [p,q,r] (aq st))
 (body:∀(f:Addr) (cdv:G0) (A:HM) (outer:List Env) (s:G3) (H:Hp) (E:XK),Room k (A.deeper (envOfC x (aq st) s.heap.objs.size f cdv))->
  ∃t,DSs (bQ CX0 P w K mg base N x (aq st) f cdv A outer s H E).nox (bo st) t/\∀a b c M Q,C a b c M Q->t { nx:=fun _ M'=>Ret Q .non M',rt:=Ret Q } (fX N [a,b,c]) M)
 (hb:∀(kV doc pm:G0) (an:Option Addr) (cdv ct a b c:G0),bindArgs (IQ x x (cb st) (bo st) (aq st) .none kV doc pm an cdv ct) ⟨[a,b,c],[]⟩=pure ([p,q,r].zip [a,b,c]):=by intros;rfl):Cal P w K mg base (k+1) x (sD3 C):=by
 refine sE T S (fun kV doc pm an cdv ct us hl=>?_) (fun ds M Q h=>?_) fun f cdv A outer s H E hr=>?_
 ·match us,hl with
  |[_,_,_],_=>exact hb ..
 ·unfold sD3 at h
  split at h
  ·rfl
  ·exact h.elim
 ·obtain⟨t,h,hq⟩:=body f cdv A outer s H E hr
  refine⟨t,h,fun ds M Q h=>?_⟩
  unfold sD3 at h
  split at h
  ·exact hq _ _ _ _ _ h
  ·exact h.elim
end
end SD
namespace QQ
open PySem PySem.Spec PyProof.Rows L2 SD
def top(i:Nat):Stmt:=HE.main.body.getD i (.Pass ⟨0,0,0,0⟩)
abbrev iH:Stmt:=top 45
abbrev lJ:Stmt:=top 46
abbrev kg:Stmt:=top 49
abbrev kx:Stmt:=top 56
abbrev lL:Stmt:=top 57
abbrev nM:Stmt:=top 47
abbrev mz:Stmt:=top 50
abbrev lH:Stmt:=top 51
abbrev mX:Stmt:=top 52
abbrev qW:Stmt:=top 53
abbrev mx:Stmt:=top 54
abbrev fF:Stmt:=top 55
abbrev jD:Stmt:=top 48
abbrev gH:Stmt:=top 58
abbrev gT:Stmt:=top 59
abbrev iI:Stmt:=top 60
abbrev mK:Stmt:=top 61
abbrev ji:Stmt:=top 65
abbrev oM:Stmt:=top 66
abbrev jt:Stmt:=top 63
abbrev kz:Stmt:=top 62
abbrev mS:Stmt:=top 64
abbrev ou:Stmt:=top 69
abbrev nX:Stmt:=top 41
abbrev iJ:Stmt:=top 36
abbrev l6:Stmt:=top 37
abbrev d7:Stmt:=top 10
abbrev lu:Stmt:=top 11
abbrev gr:Stmt:=top 38
abbrev jb:Stmt:=top 39
abbrev nY:Stmt:=top 16
abbrev mL:Stmt:=top 18
abbrev BA:Stmt:=top 23
abbrev zB:Stmt:=top 24
abbrev nW:Stmt:=top 25
abbrev mw:Stmt:=top 19
abbrev jr:Stmt:=top 20
abbrev lA:Stmt:=top 21
abbrev mF:Stmt:=top 22
abbrev eP:Stmt:=top 29
abbrev xw:Stmt:=top 15
abbrev xj:Stmt:=top 13
abbrev yR:Stmt:=top 12
abbrev vE:Stmt:=top 14
abbrev fL:Stmt:=top 31
abbrev gu:Stmt:=top 30
abbrev oz:Stmt:=top 28
abbrev eK:Stmt:=top 32
abbrev gq:Stmt:=top 33
abbrev ky:Stmt:=top 40
abbrev fK:Stmt:=top 43
abbrev ko:Stmt:=top 42
abbrev kh:Stmt:=top 67
abbrev ki:Stmt:=top 68
abbrev BN:Stmt:=top 70
abbrev nO:Stmt:=vh (top 7) 0
theorem tK:FnScope ["self","row"] ["self","row"] (aq nO):=⟨rfl,rfl,rfl,by decide,rfl,by decide,by decide⟩
local macro_rules | `(tactic| walk_at "sc") => `(tactic| exact ⟨rfl, rfl, rfl, by decide, rfl, by decide, by decide⟩)
theorem _root_.SD.Cal.m{P:Hi}{w:HL}{K:cc}{mg:Str->Option G0}{base:Heap}{j k:Nat}{x:Str}{sp:SpD}(h:Cal P w K mg base j x sp)(l:j<=k:=by decide):Cal P w K mg base k x sp:=h.mono l
structure Tx(K:cc)(mg:Str->Option G0):Prop where
 f_law_cell_at:Txt K mg "_law_cell_at" iH
 f_law_take:Txt K mg "_law_take" lJ
 f_law_scale:Txt K mg "_law_scale" kg
 f_law_shown:Txt K mg "_law_shown" kx
 f_law_rows:Txt K mg "_law_rows" lL
 f_law_low:Txt K mg "_law_low" nM
 f_law_spot:Txt K mg "_law_spot" mz
 f_law_made:Txt K mg "_law_made" lH
 f_law_turn:Txt K mg "_law_turn" mX
 f_law_on:Txt K mg "_law_on" qW
 f_law_fair:Txt K mg "_law_fair" mx
 f_law_shuts_here:Txt K mg "_law_shuts_here" fF
 f_law_number:Txt K mg "_law_number" jD
 f_law_is_whole:Txt K mg "_law_is_whole" gH
 f_law_fraction:Txt K mg "_law_fraction" gT
 f_law_shut_in:Txt K mg "_law_shut_in" iI
 f_law_bent:Txt K mg "_law_bent" mK
 f_law_beyond:Txt K mg "_law_beyond" ji
 f_law_odd:Txt K mg "_law_odd" oM
 f_law_before:Txt K mg "_law_before" jt
 f_law_cross:Txt K mg "_law_cross" kz
 f_law_fits:Txt K mg "_law_fits" mS
 f_law_due:Txt K mg "_law_due" ou
 f_rows_of:Txt K mg "rows_of" nX
 f_read_number:Txt K mg "read_number" iJ
 f_read_top:Txt K mg "read_top" l6
 f_greatest_divisor:Txt K mg "greatest_divisor" d7
 f_fraction:Txt K mg "fraction" lu
 f_read_fraction:Txt K mg "read_fraction" gr
 f_read_spots:Txt K mg "read_spots" jb
 f_is_less:Txt K mg "is_less" nY
 f_is_ahead:Txt K mg "is_ahead" mL
 f_gap:Txt K mg "gap" BA
 f_lean:Txt K mg "lean" zB
 f_side_of:Txt K mg "side_of" nW
 f_later_of:Txt K mg "later_of" mw
 f_earlier_of:Txt K mg "earlier_of" jr
 f_own_spot:Txt K mg "own_spot" lA
 f_own_wall:Txt K mg "own_wall" mF
 f_meeting_in_line:Txt K mg "meeting_in_line" eP
 f_over:Txt K mg "over" xw
 f_less:Txt K mg "less" xj
 f_plus:Txt K mg "plus" yR
 f_times:Txt K mg "times" vE
 f_number_between:Txt K mg "number_between" fL
 f_crossing_spot:Txt K mg "crossing_spot" gu
 f_meeting:Txt K mg "meeting" oz
 f_meet_as_in_plots:Txt K mg "meet_as_in_plots" eK
 f_first_crossed:Txt K mg "first_crossed" gq
 f_read_wall:Txt K mg "read_wall" ky
 f_read_questions:Txt K mg "read_questions" fK
 f_read_plot:Txt K mg "read_plot" ko
 f_law_alone:Txt K mg "_law_alone" kh
 f_law_heard:Txt K mg "_law_heard" ki
 f_law:Txt K mg "law" BN
 b_ValueError:mg "ValueError"=none
 b_abs:mg "abs"=none
 b_all:mg "all"=none
 b_any:mg "any"=none
 b_enumerate:mg "enumerate"=none
 b_int:mg "int"=none
 b_isinstance:mg "isinstance"=none
 b_len:mg "len"=none
 b_list:mg "list"=none
 b_max:mg "max"=none
 b_min:mg "min"=none
 b_range:mg "range"=none
 b_str:mg "str"=none
 b_tuple:mg "tuple"=none
 g_MOST_FIGURES:∃t,mg "MOST_FIGURES"=some (.int 30 t)
 g_MOST_WALLS:∃t,mg "MOST_WALLS"=some (.int 40 t)
 r_Absent:mg "Absent"=some (.ref (cl K "Absent"))
 r_Crossing:mg "Crossing"=some (.ref (cl K "Crossing"))
 r_NoFraction:mg "NoFraction"=some (.ref (cl K "NoFraction"))
 r_NoRow:mg "NoRow"=some (.ref (cl K "NoRow"))
 r_NoText:mg "NoText"=some (.ref (cl K "NoText"))
 r_NoWall:mg "NoWall"=some (.ref (cl K "NoWall"))
 r_SpotError:mg "SpotError"=some (.ref (cl K "SpotError"))
 r_TooMany:mg "TooMany"=some (.ref (cl K "TooMany"))
 e_SpotError:ClsE K "SpotError" (cl K "SpotError")
 eb_SpotError:HY K (.ref (cl K "SpotError")) (.type "BaseException")=some true
 B_SpotError:ClsB K (cl K "SpotError")
 eb_NoText:HY K (.ref (cl K "NoText")) (.type "BaseException")=some true
 es_NoText_SpotError:HY K (.ref (cl K "NoText")) (.ref (cl K "SpotError"))=some true
 fn_NoText_row:PySem.W.findIn K (.ref (cl K "NoText")) "row"=some none
 hd_NoText:Ji K (cl K "NoText")=true
 m_NoText:∃fI fd,ClsI K (cl K "NoText") (cl K "SpotError") fI/\Fun K "__init__" "NoText.__init__" nO fI fd
 ek_NoText:ErrK K (cl K "NoText")
 kv_NoText:Io K (.ref (cl K "NoText")) (.type "ValueError")=some true
 ki_NoText_Absent:Io K (.ref (cl K "NoText")) (.ref (cl K "Absent"))=some false
 ki_NoText_Crossing:Io K (.ref (cl K "NoText")) (.ref (cl K "Crossing"))=some false
 ki_NoText_NoFraction:Io K (.ref (cl K "NoText")) (.ref (cl K "NoFraction"))=some false
 ki_NoText_NoRow:Io K (.ref (cl K "NoText")) (.ref (cl K "NoRow"))=some false
 ki_NoText_NoText:Io K (.ref (cl K "NoText")) (.ref (cl K "NoText"))=some true
 ki_NoText_NoWall:Io K (.ref (cl K "NoText")) (.ref (cl K "NoWall"))=some false
 ki_NoText_TooMany:Io K (.ref (cl K "NoText")) (.ref (cl K "TooMany"))=some false
variable{P:Hi}{w:HL}{K:cc}{mg:Str->Option G0}{base:Heap}
theorem oF(T:Tx K mg):MkE P w K mg base 1 "NoText" (cl K "NoText") ["row"]:=by obtain⟨fI,fd,M,F⟩:=T.m_NoText;refine⟨_,fI,fd,["self","row"],M,T.eb_NoText,F.ok (k:=0) (N:=["self","row"]) tK (fun vs H Q E h=>by obtain⟨a,ys,rfl,hl,_⟩:=h;simp[hl]) (fun cdv A outer s H vs Q E hr h=>⟨_,rF (vB (zV T.B_SpotError rfl T.r_SpotError (oZ (pv 0) (oZ (AM (iP (rA (by decide)) (iP (xi (pv 1)) (iP (rA (by decide)) parts_nil))) (by decide) rfl) ym)) (by decide) rfl rfl rfl)) (uJ (As (pv 0) (pv 1) rfl)),Ee M T.fn_NoText_row rfl h (fun a y0 hy0=>⟨trivial,⟨_,rfl,rfl,hy0⟩,trivial,trivial⟩)⟩),F.binds (fun _ _ _ _ _ _ us hl=>match us,hl with|[_,_],_=>rfl),T.r_NoText⟩
theorem lE:FnScope ["_law_script","_law_k"] ["_law_script","_law_k"] (aq iH):=by walk_at "sc"
inductive Cn_law_cell_at(x y:D)(M:MH)(Q:DK):Prop
 |mk (ns:_) (k:_) (_:x=.rol (Ir D.int ns)) (_:y=.int k) (_:0<=k) (_:∀z,Q (.int z) M)
theorem nj(T:Tx K mg):Cal P w K mg base 1 "_law_cell_at" (sD2 Cn_law_cell_at):=by
 refine bM (k:=0) T.f_law_cell_at lE fun f cdv A outer s H E hr=>⟨_,(ai (aL (aA (e7 hr.units) (dv 1) (aI tJ rfl T.b_len cz (aa (dv 0) ae))) (aj (ay (au (dv 0) (dv 1)))) aD) (aj (ay af))),fun _ _ M Q h=>?_⟩;obtain⟨ns,k,rfl,rfl,hk,q⟩:=h;(repeat (first|refine⟨_,rfl,?_⟩|refine⟨trivial,?_⟩|refine⟨_,_,rfl,?_⟩|refine⟨rfl,?_⟩|refine⟨nbL rfl,?_⟩))
 refine bj (fun hl=>?_) (fun _=>?_)
 ·have hl':k<(ns.length:Int):=by simpa using hl
  obtain⟨j,rfl⟩:∃j:Nat,k=(j:Int):=⟨k.toNat,by omega⟩;have hj:j<ns.length:=by omega
  refine⟨_,rfl,_,rfl,.int ns[j],eQ (by simp[hj]),rtn (q _)⟩
 ·exact rtn (q 0)
theorem dI:FnScope ["_law_row","_law_base","_law_rest","_law_number_here"] ["_law_row","_law_base"] (aq lJ):=by walk_at "sc"
inductive Cn_law_take(y z:D)(M:MH)(Q:DK):Prop
 |mk (r:_) (b:_) (x:_) (c:_) (_:y=.ref r) (_:z=.int b) (_:M r=some (.lst [.int x,.int c])) (_:0<=c) (_:c<1000000) (_:0<b) (_:Bd 8000 b) (_:∀x' v,0<=v->v<b->Q (.int v) (av M r (.lst [.int x',.int (c+1)])))
theorem aE(T:Tx K mg):Cal P w K mg base 1 "_law_take" (sD2 Cn_law_take):=by
 refine bM (k:=0) T.f_law_take dI fun f cdv A outer s H E hr=>⟨_,(ai (cI (ar ck (au (dv 0) af) af) (tF (dv 0) af)) (ai (aL (aA (j9 hr.units) (au (dv 0) af) (ar eZ af af)) (ai (ax 2 dI.nd (ar cB (au (dv 0) af) (ar eZ af af))) (ai (cI (ar ck (ar eZ af af) (ar og (dv 2) (dv 1))) (tF (dv 0) af)) (aj (ay (ar iX (dv 2) (dv 1)))))) aD) (ai (ax 3 dI.nd (ar ck (ar aH (ar iX (au (dv 0) af) af) af) (ar aH (ar aH af (au (dv 0) af)) (au (dv 0) af)))) (ai (ax 3 dI.nd (ar iX (ar ck (ar ck (dv 3) (ar aH af (au (dv 0) af))) af) af)) (ai (ax 3 dI.nd (ar iX (ar ck (ar ck (ar aH (dv 3) (dv 3)) (ar aH af (dv 3))) (au (dv 0) af)) af)) (aj (ay (ar iX (ar og (dv 3) af) (dv 1))))))))),fun _ _ M Q h=>?_⟩;obtain⟨r,b,x,c,rfl,rfl,hM,hc0,hc1,hb,hbd,q⟩:=h;have hc64:Bd 64 (c+1):=by show(c+1).natAbs<2^64;omega
 have hb0:b≠0:=by omega
 have hm:∀n:Int,0<=n.fmod b/\n.fmod b<b:=fun n=>⟨Int.fmod_nonneg_of_pos _ hb,Int.fmod_lt_of_pos _ hb⟩;refine⟨_,rfl,_,_,hM,rfl,?_⟩;refine⟨_,rfl,_,_,hM,rfl,?_⟩;refine⟨_,rfl,_,_,ag,rfl,⟨by decide,by decide,by decide⟩,trivial,_,rfl,?_⟩;refine bj (fun h=>?_) (fun h=>?_)
 ·refine⟨_,rfl,_,_,ag,rfl,⟨by decide,by decide,by decide⟩,trivial,?_⟩;refine⟨⟨by decide,by decide,by decide⟩,_,rfl,_,rfl,⟨hb0,hbd⟩,_,rfl,_,_,ag,rfl,?_⟩;refine⟨_,rfl,_,rfl,hb0,?_⟩;rw[cS];exact rtn (q _ _ (hm _).1 (hm _).2)
 ·refine⟨_,rfl,_,_,ag,rfl,(show(2147483399:Int)≠0 by decide),kP (by decide),?_⟩;refine⟨_,rfl,_,_,ag,rfl,bI (by decide),?_⟩;refine⟨_,rfl,_,_,ag,rfl,kP hc64,?_⟩;refine⟨_,rfl,_,rfl,_,_,ag,rfl,bI (by decide),(show(2147483399:Int)≠0 by decide),?_⟩
  have hn:∀n:Int,Bd 64 (n.fmod 2147483399):=fun n=>by
   have h1:=Int.fmod_nonneg_of_pos n (show(0:Int)<2147483399 by decide)
   have h2:=Int.fmod_lt_of_pos n (show(0:Int)<2147483399 by decide)
   show(n.fmod 2147483399).natAbs<2^64
   omega
  refine⟨_,rfl,_,rfl,bI (hn _),_,rfl,bI (by decide),_,rfl,_,_,ag,rfl,(show(2147483647:Int)≠0 by decide),?_⟩;refine⟨_,rfl,⟨by decide,cD (by decide)⟩,_,rfl,hb0,?_⟩;exact rtn (q _ _ (hm _).1 (hm _).2)
theorem dP:FnScope ["_law_row","_law_top","_law_bottom","_law_far"] ["_law_row"] (aq kg):=by walk_at "sc"
inductive Cn_law_scale(u:D)(M:MH)(Q:DK):Prop
 |mk (r:Addr) (x c:Int) (_:u=.ref r) (_:M r=some (.lst [.int x,.int c])) (_:0<=c) (_:c<900000) (_:∀x' c' t b p q,Scl t b p q->0<=c'->c'<=c+10->Q (scl t b p q) (av M r (.lst [.int x',.int c'])))
theorem rq(T:Tx K mg):Cal P w K mg base 2 "_law_scale" (sD1 Cn_law_scale):=by
 refine fM (k:=1) T.f_law_scale dP fun f cdv A outer s H E hr=>⟨_,(ai (fo 1 2 rfl dP.nd (aa (ar ck af (ak (aE T).m hr (aa (dv 0) (aa af ae)))) (aa (ar ck af (ak (aE T).m hr (aa (dv 0) (aa af ae)))) ae))) (ai (aL (aA (eE hr.units) (ak (aE T).m hr (aa (dv 0) (aa af ae))) af) (aj (fo 1 2 rfl dP.nd (aa (ar ck af (ak (aE T).m hr (aa (dv 0) (aa (ar eZ af af) ae)))) (aa (ar ck af (ak (aE T).m hr (aa (dv 0) (aa (ar eZ af af) ae)))) ae)))) aD) (ai (ax 3 dP.nd (au (aW (aa af (aa (ar eZ af af) ae))) (aT jN rfl T.b_int dj (aa (bX (eE hr.units) (ak (aE T).m hr (aa (dv 0) (aa af ae))) af) ae)))) (aj (ay (aF (aa (dv 1) (aa (dv 2) (aa (ar aH (dv 3) (ar cB (ak (aE T).m hr (aa (dv 0) (aa af ae))) af)) (aa (ar aH (dv 3) (ar cB (ak (aE T).m hr (aa (dv 0) (aa af ae))) af)) ae)))))))))),fun _ M Q h=>?_⟩;obtain⟨r,x,c,rfl,hM,hc0,hc1,k⟩:=h;refine⟨_,rfl,r,6,x,c,rfl,rfl,hM,hc0,by omega,by decide,cD (by decide),fun x1 v1 h10 h11=>?_⟩;refine⟨_,rfl,r,6,x1,c+1,rfl,rfl,ag,by omega,by omega,by decide,cD (by decide),fun x2 v2 h20 h21=>?_⟩;refine⟨_,_,rfl,?_⟩;(try dsimp only[SD.aJ])
 refine aV (fun δ M'=>∃x c' t b o3,0<=c'/\c'<=c+5/\(0<t/\t<=10^9/\0<b/\b<=10^9)/\M'=av M r (.lst [.int x,.int c'])/\δ=[some (.ref r),some (.int t),some (.int b),o3]) ?_ (fun hu=>?_);rotate_left
 ·refine⟨_,rfl,r,4,x2,c+1+1,rfl,rfl,ag,by omega,by omega,by decide,cD (by decide),fun x3 v3 h30 h31=>⟨_,rfl,?_⟩⟩;refine bj (fun _=>?_) (fun _=>?_)
  ·refine⟨_,rfl,⟨by decide,by decide,by decide⟩,r,10^9,x3,c+1+1+1,rfl,rfl,ag,by omega,by omega,by decide,cD (by decide),fun x4 v4 h40 h41=>?_⟩;refine⟨_,rfl,⟨by decide,by decide,by decide⟩,r,10^9,x4,c+1+1+1+1,rfl,rfl,ag,by omega,by omega,by decide,cD (by decide),fun x5 v5 h50 h51=>?_⟩;refine⟨_,_,rfl,hu _ _ ⟨x5,c+1+1+1+1+1,1+v4,1+v5,none,by omega,by omega,by omega,?_,rfl⟩⟩;simp only[cS]
  ·refine hu _ _ ⟨x3,c+1+1+1,1+v1,1+v2,none,by omega,by omega,by omega,?_,rfl⟩;simp only[cS]
 rintro δ M' ⟨x,c',t,b,o3,hc0',hc1',hb,rfl,rfl⟩;refine⟨⟨by decide,by decide,by decide⟩,nbL rfl,fun p hp=>?_⟩;have npr:r≠p:=aC ag hp;refine⟨_,rfl,r,6,x,c',rfl,rfl,(by rw[ao npr,ag]),by omega,by omega,by decide,cD (by decide),fun x6 v6 h60 h61=>?_⟩
 have hf:∃f:Int,atI [D.int 1,D.int (10^15)] (if decide (v6=0)=true then 1 else 0)=some (.int f)/\1<=f/\f<=10^15:=by
  by_cases z:v6=0
  ·exact⟨10^15,by rw[if_pos (by simpa using z)];rfl,by decide,by decide⟩
  ·exact⟨1,by rw[if_neg (by simpa using z)];rfl,by decide,by decide⟩
 obtain⟨f,ef,hf0,hf1⟩:=hf;refine⟨_,_,(by rw[ao npr.symm,ag];rfl),ef,?_⟩;have bf:Bd 64 f:=by show f.natAbs<2^64;omega
 refine⟨_,rfl,_,rfl,_,rfl,_,rfl,r,41,x6,c'+1,rfl,rfl,ag,by omega,by omega,by decide,cD (by decide),fun x7 v7 h70 h71=>⟨trivial,bI bf,?_⟩⟩;refine⟨_,rfl,_,rfl,r,41,x7,c'+1+1,rfl,rfl,ag,by omega,by omega,by decide,cD (by decide),fun x8 v8 h80 h81=>⟨trivial,bI bf,nbL rfl,?_⟩⟩
 have bnd:∀v:Int,0<=v->v<41->-(10^17)<=f*(v-20)/\f*(v-20)<=10^17:=fun v a b=>by
  have h1:f*(v-20)<=f*20:=Jf (by omega) (by omega)
  have h2:f*(-20)<=f*(v-20):=Jf (by omega) (by omega)
  omega
 have q7:=bnd v7 h70 h71;have q8:=bnd v8 h80 h81;refine⟨av M r (.lst [.int x8,.int (c'+1+1+1)]),?_,k _ _ _ _ _ _ ⟨hb.1,hb.2.1,hb.2.2.1,hb.2.2.2,q7.1,q7.2,q8.1,q8.2⟩ (by omega) (by omega)⟩;simp only[cS];refine .Ei ?_;intro a o ne e;have:a≠p:=fun z=>by subst z;rw[ao ne]at hp;rw[hp]at e;cases e
 rw[ao this,ao ne];exact e
theorem p9:FnScope ["_law_one"] ["_law_one"] (aq kx):=by walk_at "sc"
inductive Cn_law_shown(x:D)(M:MH)(Q:DK):Prop
 |mk (a b:Int) (_:x=.tup [.int a,.int b]) (_:Bd 900 a) (_:Bd 900 b) (_:Q (.str (sF a b)) M)
theorem gY(T:Tx K mg):Cal P w K mg base 1 "_law_shown" (sD1 Cn_law_shown):=by
 refine fM (k:=0) T.f_law_shown p9 fun f cdv A outer s H E hr=>⟨_,(aj (ay (ar aM (aT uE rfl T.b_str xG (aa (aS (dv 0) af) ae)) (aS (aW (aa (ar aM aG (aT uE rfl T.b_str xG (aa (aS (dv 0) af) ae))) (aa aG ae))) (aT dZ rfl T.b_int dj (aa (bX (br hr.units) (aS (dv 0) af) af) ae)))))),fun _ M Q h=>?_⟩;obtain⟨a,b,rfl,ha,hb,k⟩:=h;have h1:=fV (k:=899) (pI ha);have h2:=fV (k:=899) (pI hb);have b1:Bd 1900 a:=ha.mono (by decide);have b2:Bd 1900 b:=hb.mono (by decide);have sz:100000<=GX:=nbL rfl;have l1:(⟨#[47]⟩:Str).length=1:=rfl;refine⟨_,rfl,_,rfl,b1,_,rfl,_,rfl,b2,(by rw[eR,l1];omega),nbL rfl,fun p hp=>⟨_,rfl,_,rfl,?_⟩⟩;rw[eR,jR];by_cases e:b=1
 ·have k:Q (.str (iT a)) M:=by unfold sF at k;rw[if_pos e]at k;exact k
  refine⟨_,.str IL,ag,(by rw[decide_eq_true e];rfl),(by show(iT a).length+0<=GX;omega),M,.new hp .refl,?_⟩;rw[show iT a++IL=iT a from bA (by rw[bU];exact J0 _)];exact k
 ·have k:Q (.str (iT a++⟨#[47]⟩++iT b)) M:=by unfold sF at k;rw[if_neg e]at k;exact k
  refine⟨_,.str (⟨#[47]⟩++iT b),ag,(by rw[decide_eq_false e];rfl),(by rw[len_app,l1];omega),M,.new hp .refl,?_⟩;rw[show iT a++(⟨#[47]⟩++iT b)=iT a++⟨#[47]⟩++iT b from bA (by rw[bU,bU,bU,bU,List.append_assoc])];exact k
theorem rR:FnScope ["_law_plot"] ["_law_plot"] (aq lL):=by walk_at "sc"
inductive Cn_law_rows(v:D)(M:MH)(Q:DK):Prop
 |mk (ws:List RW) (_:zz M v (ws.map wq)) (_:ws.length<=1000) (_:(∀w∈ws,NQ 900 w)) (_:∀p,M p=none->Q (.ref p) (av M p (.lst ((ws.map fY).map D.str))))
theorem iZ(T:Tx K mg):Cal P w K mg base 2 "_law_rows" (sD1 Cn_law_rows):=by
 refine fM (k:=1) T.f_law_rows rR fun f cdv A outer s H E hr=>⟨_,(aj (ay (qL (CScope.of (xs:=["_law_first","_law_second"]) (js:=[]) rfl) rfl (cm (dv 0)) (fun _ _ _ _=>bZ) (fun _ _ _ _=>(cR aG (aa (ar aM (aW (aa aG ae)) (c8 (CScope.of (xs:=["_law_one"]) (js:=[]) rfl) rfl (cm (ar aM (dv 0) (dv 1))) (fun _ _ _ _=>bZ) (fun _ _ _ _=>(ak (gY T).m hr (aa (dv 0) ae))))) ae)))))),fun _ M Q h=>?_⟩;obtain⟨ws,hv,hl,hq,k⟩:=h;refine⟨_,rfl,_,hv,comp_map (fun i=>(((ws.map fY).map D.str)[i]?).getD .non) (by show(ws.map wq).length<=1000000;simp;omega) (fun p ys hp=>wj (.new hp .refl) hv) ?_ (fun p hp=>?_)⟩
 ·intro i d M2 hi hd sb;have hd:(ws.map wq)[i]?=some d:=hd;rw[G9]at hd;cases ew:ws[i]? with
  |none=>rw[ew]at hd;cases hd
  |some w=>
   rw[ew]at hd
   cases hd
   have hw:=hq w (Hh ew)
   have h1:=hw.a
   have h2:=hw.b
   have h3:=hw.c
   have h4:=hw.d
   refine⟨_,⟨_,rfl,rfl,rfl⟩,fun K hK=>?_⟩
   have hK':∀M',SD.Sub M2 M'->K (.str (fY w)) M':=fun M' s=>by
    have z:=hK M' s
    rw[Jr,getD_map ew]at z
    exact z
   refine⟨_,rfl,nbL rfl,fun p0 hp0=>?_⟩
   refine⟨_,rfl,_,rfl,(by simp),nbL rfl,_,rfl,comp_map (fun j=>((((uQ w).map sQ).map D.str)[j]?).getD .non) (nbL rfl) (fun _ _ _=>rfl) ?_ (fun p1 hp1=>?_)⟩
   ·intro j e M3 hj he sb3;have hj:j<4:=hj;refine⟨_,rfl,fun K2 hK2=>?_⟩;have z:=hK2 M3 .refl;rcases(show j=0\/j=1\/j=2\/j=3 by omega)with rfl|rfl|rfl|rfl
    ·cases he;exact⟨_,rfl,_,_,rfl,h1.1,h1.2,z⟩
    ·cases he;exact⟨_,rfl,_,_,rfl,h2.1,h2.2,z⟩
    ·cases he;exact⟨_,rfl,_,_,rfl,h3.1,h3.2,z⟩
    ·cases he;exact⟨_,rfl,_,_,rfl,h4.1,h4.2,z⟩
   ·have np:p0≠p1:=fun z=>by subst z;rw[ag]at hp1;cases hp1
    refine⟨_,_,(by rw[ao np,ag]),ag,nbL rfl,fun q hq2=>⟨q,G1 "wall"::(uQ w).map sQ,rfl,ag,?_,?_⟩⟩
    ·unfold JoinOk;rw[StrLaws.joinFits (B:=2000) (fun y hy=>?_) (nbL rfl)]
     ·rfl
     ·rcases Hr.mp hy with rfl|hy
      ·rw[ba,lO];decide
      ·obtain⟨r,hr,rfl⟩:=IB.mp hy
       have:Ma.Bq 900 r:=by
        simp only[uQ,Hr,Jw,or_false]at hr;rcases hr with rfl|rfl|rfl|rfl
        ·exact h1
        ·exact h2
        ·exact h3
        ·exact h4
       exact Dy this.1 this.2
    ·rw[dG];exact hK' _ (.new hq2 (.new hp1 (.new hp0 .refl)))
 ·have e:=SD.range_getD ((ws.map fY).map D.str);rw[G4,G4]at e;dsimp only;rw[G4,e];exact rtn (k p hp)
theorem eD:FnScope ["_law_top","_law_bottom","_law_one","_law_other"] ["_law_top","_law_bottom"] (aq nM):=by walk_at "sc"
inductive Cn_law_low(x y:D)(M:MH)(Q:DK):Prop
 |mk (t:_) (b:_) (_:x=.int t) (_:y=.int b) (_:b≠0) (_:Bd 8000 t) (_:Bd 8000 b) (_:Q (Ma.fr (Rat.divInt t b)) M)
theorem ft(T:Tx K mg):Cal P w K mg base 1 "_law_low" (sD2 Cn_law_low):=by
 refine bM (k:=0) T.f_law_low eD fun f cdv A outer s H E hr=>⟨_,(ai (ax 2 eD.nd (aI pZ rfl T.b_abs qa (aa (dv 0) ae))) (ai (ax 3 eD.nd (aI pZ rfl T.b_abs qa (aa (dv 1) ae))) (ai (qC Ie (aA (n8 hr.units) (dv 3) af) (aj (fo 2 3 rfl eD.nd (aa (dv 3) (aa (ar iX (dv 2) (dv 3)) ae))))) (ai (aL (aA (e7 hr.units) (dv 1) af) (aj (ax 2 eD.nd (vp kL (dv 2)))) aD) (aj (ay (aF (aa (ar og (dv 0) (dv 2)) (aa (ar og (dv 1) (dv 2)) ae))))))))),fun _ _ M Q h=>?_⟩;obtain⟨t,b,rfl,rfl,hb,ht,hbb,q⟩:=h;refine⟨_,rfl,_,rfl,?_⟩;have hg:=Ma.uW (t:=t) hb;have hgd:Bd 8000 ((Nat.gcd t.natAbs b.natAbs:Nat):Int):=hbb.of_le (by simpa using Nat.gcd_le_right t.natAbs (show 0<b.natAbs by omega));refine⟨fun m δ M'=>M'=M/\∃x y:Nat,δ=[some (.int t),some (.int b),some (.int x),some (.int y)]/\Nat.gcd x y=Nat.gcd t.natAbs b.natAbs/\m=y,⟨_,rfl,_,_,rfl,rfl,rfl⟩,?_⟩;rintro m δ M' ⟨rfl,x,y,rfl,hxy,hm⟩;refine⟨_,rfl,_,rfl,?_⟩;refine bj (fun h=>?_) (fun h=>?_)
 ·have hy:(y:Int)≠0:=by simpa using h
  refine⟨_,rfl,_,rfl,_,rfl,hy,_,_,rfl,?_⟩;have hy':0<y:=by omega
  refine⟨x%y,by rw[hm];exact Nat.mod_lt _ hy',rfl,y,x%y,?_,?_,rfl⟩
  ·rw[<-Ma.vd];rfl
  ·rw[<-hxy,Nat.gcd_comm x y,Nat.gcd_rec y x,Nat.gcd_comm]
 ·have hy:y=0:=by simpa using h
  subst hy;rw[Nat.gcd_zero_right]at hxy;subst hxy;(repeat (first|refine⟨_,rfl,?_⟩|refine⟨trivial,?_⟩|refine⟨_,_,rfl,?_⟩|refine⟨rfl,?_⟩|refine⟨nbL rfl,?_⟩))
  refine bj (fun h=>?_) (fun h=>?_)
  ·have hneg:b<0:=by simpa using h
   obtain⟨e1,e2⟩:=Ma.uC (t:=t) hneg;refine⟨_,rfl,_,rfl,_,rfl,⟨by omega,hgd.neg⟩,_,rfl,_,rfl,⟨by omega,hgd.neg⟩,nbL rfl,?_⟩;dsimp only;rw[e1,e2];exact rtn q
  ·have hpos:0<b:=by
    have:¬b<0:=by simpa using h
    omega
   obtain⟨e1,e2⟩:=Ma.uY (t:=t) hpos;refine⟨_,rfl,_,rfl,⟨by omega,hgd⟩,_,rfl,_,rfl,⟨by omega,hgd⟩,nbL rfl,?_⟩;dsimp only;rw[e1,e2];exact rtn q
theorem dH:FnScope ["_law_scale_here","_law_unit","_law_top","_law_bottom","_law_x","_law_y"] ["_law_scale_here","_law_unit"] (aq mz):=by walk_at "sc"
inductive Cn_law_spot(s v:D)(M:MH)(Q:DK):Prop
 |mk (t b x y p q:Int) (_:s=scl t b x y) (_:v=.tup [.int p,.int q]) (_:Scl t b x y) (_:(-(10^6)<=p/\p<=10^6)) (_:(-(10^6)<=q/\q<=10^6)) (_:Q (Ma.spt (Ma.ut t b x 1 p) (Ma.ut t b y 1 q)) M)
theorem ma(T:Tx K mg):Cal P w K mg base 2 "_law_spot" (sD2 Cn_law_spot):=by
 refine bM (k:=1) T.f_law_spot dH fun f cdv A outer s H E hr=>⟨_,(ai (cI (dv 0) (bC rfl (aw (aB 2 dH.nd) (aw (aB 3 dH.nd) (aw (aB 4 dH.nd) (aw (aB 5 dH.nd) aX)))))) (aj (ay (aF (aa (ak (ft T).m hr (aa (ar ck (ar aH (au (dv 1) af) (dv 2)) (dv 4)) (aa (dv 3) ae))) (aa (ak (ft T).m hr (aa (ar ck (ar aH (au (dv 1) af) (dv 2)) (dv 5)) (aa (dv 3) ae))) ae)))))),fun _ _ M Q h=>?_⟩;obtain⟨t,b,x,y,p,q,rfl,rfl,S,hp,hq,k⟩:=h;have bt:Bd 64 t:=by have:=S.t0;have:=S.t1;show t.natAbs<2^64;omega
 have bp:∀{z:Int},(-(10^6)<=z/\z<=10^6)->Bd 64 z:=fun{z} h=>by show z.natAbs<2^64;omega
 have bb:Bd 8000 b:=by have:=S.b0;have:=S.b1;exact cD (by omega)
 have big:∀{z w:Int},(-(10^6)<=z/\z<=10^6)->(-(10^17)<=w/\w<=10^17)->Bd 8000 (z*t+w):=fun{z w} h1 h2=>by
  have e1:Bd 128 (z*t):=(bp h1).mul bt
  have e2:Bd 128 w:=cD (by omega)
  exact(e1.add e2).mono (by decide)
 have hb0:b≠0:=by have:=S.b0;omega
 refine⟨_,rfl,_,rfl,rfl,_,_,rfl,_,_,rfl,_,_,rfl,_,_,rfl,rfl,?_⟩;refine⟨_,rfl,_,rfl,_,rfl,kP bt,_,rfl,_,rfl,p*t+x,b,rfl,rfl,hb0,big hp ⟨S.x0,S.x1⟩,bb,?_⟩;refine⟨_,rfl,_,rfl,_,rfl,kP bt,_,rfl,_,rfl,q*t+y,b,rfl,rfl,hb0,big hq ⟨S.y0,S.y1⟩,bb,nbL rfl,?_⟩;rw[Ma.pQ,Ma.pQ];exact rtn k
theorem qP:FnScope ["_law_scale_here","_law_shuts"] ["_law_scale_here","_law_shuts"] (aq lH):=by walk_at "sc"
inductive Cn_law_made(s v:D)(M:MH)(Q:DK):Prop
 |mk (t b x y:Int) (l:Addr) (ws:List (Int×Int×Int×Int)) (_:s=scl t b x y) (_:v=.ref l) (_:M l=some (.lst (ws.map uw))) (_:Scl t b x y) (_:ws.length<=1000) (_:(∀w∈ws,Uok (10^6) w)) (_:Q (.tup (ws.map (rwl t b x y))) M)
theorem tW(T:Tx K mg):Cal P w K mg base 3 "_law_made" (sD2 Cn_law_made):=by
 refine bM (k:=2) T.f_law_made qP fun f cdv A outer s H E hr=>⟨_,(aj (ay (aT fu rfl T.b_tuple fB (aa (qL (CScope.of (xs:=["_law_first","_law_second"]) (js:=[0]) rfl) rfl (cm (dv 1)) (fun _ _ _ _=>bZ) (fun _ _ _ _=>(aF (aa (ak (ma T).m hr (aa (dv 2) (aa (dv 0) ae))) (aa (ak (ma T).m hr (aa (dv 2) (aa (dv 1) ae))) ae))))) ae)))),fun _ _ M Q h=>?_⟩;obtain⟨t,b,x,y,l,ws,rfl,rfl,hM,S,hl,hw,k⟩:=h;refine⟨_,rfl,ws.map uw,hM,comp_map (fun i=>((ws.map (rwl t b x y))[i]?).getD .non) (by simp;omega) (fun p ys hp=>?_) ?_ (fun p hp=>⟨_,ag,?_⟩)⟩
 ·show(av M p _) l=_;rw[ao (aC hM hp)];exact hM
 ·intro i e M' hi he _;have he:(ws.map uw)[i]?=some e:=he;rw[G9]at he;cases ew:ws[i]? with
  |none=>rw[ew]at he;cases he
  |some w=>
   rw[ew]at he
   cases he
   obtain⟨u1,u2,u3,u4⟩:=hw w (Hh ew)
   refine⟨_,⟨_,rfl,rfl,rfl⟩,fun K hK=>?_⟩
   have hK':=hK M' .refl
   rw[getD_map ew]at hK'
   refine⟨_,rfl,_,rfl,t,b,x,y,w.1,w.2.1,rfl,rfl,S,u1,u2,?_⟩
   exact⟨_,rfl,_,rfl,t,b,x,y,w.2.2.1,w.2.2.2,rfl,rfl,S,u3,u4,nbL rfl,hK'⟩
 ·refine⟨_,.new hp .refl,?_⟩
  have e:(HF (ws.map uw).length).map (fun i=>((ws.map (rwl t b x y))[i]?).getD .non)=ws.map (rwl t b x y):=by
   have:=SD.range_getD (ws.map (rwl t b x y))
   rw[G4]at this ⊢
   exact this
  dsimp only;rw[e];exact k
theorem eY:FnScope ["_law_one","_law_two","_law_three","_law_far","_law_beside","_law_found"] ["_law_one","_law_two","_law_three"] (aq mX):=by walk_at "sc"
inductive Cn_law_turn(u v w:D)(M:MH)(Q:DK):Prop
 |mk (a b c d e f:Int) (_:u=.tup [.int a,.int b]) (_:v=.tup [.int c,.int d]) (_:w=.tup [.int e,.int f]) (_:Bd 6 a) (_:Bd 6 b) (_:Bd 6 c) (_:Bd 6 d) (_:Q (.int (HC (crs (c-a) (d-b) (e-a) (f-b)))) M)
theorem iU(T:Tx K mg):Cal P w K mg base 1 "_law_turn" (sD3 Cn_law_turn):=by
 refine qO (k:=0) T.f_law_turn eY fun f cdv A outer s H E hr=>⟨_,(ai (ax 3 eY.nd (aF (aa (ar cB (au (dv 1) af) (au (dv 0) af)) (aa (ar cB (au (dv 1) af) (au (dv 0) af)) ae)))) (ai (ax 4 eY.nd (aF (aa (ar cB (au (dv 2) af) (au (dv 0) af)) (aa (ar cB (au (dv 2) af) (au (dv 0) af)) ae)))) (ai (ax 5 eY.nd (ar cB (ar aH (au (dv 3) af) (au (dv 4) af)) (ar aH (au (dv 3) af) (au (dv 4) af)))) (aj (ay (ar cB (aT jN rfl T.b_int dj (aa (bX (fU hr.units) (dv 5) af) ae)) (aT jN rfl T.b_int dj (aa (bX (e7 hr.units) (dv 5) af) ae)))))))),fun _ _ _ M Q h=>?_⟩;obtain⟨a,b,c,d,e,f,rfl,rfl,rfl,ha,hb,hc,hd,k⟩:=h;refine⟨_,rfl,_,rfl,_,rfl,_,rfl,trivial,_,rfl,_,rfl,_,rfl,_,rfl,trivial,nbL rfl,?_⟩;refine⟨_,rfl,_,rfl,_,rfl,_,rfl,trivial,_,rfl,_,rfl,_,rfl,_,rfl,trivial,nbL rfl,?_⟩;refine⟨_,rfl,_,rfl,_,rfl,_,rfl,bI ((hc.sub ha).mono (by decide)),_,rfl,_,rfl,_,rfl,_,rfl,bI ((hd.sub hb).mono (by decide)),trivial,?_⟩;refine⟨_,rfl,trivial,_,rfl,trivial,trivial,?_⟩
 have e1:(if decide (0<(c-a)*(f-b)-(d-b)*(e-a))=true then(1:Int)else 0)-(if decide ((c-a)*(f-b)-(d-b)*(e-a)<0)=true then(1:Int)else 0)=HC (crs (c-a) (d-b) (e-a) (f-b)):=by
  unfold crs;generalize (c-a)*(f-b)-(d-b)*(e-a)=z;rcases Ij z 0 with h|h|h
  ·rw[Ht h,if_neg (by simp;omega),if_pos (by simpa using h)];rfl
  ·subst h;rfl
  ·rw[HI h,if_pos (by simpa using h),if_neg (by simp;omega)];rfl
 dsimp only;rw[e1];exact rtn k
theorem vQ:FnScope ["_law_shut","_law_spot_here"] ["_law_shut","_law_spot_here"] (aq qW):=by walk_at "sc"
inductive Cn_law_on(u v:D)(M:MH)(Q:DK):Prop
 |mk (w:Wl) (x y:Int) (_:u=uw w) (_:v=.tup [.int x,.int y]) (_:Un5 w) (_:(0<=x/\x<=20)) (_:(0<=y/\y<=20)) (_:Q (.bl (decide (l1 w<=la x y)&&decide (la x y<=l2 w)&&decide (sd w x y=0))) M)
theorem xW(T:Tx K mg):Cal P w K mg base 2 "_law_on" (sD2 Cn_law_on):=by
 refine bM (k:=1) T.f_law_on vQ fun f cdv A outer s H E hr=>⟨_,(aj (ay (lX (yP (jP hr.units) (jP hr.units) (au (dv 0) af) (dv 1) (au (dv 0) af)) (iW (bX (eE hr.units) (ak (iU T).m hr (aa (au (dv 0) af) (aa (au (dv 0) af) (aa (dv 1) ae)))) af))))),fun _ _ M Q h=>?_⟩;obtain⟨w,x,y,rfl,rfl,W,hx,hy,k⟩:=h;(try dsimp only[SD.bK,SD.bH,SD.aJ,SD.bR,SD.bO,SD.a9,SD.bg,SD.tBD,SD.bP])
 refine wD (decide (l1 w<=la x y)&&decide (la x y<=l2 w)) (decide (sd w x y=0)) (fun K hK=>?_) (fun _ K hK=>?_) (rtn k)
 ·refine⟨_,rfl,_,rfl,_,rfl,[w.1,w.2.1],[x,y],rfl,rfl,_,rfl,?_⟩;rw[BU W.b hy];refine bj (fun h=>?_) (fun h=>?_)
  ·refine⟨_,rfl,_,rfl,[x,y],[w.2.2.1,w.2.2.2],rfl,rfl,?_⟩;rw[BU hy W.d];have h':decide (l1 w<=la x y)=true:=h;rw[h',Bool.true_and]at hK;exact hK
  ·have h':decide (l1 w<=la x y)=false:=eq_false_of_ne_true h;rw[h',Bool.false_and]at hK;exact hK
 ·refine⟨_,rfl,_,rfl,_,rfl,_,rfl,_,rfl,w.1,w.2.1,w.2.2.1,w.2.2.2,x,y,rfl,rfl,rfl,fG W.a,fG W.b,fG W.c,fG W.d,?_⟩;have e:decide (HC (crs (w.2.2.1-w.1) (w.2.2.2-w.2.1) (x-w.1) (y-w.2.1))=0)=decide (sd w x y=0):=by rw[decide_eq_decide];exact Int.sign_eq_zero_iff_zero
  try dsimp only
  show K (.bl (decide _)) _;rw[e];exact hK
theorem cV:FnScope ["_law_one","_law_other","_law_shut","_law_beside","_law_spot_here","_law_sides","_law_others"] ["_law_one","_law_other"] (aq mx):=by walk_at "sc"
inductive Cn_law_fair(u v:D)(M:MH)(Q:DK):Prop
 |mk (U V:Wl) (_:u=uw U) (_:v=uw V) (_:Un5 U) (_:Un5 V) (_:∀b:Bool,(b=true->Fair U V)->Q (.bl b) M)
theorem sT(T:Tx K mg):Cal P w K mg base 3 "_law_fair" (sD2 Cn_law_fair):=by
 refine bM (k:=2) T.f_law_fair cV fun f cdv A outer s H E hr=>⟨_,(ai (aL (aA (eE hr.units) (dv 0) (dv 1)) (aj (ay jo)) aD) (ai (eG Ie rfl (cm (aF (aa (aF (aa (dv 0) (aa (dv 1) ae))) (aa (aF (aa (dv 1) (aa (dv 0) ae))) ae)))) (bC rfl (aw (aB 2 cV.nd) (aw (aB 3 cV.nd) aX))) (aj (eG Ie rfl (cm (dv 3)) (aB 4 cV.nd) (aj (aL (dJ (df (aA (mG (qd hr)) (dv 4) (dv 2) (by with_unfolding_all rfl)) (dg (cH (ak (xW T).m hr (aa (dv 2) (aa (dv 4) ae))))))) (aj (ay jo)) aD))))) (ai (eo 5 cV.nd (CScope.of (xs:=["_law_spot_here"]) (js:=[0]) rfl) rfl (cm (dv 1)) (fun _ _ _ _=>bZ) (fun _ _ _ _=>(ak (iU T).m hr (aa (au (dv 1) af) (aa (au (dv 1) af) (aa (dv 0) ae)))))) (ai (eo 6 cV.nd (CScope.of (xs:=["_law_spot_here"]) (js:=[1]) rfl) rfl (cm (dv 0)) (fun _ _ _ _=>bZ) (fun _ _ _ _=>(ak (iU T).m hr (aa (au (dv 1) af) (aa (au (dv 1) af) (aa (dv 0) ae)))))) (aj (ay (ue (bX (j9 hr.units) (ar aH (au (dv 5) af) (au (dv 5) af)) af) (iW (bX (j9 hr.units) (ar aH (au (dv 6) af) (au (dv 6) af)) af))))))))),fun _ _ M Q h=>?_⟩;obtain⟨U,V,rfl,rfl,HU,HV,k⟩:=h;refine⟨_,rfl,_,rfl,_,_,Pd.of rfl,Pd.of rfl,rfl,rfl,_,rfl,?_⟩;refine bj (fun h=>rtn (k false (fun z=>absurd z G6))) (fun h=>?_);have hne:¬(l1 U=l1 V/\l2 U=l2 V):=fun⟨z1,z2⟩=>by apply h;obtain⟨a1,a2⟩:=yb HU.b HV.b z1;obtain⟨a3,a4⟩:=yb HU.d HV.d z2;simp only[Hz,Hq,kX,a1,a2,a3,a4];simp
 dsimp only[SD.a9];refine aV (fun δ M'=>M'=M/\(∃o2 o3 o4,δ=[some (uw U),some (uw V),o2,o3,o4,none,none])/\(cy U (l1 V) (sd1 U V)/\cy U (l2 V) (sd2 U V))/\(cy V (l1 U) (sd1 V U)/\cy V (l2 U) (sd2 V U))) ?_ (fun hu=>?_);rotate_left
 ·refine⟨_,rfl,_,rfl,nbL rfl,_,rfl,_,rfl,nbL rfl,nbL rfl,[.tup [uw U,uw V],.tup [uw V,uw U]],rfl,?_⟩;refine⟨fun i δ M'=>M'=M/\(∃o2 o3 o4,δ=[some (uw U),some (uw V),o2,o3,o4,none,none])/\(0<i->cy U (l1 V) (sd1 U V)/\cy U (l2 V) (sd2 U V))/\(1<i->cy V (l1 U) (sd1 V U)/\cy V (l2 U) (sd2 V U)),⟨rfl,⟨_,_,_,rfl⟩,fun z=>absurd z (by decide),fun z=>absurd z (by decide)⟩,fun _ _ _ _ _=>rfl,?_,?_⟩
  ·rintro i d δ M' hi hd ⟨rfl,⟨o2,o3,o4,rfl⟩,p1,p2⟩;have hi:i<2:=hi;have hd:[D.tup [uw U,uw V],.tup [uw V,uw U]][i]?=some d:=hd
   have pick:∃A B,d=.tup [uw A,uw B]/\Un5 A/\Un5 B/\((cy A (l1 B) (sd1 A B)/\cy A (l2 B) (sd2 A B))->(0<i+1->cy U (l1 V) (sd1 U V)/\cy U (l2 V) (sd2 U V))/\(1<i+1->cy V (l1 U) (sd1 V U)/\cy V (l2 U) (sd2 V U))):=by
    rcases(show i=0\/i=1 by omega)with rfl|rfl
    ·cases hd;exact⟨U,V,rfl,HU,HV,fun z=>⟨fun _=>z,fun y=>absurd y (by decide)⟩⟩
    ·cases hd;exact⟨V,U,rfl,HV,HU,fun z=>⟨fun _=>p1 (by decide),fun _=>z⟩⟩
   obtain⟨A,B,rfl,HA,HB,nxt⟩:=pick;refine⟨_,rfl,rfl,_,_,rfl,_,_,rfl,rfl,?_⟩;refine⟨_,rfl,[.tup [.int B.1,.int B.2.1],.tup [.int B.2.2.1,.int B.2.2.2]],rfl,?_⟩;refine⟨fun j δ M''=>M''=M'/\(∃o4,δ=[some (uw U),some (uw V),some (uw A),some (uw B),o4,none,none])/\(0<j->cy A (l1 B) (sd1 A B))/\(1<j->cy A (l2 B) (sd2 A B)),⟨rfl,⟨_,rfl⟩,fun z=>absurd z (by decide),fun z=>absurd z (by decide)⟩,fun _ _ _ _ _=>rfl,?_,?_⟩
   ·rintro j d δ M'' hj hd ⟨rfl,⟨o4,rfl⟩,q1,q2⟩;have hj:j<2:=hj;have hd:[D.tup [.int B.1,.int B.2.1],.tup [.int B.2.2.1,.int B.2.2.2]][j]?=some d:=hd
    have pk:∃x y,d=.tup [.int x,.int y]/\(0<=x/\x<=20)/\(0<=y/\y<=20)/\(cy A (la x y) (sd A x y)->(0<j+1->cy A (l1 B) (sd1 A B))/\(1<j+1->cy A (l2 B) (sd2 A B))):=by
     rcases(show j=0\/j=1 by omega)with rfl|rfl
     ·cases hd;exact⟨_,_,rfl,HB.a,HB.b,fun z=>⟨fun _=>z,fun y=>absurd y (by decide)⟩⟩
     ·cases hd;exact⟨_,_,rfl,HB.c,HB.d,fun z=>⟨fun _=>q1 (by decide),fun _=>z⟩⟩
    obtain⟨x,y,rfl,hx,hy,nx2⟩:=pk;(try dsimp only[SD.bK,SD.bH,SD.aJ,SD.bR,SD.bO,SD.a9,SD.bg,SD.tBD,SD.bP])
    refine kb (!(decide (A.1=x/\A.2.1=y)||decide (A.2.2.1=x/\A.2.2.2=y))) (decide (l1 A<=la x y)&&decide (la x y<=l2 A)&&decide (sd A x y=0)) (fun K hK=>⟨_,rfl,_,rfl,Cw _ A x y _ _ ⟨_,rfl,hK⟩⟩) (fun _ K hK=>⟨_,rfl,_,rfl,A,x,y,rfl,rfl,HA,hx,hy,_,rfl,hK⟩) ?_;refine bj (fun _=>rtn (k false (fun z=>absurd z G6))) (fun h=>?_);exact⟨rfl,⟨_,rfl⟩,nx2 (zA HA hy (eq_false_of_ne_true h))⟩
   ·rintro δ M'' ⟨rfl,⟨o4,rfl⟩,q1,q2⟩;exact⟨rfl,⟨_,_,_,rfl⟩,nxt ⟨q1 (show 0<2 by decide),q2 (show 1<2 by decide)⟩⟩
  ·rintro δ M' ⟨rfl,⟨o2,o3,o4,rfl⟩,p1,p2⟩;exact hu _ _ ⟨rfl,⟨_,_,_,rfl⟩,p1 (show 0<2 by decide),p2 (show 1<2 by decide)⟩
 rintro δ M' ⟨rfl,⟨o2,o3,o4,rfl⟩,⟨e1,e2⟩,⟨e3,e4⟩⟩;refine⟨_,rfl,[.tup [.int V.1,.int V.2.1],.tup [.int V.2.2.1,.int V.2.2.2]],rfl,comp_map (fun j=>if j=0 then .int (HC (sd1 U V))else .int (HC (sd2 U V))) (nbL rfl) (fun _ _ _=>rfl) ?_ (fun p hp=>?_)⟩
 ·intro j e' M2 hj he' _;have hj:j<2:=hj;have he':[D.tup [.int V.1,.int V.2.1],.tup [.int V.2.2.1,.int V.2.2.2]][j]?=some e':=he';rcases(show j=0\/j=1 by omega)with rfl|rfl
  ·cases he';exact⟨_,rfl,fun K2 hK2=>⟨_,rfl,_,rfl,_,rfl,_,rfl,_,rfl,U.1,U.2.1,U.2.2.1,U.2.2.2,_,_,rfl,rfl,rfl,fG HU.a,fG HU.b,fG HU.c,fG HU.d,hK2 _ .refl⟩⟩
  ·cases he';exact⟨_,rfl,fun K2 hK2=>⟨_,rfl,_,rfl,_,rfl,_,rfl,_,rfl,U.1,U.2.1,U.2.2.1,U.2.2.2,_,_,rfl,rfl,rfl,fG HU.a,fG HU.b,fG HU.c,fG HU.d,hK2 _ .refl⟩⟩
 refine⟨_,rfl,[.tup [.int U.1,.int U.2.1],.tup [.int U.2.2.1,.int U.2.2.2]],rfl,comp_map (fun j=>if j=0 then .int (HC (sd1 V U))else .int (HC (sd2 V U))) (nbL rfl) (fun _ _ _=>rfl) ?_ (fun p2 hp2=>?_)⟩
 ·intro j e' M2 hj he' _;have hj:j<2:=hj;have he':[D.tup [.int U.1,.int U.2.1],.tup [.int U.2.2.1,.int U.2.2.2]][j]?=some e':=he';rcases(show j=0\/j=1 by omega)with rfl|rfl
  ·cases he';exact⟨_,rfl,fun K2 hK2=>⟨_,rfl,_,rfl,_,rfl,_,rfl,_,rfl,V.1,V.2.1,V.2.2.1,V.2.2.2,_,_,rfl,rfl,rfl,fG HV.a,fG HV.b,fG HV.c,fG HV.d,hK2 _ .refl⟩⟩
  ·cases he';exact⟨_,rfl,fun K2 hK2=>⟨_,rfl,_,rfl,_,rfl,_,rfl,_,rfl,V.1,V.2.1,V.2.2.1,V.2.2.2,_,_,rfl,rfl,rfl,fG HV.a,fG HV.b,fG HV.c,fG HV.d,hK2 _ .refl⟩⟩
 have n12:p≠p2:=aC ag hp2;have c1:(av (av M' p (.lst [.int (HC (sd1 U V)),.int (HC (sd2 U V))])) p2 (.lst [.int (HC (sd1 V U)),.int (HC (sd2 V U))])) p=some (.lst [.int (HC (sd1 U V)),.int (HC (sd2 U V))]):=by rw[ao n12,ag]
 (try dsimp only[SD.bK,SD.bH,SD.aJ,SD.bR,SD.bO,SD.a9,SD.bg,SD.tBD,SD.bP])
 refine orV (decide (0<=HC (sd1 U V)*HC (sd2 U V))) (decide (0<=HC (sd1 V U)*HC (sd2 V U))) (fun K hK=>⟨_,rfl,_,_,c1,rfl,_,rfl,_,_,c1,rfl,bI (BQ _),trivial,hK⟩) (fun _ K hK=>⟨_,rfl,_,_,ag,rfl,_,rfl,_,_,ag,rfl,bI (BQ _),trivial,hK⟩) ?_;refine⟨M',.new hp2 (.new hp .refl),k _ fun z=>⟨hne,e1,e2,e3,e4,?_⟩⟩;rw[JG,decide_eq_true_eq,decide_eq_true_eq]at z;exact z
theorem bu:FnScope ["_law_row","_law_most","_law_size","_law_shuts","_law_turn_here","_law_one","_law_other","_law_shut"] ["_law_row","_law_most","_law_size"] (aq fF):=by walk_at "sc"
inductive Cn_law_shuts_here(u m n:D)(M:MH)(Q:DK):Prop
 |mk (r:Addr) (x c m':Int) (_:u=.ref r) (_:m=.int m') (_:(0<=m'/\m'<=12)) (_:n=.int 5) (_:M r=some (.lst [.int x,.int c])) (_:0<=c) (_:c<1000) (_:∀(M'':MH) (x' c':Int) (l:Addr) (ws:List Wl),r≠l->M'' r=some (.lst [.int x',.int c'])->M'' l=some (.lst (ws.map uw))->0<=c'->c'<=c+140->(ws.length:Int)<=m'->(∀w∈ws,Un5 w)->PF ws->Q (.ref l) M'')
theorem jJ(T:Tx K mg):Cal P w K mg base 4 "_law_shuts_here" (sD3 Cn_law_shuts_here):=by
 refine qO (k:=3) T.f_law_shuts_here bu fun f cdv A outer s H E hr=>⟨_,(ai (ax 3 bu.nd (aW ae)) (ai (jC Ie rfl rfl T.b_range (aa (ak (aE T).m hr (aa (dv 0) (aa (ar ck (dv 1) af) ae))) ae) (aB 4 bu.nd) (ai (ax 5 bu.nd (aF (aa (ak (aE T).m hr (aa (dv 0) (aa (dv 2) ae))) (aa (ak (aE T).m hr (aa (dv 0) (aa (dv 2) ae))) ae)))) (ai (ax 6 bu.nd (aF (aa (ak (aE T).m hr (aa (dv 0) (aa (dv 2) ae))) (aa (ak (aE T).m hr (aa (dv 0) (aa (dv 2) ae))) ae)))) (ai (aL (dJ (df (aA (n8 hr.units) (dv 3) (aW ae)) (dg (aA (fU hr.units) (ak (aE T).m hr (aa (dv 0) (aa af ae))) af)))) (aj (ax 5 bu.nd (au (au (dv 3) (ak (aE T).m hr (aa (dv 0) (aa (aI tJ rfl T.b_len cz (aa (dv 3) ae)) ae)))) (ak (aE T).m hr (aa (dv 0) (aa af ae)))))) aD) (ai (ax 7 bu.nd (aF (aa (aI (uL rfl hr.units) rfl T.b_min yJ (aa (dv 5) (aa (dv 6) ae))) (aa (aI (uz rfl hr.units) rfl T.b_max yM (aa (dv 5) (aa (dv 6) ae))) ae)))) (aj (aL (dJ (df (aA (n8 hr.units) (dv 5) (dv 6)) (dg (cH (aI (xF rfl) rfl T.b_all x9 (aa (c8 (CScope.of (xs:=["_law_beside"]) (js:=[7]) rfl) rfl (cm (dv 3)) (fun _ _ _ _=>bZ) (fun _ _ _ _=>(ak (sT T).m hr (aa (dv 1) (aa (dv 0) ae))))) ae)))))) (aj (cO (bw (dv 3) (aa (dv 7) ae)))) aD))))))) (aj (ay (dv 3))))),fun _ _ _ M Q h=>?_⟩;obtain⟨r,x0,c0,m,rfl,rfl,hm,rfl,hM,hc0,hc1,k⟩:=h;refine⟨nbL rfl,fun l hl=>?_⟩;have nrl:r≠l:=aC hM hl;refine⟨_,rfl,_,rfl,r,m+1,x0,c0,rfl,rfl,(by rw[ao nrl];exact hM),hc0,by omega,by omega,cD (by omega),fun x1 v h0 h1=>?_⟩;refine⟨v.toNat,?_,by omega,fun i δ M'=>∃(x c:Int) (ws:List Wl) (o4 o5 o6 o7:Option D),δ=[some (.ref r),some (.int m),some (.int 5),some (.ref l),o4,o5,o6,o7]/\M' r=some (.lst [.int x,.int c])/\M' l=some (.lst (ws.map uw))/\0<=c/\c<=c0+1+10*i/\ws.length<=i/\(∀w∈ws,Un5 w)/\PF ws,?_,?_,?_⟩
 ·rw[Int.toNat_of_nonneg h0]
 ·refine⟨x1,c0+1,[],_,_,_,_,rfl,ag,(by rw[ao nrl.symm,ag];rfl),by omega,by omega,by decide,fun w hw=>absurd hw (by simp),Co⟩
 rotate_left
 ·rintro δ M' ⟨x,c,ws,o4,o5,o6,o7,rfl,hr',hl',g0,g1,g2,g3,g4⟩;exact⟨_,rfl,rtn (k M' x c l ws nrl hr' hl' g0 (by omega) (by omega) g3 g4)⟩
 rintro i δ M' hi ⟨x,c,ws,o4,o5,o6,o7,rfl,hr',hl',g0,g1,g2,g3,g4⟩;have hi8:i<=12:=by omega
 refine⟨_,rfl,_,rfl,r,5,x,c,rfl,rfl,hr',g0,by omega,by decide,cD (by decide),fun x1 p hp0 hp1=>?_⟩;refine⟨_,rfl,_,rfl,r,5,x1,c+1,rfl,rfl,ag,by omega,by omega,by decide,cD (by decide),fun x2 q hq0 hq1=>⟨nbL rfl,?_⟩⟩;refine⟨_,rfl,_,rfl,r,5,x2,c+1+1,rfl,rfl,ag,by omega,by omega,by decide,cD (by decide),fun x3 e he0 he1=>?_⟩;refine⟨_,rfl,_,rfl,r,5,x3,c+1+1+1,rfl,rfl,ag,by omega,by omega,by decide,cD (by decide),fun x4 f hf0 hf1=>⟨nbL rfl,?_⟩⟩;have hl4:(av (av (av (av M' r (.lst [.int x1,.int (c+1)])) r (.lst [.int x2,.int (c+1+1)])) r (.lst [.int x3,.int (c+1+1+1)])) r (.lst [.int x4,.int (c+1+1+1+1)])) l=some (.lst (ws.map uw)):=by rw[ao nrl.symm,ao nrl.symm,ao nrl.symm,ao nrl.symm];exact hl'
 have hr4:(av (av (av (av M' r (.lst [.int x1,.int (c+1)])) r (.lst [.int x2,.int (c+1+1)])) r (.lst [.int x3,.int (c+1+1+1)])) r (.lst [.int x4,.int (c+1+1+1+1)])) r=some (.lst [.int x4,.int (c+1+1+1+1)]):=ag;generalize av (av (av (av M' r (.lst [.int x1,.int (c+1)])) r (.lst [.int x2,.int (c+1+1)])) r (.lst [.int x3,.int (c+1+1+1)])) r (.lst [.int x4,.int (c+1+1+1+1)])=M4 at hl4 hr4 ⊢;(try dsimp only[SD.aJ])
 refine aV (fun δ M'=>∃(x c' p q:Int) (o7:Option D),δ=[some (.ref r),some (.int m),some (.int 5),some (.ref l),some (.int (i:Int)),some (.tup [.int p,.int q]),some (.tup [.int e,.int f]),o7]/\M' r=some (.lst [.int x,.int c'])/\M' l=some (.lst (ws.map uw))/\0<=c'/\c'<=c+10/\(0<=p/\p<=20)/\(0<=q/\q<=20)) ?_ (fun hu=>?_);rotate_left
 ·refine⟨_,rfl,nbL rfl,fun z hz=>?_⟩;have nrz:r≠z:=aC hr4 hz;have nlz:l≠z:=aC hl4 hz;have hl5:(av M4 z (.lst [])) l=some (.lst (ws.map uw)):=by rw[ao nlz];exact hl4
  have hr5:(av M4 z (.lst [])) r=some (.lst [.int x4,.int (c+1+1+1+1)]):=by rw[ao nrz];exact hr4
  refine⟨_,_,.lst hl5 (yN ws),.lst ag .nil,wG ws,rfl,_,rfl,?_⟩;rw[tD];refine bj (fun hne=>?_) (fun hnil=>?_)
  ·have hpos:0<ws.length:=by
    cases ws with
    |nil=>simp at hne
    |cons w ws=>simp
   refine⟨_,rfl,r,3,x4,c+1+1+1+1,rfl,rfl,hr5,by omega,by omega,by decide,cD (by decide),fun x5 v5 h50 h51=>⟨trivial,_,rfl,?_⟩⟩;have hl6:(av (av M4 z (.lst [])) r (.lst [.int x5,.int (c+1+1+1+1+1)])) l=some (.lst (ws.map uw)):=by rw[ao nrl.symm];exact hl5
   refine bj (fun _=>?_) (fun _=>?_)
   ·refine⟨_,rfl,_,rfl,_,rfl,_,hl6,r,((ws.map uw).length:Int),x5,c+1+1+1+1+1,rfl,rfl,ag,by omega,by omega,by simpa using hpos,cD (by simp;omega),fun x6 v6 h60 h61=>?_⟩;obtain⟨w,hw,ew⟩:=Bk (ws:=ws) h60 (by simpa using h61);have hw5:=g3 w hw;refine⟨_,_,(by rw[ao nrl.symm];exact hl6),ew,?_⟩;refine⟨_,rfl,r,2,x6,c+1+1+1+1+1+1,rfl,rfl,ag,by omega,by omega,by decide,cD (by decide),fun x7 v7 h70 h71=>?_⟩;obtain⟨a,b,ea,ha,hb⟩:=yB hw5 h70 h71;refine⟨_,ea,hu _ _ ⟨x7,_,a,b,_,rfl,ag,(by rw[ao nrl.symm,ao nrl.symm];exact hl6),by omega,by omega,ha,hb⟩⟩
   ·exact hu _ _ ⟨x5,_,p,q,_,rfl,ag,hl6,by omega,by omega,by omega,by omega⟩
  ·refine b7 rfl ?_;exact hu _ _ ⟨x4,_,p,q,_,rfl,hr5,hl5,by omega,by omega,by omega,by omega⟩
 rintro δ M5 ⟨x5,c5,p,q,o7,rfl,hr5,hl5,k0,k1,hp,hq⟩;have he:0<=e/\e<=20:=by omega
 have hf:0<=f/\f<=20:=by omega
 refine⟨_,rfl,_,rfl,[p,q],[e,f],rfl,rfl,?_⟩;refine⟨_,rfl,_,rfl,[p,q],[e,f],rfl,rfl,nbL rfl,?_⟩;refine⟨_,rfl,_,rfl,_,_,Pd.of rfl,Pd.of rfl,rfl,rfl,_,rfl,?_⟩;rw[hZ];refine bj (fun hne=>?_) (fun _=>?_);rotate_left
 ·refine b7 rfl ?_;exact⟨x5,c5,ws,_,_,_,_,rfl,hr5,hl5,k0,by omega,by omega,g3,g4⟩
 obtain⟨w,e1,e2,hw⟩:=wK hp hq he hf (fun⟨a,b⟩=>by simp[a,b]at hne);rw[e1,e2];refine⟨_,rfl,ws.map uw,hl5,?_⟩;refine⟨by simp;omega,fun z hz=>?_⟩;have nrz:r≠z:=aC hr5 hz;have nlz:l≠z:=aC hl5 hz;refine⟨fun j ys M'=>∃bs:List Bool,ys=bs.map D.bl/\bs.length=j/\(∀(t:Nat) (v:Wl),bs[t]?=some true->ws[t]?=some v->Fair w v)/\M'=av M5 z (.lst ys),⟨[],rfl,rfl,fun t v h=>by simp at h,rfl⟩,?_,?_,?_⟩
 ·rintro j ys M' _ ⟨bs,_,_,_,rfl⟩;show(av M5 z _) l=_;rw[ao nlz];exact hl5
 ·rintro j ys d M' hj hd ⟨bs,rfl,hlen,hf,rfl⟩;have hd:(ws.map uw)[j]?=some d:=hd;rw[G9]at hd;cases ev:ws[j]? with
  |none=>rw[ev]at hd;cases hd
  |some v=>
   rw[ev]at hd
   cases hd
   refine⟨_,rfl,?_⟩
   dsimp only[SD.pK]
   refine E6 ?_
   refine⟨_,rfl,_,rfl,w,v,rfl,rfl,hw,g3 v (Hh ev),fun b hb=>?_⟩
   refine⟨_,.refl,ag,bs++[b],by simp,by simp[hlen],fun t v' ht hv'=>?_,by rw[cS]⟩
   rcases Nat.lt_trichotomy t bs.length with y|y|y
   ·rw[Ig y]at ht;exact hf t v' ht hv'
   ·subst y;rw[HZ (GY _)]at ht;have hb':b=true:=by simpa using ht
    rw[hlen,ev]at hv';cases hv';exact hb hb'
   ·rw[Ip (by simp;omega)]at ht;cases ht
 rintro ys M' ⟨bs,rfl,hlen,hf,rfl⟩;have hlen':bs.length=ws.length:=by rw[hlen];simp
 have hl6:(av M5 z (.lst (bs.map D.bl))) l=some (.lst (ws.map uw)):=by rw[ao nlz];exact hl5
 have hr6:(av M5 z (.lst (bs.map D.bl))) r=some (.lst [.int x5,.int c5]):=by rw[ao nrz];exact hr5
 refine⟨bs,ag,_,rfl,?_⟩;refine bj (fun hall=>?_) (fun _=>?_)
 ·refine⟨_,rfl,l,_,rfl,hl6,_,rfl,ws.map uw,_,rfl,hl6,by simp;omega,?_⟩;refine⟨x5,c5,ws++[w],_,_,_,_,rfl,by rw[ao nrl];exact hr6,by rw[ag,Ik];rfl,k0,by omega,by simp;omega,fun v hv=>?_,wM g4 fun t v hv=>hf t v ?_ hv⟩
  ·rcases Hv.mp hv with y|y
   ·exact g3 v y
   ·rw[Hu.mp y];exact hw
  ·have ht:t<bs.length:=by rw[hlen'];exact(Hj.mp hv).1
   rw[HG ht];have:=IS.mp hall _ (List.getElem_mem ht);exact congrArg some this
 ·exact⟨x5,c5,ws,_,_,_,_,rfl,hr6,hl6,k0,by omega,by omega,g3,g4⟩
theorem cK:FnScope ["_law_row","_law_kind","_law_most","_law_bottom","_law_top"] ["_law_row"] (aq jD):=by walk_at "sc"
inductive Cn_law_number(y:D)(M:MH)(Q:DK):Prop
 |mk (r:_) (x:_) (c:_) (_:y=.ref r) (_:M r=some (.lst [.int x,.int c])) (_:0<=c) (_:c<900000) (_:∀x' q,N30 q->Q (Ma.fr q) (av M r (.lst [.int x',.int (c+3)])))
theorem jh(T:Tx K mg):Cal P w K mg base 2 "_law_number" (sD1 Cn_law_number):=by
 refine fM (k:=1) T.f_law_number cK fun f cdv A outer s H E hr=>⟨_,(ai (ax 1 cK.nd (ak (aE T).m hr (aa (dv 0) (aa af ae)))) (ai (ax 2 cK.nd (au (aW (aa af (aa af (aa af (aa (ar eZ af af) (aa (ar eZ af af) (aa af ae))))))) (dv 1))) (ai (ax 3 cK.nd (ar ck af (ak (aE T).m hr (aa (dv 0) (aa (au (aW (aa af (aa af (aa af (aa (ar eZ af af) (aa (ar cB (ar eZ af af) af) (aa af ae))))))) (dv 1)) ae))))) (ai (ax 4 cK.nd (ar ck (ar cB (ak (aE T).m hr (aa (dv 0) (aa (ar cB (ar aH af (dv 2)) af) ae))) (dv 2)) af)) (aj (ay (ak (ft T).m hr (aa (dv 4) (aa (dv 3) ae))))))))),fun _ M Q h=>?_⟩;obtain⟨r,x,c,rfl,hM,hc0,hc1,k⟩:=h;refine⟨_,rfl,r,6,x,c,rfl,rfl,hM,hc0,by omega,by decide,cD (by decide),fun x1 v hv0 hv1=>?_⟩;refine⟨⟨by decide,by decide,by decide⟩,⟨by decide,by decide,by decide⟩,nbL rfl,fun p hp=>⟨_,rfl,?_⟩⟩;obtain⟨m,em,hm⟩:=Ma.pick (xs:=[9,9,1000,10^9,10^30,30]) (P:=fun m=>1<=m/\m<=10^30) hv0 (by simpa using hv1) (by decide);have npr:r≠p:=fun e=>by subst e;rw[ag]at hp;cases hp
 refine⟨_,_,ag,em,?_⟩;refine⟨_,rfl,⟨by decide,by decide,by decide⟩,⟨by decide,by decide,by decide⟩,trivial,nbL rfl,fun p2 hp2=>⟨_,rfl,?_⟩⟩;obtain⟨b,eb,hb⟩:=Ma.pick (xs:=[6,12,1000,10^9,10^30-1,1]) (P:=fun m=>1<=m/\m<=10^30-1) hv0 (by simpa using hv1) (by decide);have npr2:r≠p2:=fun e=>by subst e;rw[ao npr,ag]at hp2;cases hp2
 refine⟨_,_,ag,eb,r,b,x1,c+1,rfl,rfl,by rw[ao npr2,ao npr,ag],by omega,by omega,by omega,(Ma.uo (by omega) (by omega)).mono (by decide),fun x2 v2 hv20 hv21=>?_⟩;refine⟨_,rfl,_,rfl,bI (by decide),trivial,r,2*m-1,x2,c+1+1,rfl,rfl,ag,by omega,by omega,by omega,(Ma.uo (by omega) (by omega)).mono (by decide),fun x3 v3 hv30 hv31=>?_⟩;refine⟨_,rfl,trivial,_,rfl,_,rfl,v3-m+1,1+v2,rfl,rfl,by omega,(Ma.uo (by omega) (by omega)).mono (by decide),(Ma.uo (by omega) (by omega)).mono (by decide),?_⟩;refine⟨_,.Ei (.same (.new hp2 (.new hp (.same .refl)))),?_⟩;rw[show c+1+1+1=c+3 from by omega];obtain⟨d1,d2⟩:=Ma.me (t:=v3-m+1) (b:=1+v2) (by omega);exact k _ _ ⟨by omega,by omega⟩
theorem kI:FnScope ["_law_word"] ["_law_word"] (aq gH):=by walk_at "sc"
inductive Cn_law_is_whole(x:D)(M:MH)(Q:DK):Prop
 |mk (z:Str) (_:x=.str z) (_:z.cps.all (· < 128)=true) (_:z.length<=900001) (_:(∀n,Wh z n->Q (.bl true) M)) (_:((∀n,¬Wh z n)->Q (.bl false) M))
theorem gK(T:Tx K mg):Cal P w K mg base 1 "_law_is_whole" (sD1 Cn_law_is_whole):=by
 refine fM (k:=0) T.f_law_is_whole kI fun f cdv A outer s H E hr=>⟨_,(ai (aL (dJ (cW (gf (qK (jP hr.units) (jP hr.units) af (aI b4 rfl T.b_len cz (aa (dv 0) ae)) af)) (de (aA (d9 hr.units) (c8 (CScope.of (xs:=["_law_sign"]) (js:=[]) rfl) rfl (xn (dv 0)) (fun _ _ _ _=>(vb (aA (jL (qd hr)) (dv 0) aG (by with_unfolding_all rfl)))) (fun _ _ _ _=>(dv 0))) (aW ae))))) (aj (ay jo)) aD) (aj (ay (ue (bX (br hr.units) (dv 0) aG) (iW (bX (d9 hr.units) (aS (dv 0) af) aG)))))),fun _ M Q h=>?_⟩;obtain⟨z,rfl,asc,hl,k,k'⟩:=h;have sz:1000000<=GX:=nbL rfl;have no:(∀n,¬Wh z n)->∀{M'},SD.Sub M M'->Ret Q (.bl false) M':=fun h {M'} sb=>⟨M,sb,k' h⟩;refine⟨_,rfl,by omega,trivial,_,rfl,?_⟩;refine bj (fun l1=>?_) (fun l1=>?_);rotate_left
 ·exact⟨_,rfl,bJ rfl (bJ rfl (no (fun n h=>by have:=h.pos;exact l1 (decide_eq_true (by omega))) .refl))⟩
 have l1:1<=z.length:=by have:=of_decide_eq_true l1;omega
 refine⟨trivial,_,rfl,?_⟩;refine bj (fun l2=>?_) (fun l2=>?_)
 ·refine bJ rfl (no (fun n h=>?_) .refl);have:=h.len;dsimp only at l2;rw[decide_eq_true (show(z.length:Int)<=30 by omega)]at l2;cases l2
 have l2:z.length<=30:=by
  have l2:(z.length:Int)<=30:=by simpa using l2
  omega
 let nf:Nat->Option Str:=fun c=>if c∈(G1 "0123456789").cps.toList then none else some ⟨#[c]⟩
 refine⟨_,rfl,z,rfl,asc,uP (fun i=>((z.cps.toList[i]?).bind nf).map D.str) (by show z.cps.size<=1000000;have:z.cps.size=z.length:=rfl;omega) (fun _ _ _=>trivial) ?_ (fun p hp=>?_)⟩
 ·intro i d M2 hi hd sb;have hd:(z.cps[i]?).map (fun c=>D.str ⟨#[c]⟩)=some d:=hd;cases ec:z.cps[i]? with
  |none=>rw[ec]at hd;cases hd
  |some c=>
   rw[ec]at hd
   cases hd
   have ec':z.cps.toList[i]?=some c:=by rw[Array.getElem?_toList,ec]
   refine⟨_,rfl,fun K hK=>⟨_,rfl,c,rfl,_,rfl,?_⟩,fun e he K hK=>?_⟩
   ·rw[ec',HD]at hK;by_cases q:c∈(G1 "0123456789").cps.toList
    ·rw[decide_eq_true q];rw[show nf c=none from if_pos q]at hK;exact hK
    ·rw[decide_eq_false q];rw[show nf c=some _ from if_neg q]at hK;exact hK
   ·rw[ec',HD]at he
    have:e=.str ⟨#[c]⟩:=by
     by_cases q:c∈(G1 "0123456789").cps.toList
     ·rw[show nf c=none from if_pos q]at he;cases he
     ·rw[show nf c=some _ from if_neg q]at he;exact(Option.some.inj he).symm
    subst this;exact⟨_,rfl,hK _ .refl⟩
 have el:(HF z.cps.size).filterMap (fun i=>((z.cps.toList[i]?).bind nf).map D.str)=(z.cps.toList.filterMap nf).map D.str:=by rw[<-xK nf z.cps.toList,List.map_filterMap];rfl
 dsimp only;rw[el]
 have okc:∀x∈z.cps.toList.filterMap nf,J6 x=true:=fun x hx=>by
  obtain⟨c,hc,e⟩:=J3.mp hx;by_cases q:c∈(G1 "0123456789").cps.toList
  ·rw[show nf c=none from if_pos q]at e;cases e
  ·rw[show nf c=some _ from if_neg q]at e;cases e;refine tx (b5 (x:=z) asc fun d hd=>?_);have:d=c:=by simpa using hd
   rw[this];exact hc
 refine⟨nbL rfl,fun p2 hp2=>ne_nil (by rw[ao (aC ag hp2)];exact ag) ag okc ⟨_,rfl,?_⟩⟩;have fin:∀{M'} {d},SD.Sub M M'->Q d M->Ret Q d M':=fun{M' d} sb q=>⟨M,sb,q⟩;have sb2:SD.Sub M (av (av M p (.lst ((z.cps.toList.filterMap nf).map D.str))) p2 (.lst [])):=.new hp2 (.new hp .refl);refine bj (fun a=>?_) (fun a=>?_)
 ·refine no (fun n h=>?_) sb2;have a:z.cps.toList.filterMap nf≠[]:=by simpa using a
  obtain⟨x,hx⟩:=List.exists_mem_of_ne_nil _ a;obtain⟨c,hc,e⟩:=J3.mp hx;have:=h.dig hc;rw[show nf c=none from if_pos (by rw[qi];exact List.mem_range'_1.mpr (show 48<=c/\c<48+10 by omega))]at e;cases e
 have a:z.cps.toList.filterMap nf=[]:=by simpa using a
 have dig:∀c∈z.cps.toList,48<=c/\c<=57:=fun c hc=>by
  by_cases q:c∈(G1 "0123456789").cps.toList
  ·rw[qi]at q;have:=List.mem_range'_1.mp (show c∈List.range' 48 10 from q);omega
  ·have:(⟨#[c]⟩:Str)∈z.cps.toList.filterMap nf:=J3.mpr ⟨c,hc,if_neg q⟩;rw[a]at this;cases this
 have hat:atI z.cps.toList ((0:Nat):Int)=z.cps.toList[0]?:=gR _;cases e0:z.cps.toList[0]? with
 |none=>rw[List.getElem?_eq_none_iff,<-ba]at e0;omega
 |some c0=>
  rw[e0]at hat
  (try dsimp only[SD.bK,SD.bH,SD.aJ,SD.bR,SD.bO,SD.a9,SD.bg,SD.tBD,SD.bP])
  by_cases hz:z=⟨#[48]⟩
  ·obtain⟨n,hn⟩:=vq l1 l2 dig (fun _=>hz);refine orV true true (fun K hK=>⟨_,rfl,?_⟩) (fun h=>nomatch h) (fin sb2 (k n hn));show K (.bl (decide (z=G1 "0"))) _;rw[fh,decide_eq_true hz];exact hK
  ·by_cases h0:c0=48
   ·subst h0;refine orV false false (fun K hK=>⟨_,rfl,?_⟩) (fun _ K hK=>⟨_,rfl,by omega,_,hat,?_⟩) (no (fun n h=>hz (h.head e0)) sb2)
    ·show K (.bl (decide (z=G1 "0"))) _;rw[fh,decide_eq_false hz];exact hK
    ·show K (.bl (!decide ((⟨#[48]⟩:Str)=G1 "0"))) _;rw[fh,decide_eq_true rfl];exact hK
   ·obtain⟨n,hn⟩:=vq l1 l2 dig (fun q=>absurd (Option.some.inj (e0.symm.trans q)) h0);refine orV false true (fun K hK=>⟨_,rfl,?_⟩) (fun _ K hK=>⟨_,rfl,by omega,_,hat,?_⟩) (fin sb2 (k n hn))
    ·show K (.bl (decide (z=G1 "0"))) _;rw[fh,decide_eq_false hz];exact hK
    ·show K (.bl (!decide ((⟨#[c0]⟩:Str)=G1 "0"))) _;rw[fh,decide_eq_false (fun z=>h0 (by have:=congrArg (fun x:Str=>x.cps.toList) z;simpa using this))];exact hK
theorem cx:FnScope ["_law_word","_law_parts","_law_top","_law_bottom"] ["_law_word"] (aq gT):=by walk_at "sc"
inductive Cn_law_fraction(x:D)(M:MH)(Q:DK):Prop
 |mk (z:Str) (_:x=.str z) (_:z.cps.all (· < 128)=true) (_:z.length<=900001) (_:∀M',SD.Sub M M'->Q (opF (rdq z)) M')
theorem gA(T:Tx K mg):Cal P w K mg base 2 "_law_fraction" (sD1 Cn_law_fraction):=by
 refine fM (k:=1) T.f_law_fraction cx fun f cdv A outer s H E hr=>⟨_,(ai (ax 1 cx.nd (cQ (dv 0) (aa aG ae))) (ai (ax 2 cx.nd (aS (dv 1) af)) (ai (aL (aA (br hr.units) (aP (dv 2) bh (aZ af)) aG) (aj (ax 2 cx.nd (aP (dv 2) (aZ af) bh))) aD) (ai (aL (dJ (cW (aA (fU hr.units) (aI b4 rfl T.b_len cz (aa (dv 1) ae)) af) (cW (gf (cH (ak (gK T).m hr (aa (dv 2) ae)))) (de (aA (br hr.units) (aS (dv 1) af) aG))))) (aj (ay aU)) aD) (ai (ax 3 cx.nd (aS (ar aM (dv 1) (aW (aa aG ae))) af)) (ai (aL (dJ (cW (gf (cH (ak (gK T).m hr (aa (dv 3) ae)))) (cW (aA (br hr.units) (aT dZ rfl T.b_int dj (aa (dv 3) ae)) af) (de (dJ (df (aA (br hr.units) (aI b4 rfl T.b_len cz (aa (dv 1) ae)) af) (dg (aA (br hr.units) (dv 3) aG)))))))) (aj (ay aU)) aD) (ai (aL (aA (d9 hr.units) (ak (ft T).m hr (aa (aT dZ rfl T.b_int dj (aa (dv 2) ae)) (aa (aT dZ rfl T.b_int dj (aa (dv 3) ae)) ae))) (aF (aa (aT dZ rfl T.b_int dj (aa (dv 2) ae)) (aa (aT dZ rfl T.b_int dj (aa (dv 3) ae)) ae)))) (aj (ay aU)) aD) (aj (ay (aF (aa (aT dZ rfl T.b_int dj (aa (aS (dv 1) af) ae)) (aa (aT dZ rfl T.b_int dj (aa (dv 3) ae)) ae)))))))))))),fun _ M Q h=>?_⟩;obtain⟨z,rfl,asc,hl,k⟩:=h;have sz:1000000<=GX:=nbL rfl;obtain⟨f1,f2⟩:=cU 47 z
 obtain⟨t,rest,ew⟩:∃t rest,HN z ⟨#[47]⟩=t::rest:=by
  cases e:HN z ⟨#[47]⟩with
  |nil=>exact absurd e (dh z 47)
  |cons a b=>exact⟨a,b,rfl⟩
 rw[ew]at f1 f2;obtain⟨g1,g2⟩:=f2 t Hx;refine⟨_,rfl,_,rfl,by omega,_,rfl,(by rw[eR];rfl),fun p0 hp0=>?_⟩;rw[eR,ew];have sb:SD.Sub M (av M p0 (.lst ((t::rest).map D.str))):=.new hp0 .refl;have hm:av M p0 (.lst ((t::rest).map D.str)) p0=some (.lst ((t::rest).map D.str)):=ag;generalize av M p0 (.lst ((t::rest).map D.str))=M1 at sb hm;have at0:atI ((t::rest).map D.str) 0=some (.str t):=gR _;refine⟨_,rfl,_,_,hm,at0,?_⟩;(try dsimp only[SD.aJ])
 have none_:rdq z=none->∀{M'},SD.Sub M M'->Ret Q .non M':=fun h {M'} s=>⟨M',.refl,by have:=k M' s;rw[h]at this;exact this⟩;refine aV (fun δ M'=>M'=M1/\∃tp,Top t tp/\tp.length<=900001/\tp.cps.all (· < 128)=true/\δ=[some (.str z),some (.ref p0),some (.str tp),none]) ?_ (fun hu=>?_);rotate_left
 ·refine⟨_,rfl,_,rfl,by omega,_,rfl,?_⟩;cases et:t.cps.toList with
  |nil=>
   have n1:t.cps.toList[0]?≠some 45:=by rw[et];simp
   refine b7 (decide_eq_false fun e=>?_) (hu _ _ ⟨rfl,t,⟨fun h=>absurd h n1,fun _=>rfl⟩,by omega,b5 asc g2,rfl⟩)
   have a:=congrArg (fun x:Str=>x.cps.toList) e
   rw[kR]at a
   have:(45:Nat)∈t.cps.toList:=nV _ (by rw[a];simp)
   rw[et]at this
   cases this
  |cons c r=>
   rw[tN et,kR]
   by_cases hc:c=45
   ·subst hc;refine bJ (decide_eq_true rfl) ⟨_,rfl,_,rfl,by omega,?_⟩;have er:(Str.mk r.toArray).cps.toList=r:=by simp
    rw[lW (x:=t) (y:=Str.mk r.toArray) (c:=45) (by rw[et,er])];refine hu _ _ ⟨rfl,_,⟨fun _=>by rw[et,er],fun h=>absurd (by rw[et];rfl) h⟩,?_,?_,rfl⟩
    ·rw[ba,er];rw[ba,et]at g1;simp at g1;omega
    ·exact b5 asc (fun d hd=>g2 d (by rw[et];rw[er]at hd;exact GZ _ hd))
   ·have n1:t.cps.toList[0]?≠some 45:=by rw[et];simpa using hc
    exact b7 (decide_eq_false fun e=>hc (by have:=congrArg (fun x:Str=>x.cps.toList) e;simpa using this)) (hu _ _ ⟨rfl,t,⟨fun h=>absurd h n1,fun _=>rfl⟩,by omega,b5 asc g2,rfl⟩)
 rintro δ M' ⟨rfl,tp,T0,lt,at',rfl⟩;have lr:((t::rest).map D.str).length=rest.length+1:=by simp
 have no1:(∀n,¬Wh tp n)->rdq z=none:=fun h=>jW fun q hq e=>by
  have:t=iT q.num:=by
   by_cases d:(q.den:Int)=1
   ·rw[e,dF d]at ew;exact(List.cons.inj ew).1.symm
   ·rw[e,ee d]at ew;exact(List.cons.inj ew).1.symm
  rw[this]at T0
  exact h _ (T0.Er hq.1)
 have no2:1<rest.length->rdq z=none:=fun h=>jW fun q hq e=>by
  by_cases d:(q.den:Int)=1
  ·rw[e,dF d]at ew;rw[<-(List.cons.inj ew).2]at h;simp at h
  ·rw[e,ee d]at ew;rw[<-(List.cons.inj ew).2]at h;simp at h
 have no3:t=G1 "-0"->rdq z=none:=fun h=>jW fun q hq e=>by
  have:t=iT q.num:=by
   by_cases d:(q.den:Int)=1
   ·rw[e,dF d]at ew;exact(List.cons.inj ew).1.symm
   ·rw[e,ee d]at ew;exact(List.cons.inj ew).1.symm
  exact Di _ (this.symm.trans h)
 (try dsimp only[SD.aJ])
 refine aV (fun δ M2=>M2=M'/\δ=[some (.str z),some (.ref p0),some (.str tp),none]/\rest.length<=1/\(∃n,Wh tp n)/\t≠G1 "-0") ?_ (fun hu=>?_);rotate_left
 ·(try dsimp only[SD.bK,SD.bH,SD.aJ,SD.bR,SD.bO,SD.a9,SD.bg,SD.tBD,SD.bP])
  by_cases h1:1<rest.length
  ·refine orT true true (fun K hK=>⟨_,rfl,_,hm,trivial,_,rfl,?_⟩) (fun h=>nomatch h) (bJ rfl (none_ (no2 h1) sb));dsimp only;rw[decide_eq_true (by rw[lr];omega)];exact hK
  ·have len1:∀{K:Bool->MH->Prop},K false M'->K ((fun i j:Int=>decide (j<i)) (((t::rest).map D.str).length:Int) 2) M':=fun{K} hK=>by dsimp only;rw[decide_eq_false (by rw[lr];omega)];exact hK
   by_cases h2:∃n,Wh tp n
   ·have wh:∀{K:Bool->MH->Prop},K false M'->(sD1 Cn_law_is_whole) [.str tp] M' fun x M1=>IsBl x M1 fun b M1=>K (!b) M1:=fun{K} hK=>⟨_,rfl,at',lt,fun _ _=>⟨_,rfl,hK⟩,fun h=>absurd h2 (by rintro⟨n,hn⟩;exact h n hn)⟩;by_cases h3:t=G1 "-0"
    ·refine orT false true (fun K hK=>⟨_,rfl,_,hm,trivial,_,rfl,len1 hK⟩) (fun _ K hK=>orT false true (fun K' hK'=>⟨_,rfl,wh hK'⟩) (fun _ K' hK'=>⟨_,rfl,_,_,hm,at0,_,rfl,?_⟩) hK) (bJ rfl (none_ (no3 h3) sb));rw[decide_eq_true h3];exact hK'
    ·refine orT false false (fun K hK=>⟨_,rfl,_,hm,trivial,_,rfl,len1 hK⟩) (fun _ K hK=>orT false false (fun K' hK'=>⟨_,rfl,wh hK'⟩) (fun _ K' hK'=>⟨_,rfl,_,_,hm,at0,_,rfl,?_⟩) hK) (b7 rfl (hu _ _ ⟨rfl,rfl,by omega,h2,h3⟩));rw[decide_eq_false h3];exact hK'
   ·have h2':∀n,¬Wh tp n:=fun n hn=>h2 ⟨n,hn⟩;exact orT false true (fun K hK=>⟨_,rfl,_,hm,trivial,_,rfl,len1 hK⟩) (fun _ K hK=>orT true true (fun K' hK'=>⟨_,rfl,_,rfl,at',lt,fun n hn=>absurd hn (h2' n),fun _=>⟨_,rfl,hK'⟩⟩) (fun h=>nomatch h) hK) (bJ rfl (none_ (no1 h2') sb))
 rintro δ M2 ⟨rfl,rfl,r1,⟨n,hn⟩,t0⟩;obtain⟨a,ta,an⟩:=T0.iT hn t0;have n30:=hn.2
 obtain⟨bt,hb⟩:∃bt:Str,(rest=[]/\bt=G1 "1")\/rest=[bt]:=by
  match rest,r1 with
  |[],_=>exact⟨_,.inl ⟨rfl,rfl⟩⟩
  |[b],_=>exact⟨b,.inr rfl⟩
 have ab:bt.cps.all (· < 128)=true/\bt.length<=900001:=by
  rcases hb with⟨_,e⟩|e
  ·rw[e];exact⟨by decide +kernel,by decide +kernel⟩
  ·have:=f2 bt (by rw[e];simp);exact⟨b5 asc this.2,by omega⟩
 have at1:atI (((t::rest).map D.str)++[D.str "1"]) 1=some (.str bt):=by
  rcases hb with⟨e1,e2⟩|e
  ·rw[e1,e2];rfl
  ·rw[e];rfl
 (try dsimp only[SD.aJ])
 refine aV (fun δ M3=>SD.Sub M2 M3/\δ=[some (.str z),some (.ref p0),some (.str tp),some (.str bt)]) ?_ (fun hu=>?_);rotate_left
 ·refine⟨_,rfl,nbL rfl,fun p1 hp1=>?_⟩;exact⟨_,_,(SD.Sub.new hp1 .refl) _ _ hm,ag,(by rw[lr];show _+1<=_;omega),fun p2 hp2=>⟨_,_,ag,at1,hu _ _ ⟨.new hp2 (.new hp1 .refl),rfl⟩⟩⟩
 rintro δ M3 ⟨s3,rfl⟩;have sb3:=sb.trans s3;have hm3:=s3 _ _ hm
 have noB:rest=[bt]->(∀q:Rat,N30 q->bt=iT (q.den:Int)->¬(q.den:Int)=1->False)->rdq z=none:=fun e h=>jW fun q hq ez=>by
  rw[e]at ew;by_cases d:(q.den:Int)=1
  ·rw[ez,dF d]at ew;cases ew
  ·rw[ez,ee d]at ew;exact h q hq (List.cons.inj (List.cons.inj ew).2).1.symm d
 (try dsimp only[SD.aJ])
 refine aV (fun δ M4=>M4=M3/\δ=[some (.str z),some (.ref p0),some (.str tp),some (.str bt)]/\∃m,Wh bt m/\m≠0/\(rest=[bt]->bt≠G1 "1")) ?_ (fun hu=>?_);rotate_left
 ·(try dsimp only[SD.bK,SD.bH,SD.aJ,SD.bR,SD.bO,SD.a9,SD.bg,SD.tBD,SD.bP])
  by_cases h1:∃m,Wh bt m
  ·obtain⟨m,wb⟩:=h1;have lb:=wb.len;have wh:∀{K:Bool->MH->Prop},K false M3->(sD1 Cn_law_is_whole) [.str bt] M3 fun x M1=>IsBl x M1 fun b M1=>K (!b) M1:=fun{K} hK=>⟨_,rfl,ab.1,ab.2,fun _ _=>⟨_,rfl,hK⟩,fun h=>absurd wb (h m)⟩;by_cases h2:m=0
   ·refine orT false true (fun K hK=>⟨_,rfl,wh hK⟩) (fun _ K hK=>orT true true (fun K' hK'=>⟨_,rfl,_,wb.read,by omega,_,rfl,?_⟩) (fun h=>nomatch h) hK) (bJ rfl (none_ ?_ sb3))
    ·rw[decide_eq_true (by omega)];exact hK'
    ·rcases hb with⟨_,e⟩|e
     ·rw[e]at wb;have:=dm.mp wb;omega
     ·refine noB e fun q hq eb d=>?_;have:=dw wb.2 hq.2 (by rw[<-wb.1,eb,du]);have:=q.den_pos;omega
   ·have int0:∀{K:Bool->MH->Prop},K false M3->K (decide ((m:Int)=0)) M3:=fun{K} hK=>by rw[decide_eq_false (by omega)];exact hK
    by_cases h3:rest=[bt]/\bt=G1 "1"
    ·refine orT false true (fun K hK=>⟨_,rfl,wh hK⟩) (fun _ K hK=>orT false true (fun K' hK'=>⟨_,rfl,_,wb.read,by omega,_,rfl,int0 hK'⟩) (fun _ K' hK'=>kb true true (fun K2 hK2=>⟨_,rfl,_,hm3,_,rfl,?_⟩) (fun _ K2 hK2=>⟨_,rfl,_,rfl,?_⟩) hK') hK) (bJ rfl (none_ ?_ sb3))
     ·rw[decide_eq_true (by rw[lr,h3.1];rfl)];exact hK2
     ·rw[decide_eq_true h3.2];exact hK2
     ·refine noB h3.1 fun q hq eb d=>d ?_;rw[h3.2]at wb;have m1:=dm.mp wb;have:=dw (m:=q.den) (n:=1) (by decide) hq.2 (by rw[<-du q.den,<-eb,h3.2];exact(dm.mpr rfl).1.symm);omega
    ·have go:=hu _ _ ⟨rfl,rfl,m,wb,h2,fun e q=>h3 ⟨e,q⟩⟩;by_cases h4:rest=[bt]
     ·refine orT false false (fun K hK=>⟨_,rfl,wh hK⟩) (fun _ K hK=>orT false false (fun K' hK'=>⟨_,rfl,_,wb.read,by omega,_,rfl,int0 hK'⟩) (fun _ K' hK'=>kb true false (fun K2 hK2=>⟨_,rfl,_,hm3,_,rfl,?_⟩) (fun _ K2 hK2=>⟨_,rfl,_,rfl,?_⟩) hK') hK) (b7 rfl go)
      ·rw[decide_eq_true (by rw[lr,h4];rfl)];exact hK2
      ·rw[decide_eq_false (fun q=>h3 ⟨h4,q⟩)];exact hK2
     ·refine orT false false (fun K hK=>⟨_,rfl,wh hK⟩) (fun _ K hK=>orT false false (fun K' hK'=>⟨_,rfl,_,wb.read,by omega,_,rfl,int0 hK'⟩) (fun _ K' hK'=>kb false false (fun K2 hK2=>⟨_,rfl,_,hm3,_,rfl,?_⟩) (fun h=>nomatch h) hK') hK) (b7 rfl go);have e:rest=[]:=by rcases hb with⟨e,_⟩|e;exact e;exact absurd e h4
      rw[decide_eq_false (by rw[lr,e];decide)];exact hK2
  ·have h1':∀m,¬Wh bt m:=fun m h=>h1 ⟨m,h⟩;refine orT true true (fun K hK=>⟨_,rfl,_,rfl,ab.1,ab.2,fun m h=>absurd h (h1' m),fun _=>⟨_,rfl,hK⟩⟩) (fun h=>nomatch h) (bJ rfl (none_ ?_ sb3));rcases hb with⟨_,e⟩|e
   ·exact absurd (by rw[e];exact dm.mpr rfl) (h1' 1)
   ·exact noB e fun q hq eb d=>h1' q.den ⟨by rw[eb,du],hq.2⟩
 rintro δ M4 ⟨rfl,rfl,m,wb,m0,b1⟩;have lb:=wb.len;have ln:=hn.len;have bn:Bd 8000 (n:Int):=(b30 (show((n:Nat):Int).natAbs<10^30 by omega)).mono (by decide);have bm:Bd 8000 (m:Int):=(b30 (show((m:Nat):Int).natAbs<10^30 by have:=wb.2;omega)).mono (by decide);refine⟨_,rfl,_,hn.read,by omega,_,rfl,_,wb.read,by omega,_,_,rfl,rfl,by omega,bn,bm,?_⟩;refine⟨_,rfl,_,hn.read,by omega,_,rfl,_,wb.read,by omega,nbL rfl,_,_,Pd.of rfl,Pd.of rfl,rfl,rfl,_,rfl,?_⟩;rw[hZ];have la:(iT a).length<=640:=by have:=fV (k:=29) (show a.natAbs<10^(29+1) by omega);omega
 have at0:atI ((t::rest).map D.str) 0=some (.str (iT a)):=at0.trans (by rw[ta]);have ra:=zZ (a:=a) (by omega);refine bj (fun c=>?_) (fun c=>?_)
 ·refine none_ ?_ sb3;have c:¬((Rat.divInt (n:Int) (m:Int)).num=n/\((Rat.divInt (n:Int) (m:Int)).den:Int)=m):=by rw[Il,decide_eq_false_iff_not]at c;exact c
  rcases hb with⟨_,e⟩|e
  ·rw[e]at wb;have m1:=dm.mp wb;subst m1;exact absurd (by rw[show Rat.divInt (n:Int) ((1:Nat):Int)=((n:Int):Rat)from FU n];simp) c
  ·rw[ug (tp:=tp) (by rw[ew,e]) ta an n30 wb m0 (b1 e),if_neg c]
 ·have c:((Rat.divInt (n:Int) (m:Int)).num=n/\((Rat.divInt (n:Int) (m:Int)).den:Int)=m):=by rw[Bool.not_eq_true,Bool.not_eq_false',decide_eq_true_iff]at c;exact c
  refine⟨_,rfl,_,_,hm3,at0,_,ra,la,_,rfl,_,wb.read,by omega,nbL rfl,?_⟩;have kk:=k M4 sb3;rcases hb with⟨e0,e⟩|e
  ·rw[e]at wb;have m1:=dm.mp wb;subst m1;have hz:z=t:=by rw[<-JB z ⟨#[47]⟩,ew,e0];rfl
   have d1:((a:Rat).den:Int)=1:=by simp
   rw[iN (q:=(a:Rat)) ⟨by simp;omega,by simp⟩ (by rw[eA d1,hz,ta];simp)]at kk;have kk:Q (.tup [.int (a:Rat).num,.int ((a:Rat).den:Int)]) M4:=kk;rw[d1]at kk;exact rtn (by simpa using kk)
  ·have c':=(lj an).mp c;rw[ug (tp:=tp) (by rw[ew,e]) ta an n30 wb m0 (b1 e),if_pos c]at kk;have kk:Q (.tup [.int (Rat.divInt a m).num,.int ((Rat.divInt a m).den:Int)]) M4:=kk;rw[c'.1,c'.2]at kk;exact rtn kk
theorem bE:FnScope ["_law_line","_law_words","_law_found","_law_one","_law_two","_law_three","_law_four"] ["_law_line"] (aq iI):=by walk_at "sc"
inductive Cn_law_shut_in(x:D)(M:MH)(Q:DK):Prop
 |mk (z:Str) (_:x=.str z) (_:z.cps.all (· < 128)=true) (_:z.length<=900000) (_:∀M',SD.Sub M M'->Q (opW (rdo z)) M')
theorem iF(T:Tx K mg):Cal P w K mg base 3 "_law_shut_in" (sD1 Cn_law_shut_in):=by
 refine fM (k:=2) T.f_law_shut_in bE fun f cdv A outer s H E hr=>⟨_,(ai (ax 1 bE.nd (cQ (dv 0) (aa aG ae))) (ai (eo 2 bE.nd (CScope.of (xs:=["_law_word"]) (js:=[]) rfl) rfl (cm (aP (dv 1) (aZ af) bh)) (fun _ _ _ _=>bZ) (fun _ _ _ _=>(ak (gA T).m hr (aa (dv 0) ae)))) (ai (aL (dJ (cW (aA (d9 hr.units) (aS (dv 1) af) aG) (cW (aA (d9 hr.units) (aI b4 rfl T.b_len cz (aa (dv 1) ae)) af) (de (aA (uh (qd hr)) aU (dv 2) (by with_unfolding_all rfl)))))) (aj (ay aU)) aD) (ai (cI (dv 2) (yK rfl (aw (aB 3 bE.nd) (aw (aB 4 bE.nd) (aw (aB 5 bE.nd) (aw (aB 6 bE.nd) aX)))))) (ai (aL (aA (br hr.units) (dv 3) (dv 5)) (aj (fo 3 5 rfl bE.nd (aa (dv 4) (aa (dv 6) ae)))) aD) (ai (aL (aA (j9 hr.units) (ar aH (aS (dv 3) af) (aS (dv 5) af)) (ar aH (aS (dv 5) af) (aS (dv 3) af))) (aj (ay aU)) aD) (aj (ay (aF (aa (aF (aa (aS (dv 2) af) (aa (aS (dv 2) af) ae))) (aa (aF (aa (aS (dv 2) af) (aa (aS (dv 2) af) ae))) ae))))))))))),fun _ M Q h=>?_⟩;obtain⟨z,rfl,asc,hl,k⟩:=h;have sz:1000000<=GX:=nbL rfl;obtain⟨f1,f2⟩:=cU 32 z
 obtain⟨wd,ws,ew⟩:∃wd ws,HN z ⟨#[32]⟩=wd::ws:=by
  cases e:HN z ⟨#[32]⟩with
  |nil=>exact absurd e (dh z 32)
  |cons a b=>exact⟨a,b,rfl⟩
 have iff:=ip ew;rw[ew]at f1 f2;have lw:ws.length<=900000:=by simp at f1;omega
 refine⟨_,rfl,_,rfl,by omega,_,rfl,(by rw[dG];rfl),fun p0 hp0=>?_⟩;rw[dG,ew];have ct:cutD (Ir D.str (wd::ws)) (some 1) none=ws.map D.str:=qV _ _;refine⟨_,rfl,_,rfl,_,ag,fun p1 hp1=>?_⟩;rw[ct];refine⟨_,ag,comp_map (fun i=>opF ((ws[i]?).bind rdq)) (by show(Ir D.str ws).length<=_;rw[G4];omega) (fun p ys hp=>?_) ?_ (fun p2 hp2=>?_)⟩
 ·show(av _ p _) p1=_;rw[ao (aC ag hp)];exact ag
 ·intro j e M3 hj he sb3;have he:(ws.map D.str)[j]?=some e:=he;rw[G9]at he;cases ej:ws[j]? with
  |none=>rw[ej]at he;cases he
  |some x=>
   rw[ej]at he
   cases he
   obtain⟨g1,g2⟩:=f2 x (GZ _ (Hh ej))
   refine⟨_,rfl,fun K2 hK2=>⟨_,rfl,x,rfl,b5 asc g2,by omega,fun M' s'=>?_⟩⟩
   rw[HD]at hK2
   exact hK2 M' s'
 have hlen:(Ir D.str ws).length=ws.length:=G4 ..
 have mp:(HF (Ir D.str ws).length).map (fun i=>opF ((ws[i]?).bind rdq))=(ws.map rdq).map opF:=by
  rw[hlen,Jr];refine List.ext_getElem? fun i=>?_;rw[G9,G9];by_cases hi:i<ws.length
  ·rw[List.getElem?_range hi,HG hi];simp[hi]
  ·rw[Ip (by simpa using hi),Ip (by simpa using hi)];rfl
 dsimp only;rw[mp];have hm0:(av (av (av M p0 (.lst ((wd::ws).map D.str))) p1 (.lst (ws.map D.str))) p2 (.lst ((ws.map rdq).map opF))) p0=some (.lst ((wd::ws).map D.str)):=by rw[ao (aC ((SD.Sub.new hp1 .refl) _ _ ag) hp2),ao (aC ag hp1)];exact ag
 have sb0:SD.Sub M (av (av (av M p0 (.lst ((wd::ws).map D.str))) p1 (.lst (ws.map D.str))) p2 (.lst ((ws.map rdq).map opF))):=.new hp2 (.new hp1 (.new hp0 .refl));have hm2:(av (av (av M p0 (.lst ((wd::ws).map D.str))) p1 (.lst (ws.map D.str))) p2 (.lst ((ws.map rdq).map opF))) p2=some (.lst ((ws.map rdq).map opF)):=ag;generalize av (av (av M p0 (.lst ((wd::ws).map D.str))) p1 (.lst (ws.map D.str))) p2 (.lst ((ws.map rdq).map opF))=M2 at sb0 hm2 hm0;have at0:atI ((wd::ws).map D.str) 0=some (.str wd):=gR _;have l2:((wd::ws).map D.str).length=ws.length+1:=by simp
 have none_:rdo z=none->Ret Q .non M2:=fun h=>⟨M2,.refl,by have:=k M2 sb0;rw[h]at this;exact this⟩;(try dsimp only[SD.aJ])
 refine aV (fun δ M'=>M'=M2/\δ=[some (.str z),some (.ref p0),some (.ref p2),none,none,none,none]/\∃U,rdr z=some U) ?_ (fun hu=>?_);rotate_left
 ·(try dsimp only[SD.bK,SD.bH,SD.aJ,SD.bR,SD.bO,SD.a9,SD.bg,SD.tBD,SD.bP])
  refine orT (!decide (wd=G1 "wall")) (!decide ((ws.length:Int)+1=5)||(ws.map rdq).any (fun o=>o.isNone)) (fun K hK=>⟨_,rfl,_,_,hm0,at0,_,rfl,hK⟩) (fun _ K hK=>?_) ?_
  ·refine orT _ _ (fun K' hK'=>⟨_,rfl,_,hm0,_,rfl,?_⟩) (fun _ K' hK'=>?_) hK
   ·rw[l2];exact hK'
   ·refine⟨_,rfl,_,_,.non,.inl (.lst hm2 (jg _)),rfl,jw _,_,rfl,?_⟩;rw[jB];exact hK'
  refine bj (fun hc=>?_) (fun hc=>?_)
  ·refine none_ (tu ?_);cases er:rdr z with
   |none=>rfl
   |some U=>
    obtain⟨e1,e2⟩:=(iff U).mp er
    have e3:ws.length=4:=by have:=congrArg List.length e2;simpa using this
    rw[e1,e2,e3]at hc
    simp at hc
  ·obtain⟨c1,c2,c3⟩:wd=G1 "wall"/\ws.length=4/\(ws.map rdq).any (fun o=>o.isNone)=false:=by simp only[JG,not_or,Bool.not_eq_true,Bool.not_eq_false',decide_eq_true_eq]at hc;exact⟨hc.1,by have:=hc.2.1;omega,hc.2.2⟩
   obtain⟨U,eU⟩:∃U:RW,ws.map rdq=[some U.1,some U.2.1,some U.2.2.1,some U.2.2.2]:=by
    match ws,c2,c3 with
    |[x1,x2,x3,x4],_,c3=>
     cases e1:rdq x1<;>cases e2:rdq x2<;>cases e3:rdq x3<;>cases e4:rdq x4<;>simp[e1,e2,e3,e4]at c3
     rename_i a b c d
     exact⟨(a,b,c,d),by simp[e1,e2,e3,e4]⟩
   exact hu _ _ ⟨rfl,rfl,U,(iff U).mpr ⟨c1,eU⟩⟩
 rintro δ M' ⟨rfl,rfl,U,hU⟩;have eU:=((iff U).mp hU).2;rw[eU]at hm2;have hm2:M' p2=some (.lst [Ma.fr U.1,Ma.fr U.2.1,Ma.fr U.2.2.1,Ma.fr U.2.2.2]):=hm2;have N:=(j7 hU).1.nq;refine⟨_,rfl,p2,_,rfl,hm2,rfl,_,_,rfl,_,_,rfl,_,_,rfl,_,_,rfl,rfl,?_⟩;(try dsimp only[SD.aJ])
 refine aV (fun δ M2=>M2=M'/\∃x y o4 o6,δ=[some (.str z),some (.ref p0),some (.ref p2),some (Ma.fr x),o4,some (Ma.fr y),o6]/\Ma.Bq 100 x/\Ma.Bq 100 y/\(OwQ U↔x<y)) ?_ (fun hu=>?_);rotate_left
 ·refine⟨_,rfl,_,rfl,_,_,Pd.of rfl,Pd.of rfl,rfl,rfl,_,rfl,?_⟩;rw[Ma.mH];refine bj (fun e=>?_) (fun e=>?_)
  ·have e:U.1=U.2.2.1:=of_decide_eq_true e;refine⟨_,rfl,_,rfl,_,_,rfl,hu _ _ ⟨rfl,U.2.1,U.2.2.2,_,_,rfl,N.b,N.d,?_⟩⟩;unfold OwQ Ma.ah;rw[e];exact⟨fun h=>h.elim (fun h=>absurd h (Rat.lt_irrefl)) (fun h=>h.2),fun h=>.inr ⟨rfl,h⟩⟩
  ·have e:¬U.1=U.2.2.1:=fun q=>e (decide_eq_true q);refine hu _ _ ⟨rfl,U.1,U.2.2.1,_,_,rfl,N.a,N.c,?_⟩;unfold OwQ Ma.ah;exact⟨fun h=>h.elim id (fun h=>absurd h.1 e),fun h=>.inl h⟩
 rintro δ M2 ⟨rfl,x,y,o4,o6,rfl,bx,by',ow⟩;have bm:=bx.mOk by' (by decide)
 refine⟨_,rfl,_,rfl,_,rfl,_,rfl,bm.2.1,_,rfl,_,rfl,_,rfl,_,rfl,bm.2.2.1,trivial,_,rfl,?_⟩;refine bj (fun c=>?_) (fun c=>?_)
 ·refine none_ (qu hU fun q=>?_);have:=(Rat.lt_iff _ _).mp (ow.mp q);have c:=of_decide_eq_true c;omega
 ·have c:¬(y.num*(x.den:Int)<=x.num*(y.den:Int)):=fun q=>c (decide_eq_true q);have o:OwQ U:=ow.mpr ((Rat.lt_iff _ _).mpr (by omega));have kk:=k M2 sb0;rw[qg hU o]at kk;refine⟨_,rfl,_,_,hm2,rfl,_,rfl,_,_,hm2,rfl,nbL rfl,_,rfl,_,_,hm2,rfl,_,rfl,_,_,hm2,rfl,nbL rfl,nbL rfl,rtn kk⟩
theorem aO:FnScope ["_law_row","_law_lines","_law_at","_law_words","_law_place","_law_spot_here","_law_signs","_law_sign","_law_way","_law_line","_law_some"] ["_law_row","_law_lines"] (aq mK):=by walk_at "sc"
inductive Cn_law_bent(x y:D)(M:MH)(Q:DK):Prop
 |mk (r l:Addr) (x0 c:Int) (rs:List Str) (_:x=.ref r) (_:y=.ref l) (_:r≠l) (_:M r=some (.lst [.int x0,.int c])) (_:0<=c) (_:c<900000) (_:M l=some (.lst (rs.map D.str))) (_:rs≠[]) (_:(∀z∈rs,Asc z)) (_:wt rs<=150000) (_:∀(p:Addr) (J:Str) (M':MH) (x' c':Int),Asc J->J.length<=4*wt rs+60->p≠r->M' p=some (.lst ((HN J ⟨#[10]⟩).map D.str))->M' r=some (.lst [.int x',.int c'])->0<=c'->c'<=c+10->Q (.ref p) M')
def yw(r l w:Addr)(a p s v:Int)(g g' line:Str)(o:Option D):DS:=[some (.ref r),some (.ref l),some (.int a),some (.ref w),some (.int p),some (.int s),some (.str g),some (.str g'),some (.int v),some (.str line),o]
structure BentM(r l w:Addr)(x c:Int)(rs ws:List Str)(M:MH):Prop where
 l:M l=some (.lst (rs.map D.str))
 w:M w=some (.lst (ws.map D.str))
 r:M r=some (.lst [.int x,.int c])
theorem BentM.sub{r l w:Addr}{x c:Int}{rs ws:List Str}{M M':MH}(h:BentM r l w x c rs ws M)(s:SD.Sub M M'):BentM r l w x c rs ws M':=⟨s _ _ h.l,s _ _ h.w,s _ _ h.r⟩
inductive W1(r l w:Addr)(a p s v x c:Int)(g g':Str)(rs ws:List Str)(n:Nat)(k:Int):DS->MH->Prop
 |mk (line:Str) {M:MH} (la:Asc line) (lb:line.length<=bnd v k n) (hM:BentM r l w x c rs ws M):W1 r l w a p s v x c g g' rs ws n k (yw r l w a p s v g g' line none) M
inductive W2(r w:Addr)(a p s v:Int)(g g' line:Str)(ws:List Str)(B:Nat)(c k m:Int):DS->MH->Prop
 |mk (l':Addr) (ls:List Str) (o:Option D) (x' c':Int) {M:MH} (lsa:∀t∈ls,Asc t) (lsb:wt ls<=bnl v k B) (nl:l'≠w) (hM:BentM r l' w x' c' ls ws M) (c0:0<=c') (c1:c'<=c+m):W2 r w a p s v g g' line ws B c k m (yw r l' w a p s v g g' line o) M
inductive W3(r w:Addr)(a p s v:Int)(g g' line:Str)(B:Nat)(c k m:Int):DS->MH->Prop
 |mk (l':Addr) (ls:List Str) (o:Option D) (x' c':Int) {M:MH} (lsa:∀t∈ls,Asc t) (lsb:wt ls<=bnl v k B) (hl:M l'=some (.lst (ls.map D.str))) (hr:M r=some (.lst [.int x',.int c'])) (c0:0<=c') (c1:c'<=c+m):W3 r w a p s v g g' line B c k m (yw r l' w a p s v g g' line o) M
theorem rZ(T:Tx K mg):Cal P w K mg base 2 "_law_bent" (sD2 Cn_law_bent):=by
 refine bM (k:=1) T.f_law_bent aO fun f cdv A outer s H E hr=>⟨_,(ai (ax 2 aO.nd (ak (aE T).m hr (aa (dv 0) (aa (aI b4 rfl T.b_len cz (aa (dv 1) ae)) ae)))) (ai (ax 3 aO.nd (cQ (aS (dv 1) (dv 2)) (aa aG ae))) (ai (ax 4 aO.nd (ak (aE T).m hr (aa (dv 0) (aa (aI b4 rfl T.b_len cz (aa (dv 3) ae)) ae)))) (ai (ax 5 aO.nd (ak (aE T).m hr (aa (dv 0) (aa (ar aM (aI b4 rfl T.b_len cz (aa (aS (dv 1) (dv 2)) ae)) af) ae)))) (ai (ax 6 aO.nd aG) (@ai _ _ _ _ _ (@ax _ _ 7 _ _ _ _ aO.nd (@aS _ _ _ _ _ _ (@ar _ _ _ _ _ _ _ _ aM (@qy _ _ _ rfl) (aT (yQ rfl) rfl T.b_list zW (aa (dv 6) ae))) (ak (aE T).m hr (aa (dv 0) (aa (ar aM af (aI b4 rfl T.b_len cz (aa (dv 6) ae))) ae))) (by exact fun _ _=>rfl)) (by rfl) (by first|exact Or.inl rfl|exact Or.inr rfl) (by rfl) (by first|exact .inl rfl|exact .inr rfl)) (ai (ax 8 aO.nd (ak (aE T).m hr (aa (dv 0) (aa af ae)))) (ai (ax 9 aO.nd (aS (dv 1) (dv 2))) (ai (aL (aA (br hr.units) (dv 8) af) (aj (ax 9 aO.nd (ar aM (ar aM (aP (dv 9) bh (aZ (dv 5))) (dv 7)) (aP (dv 9) (aZ (dv 5)) bh)))) aD) (ai (aL (aA (br hr.units) (dv 8) af) (aj (ax 9 aO.nd (ar aM (aP (dv 9) bh (aZ (dv 5))) (aP (dv 9) (aZ (ar aM (dv 5) af)) bh)))) aD) (ai (aL (aA (br hr.units) (dv 8) af) (aj (ax 9 aO.nd (cR aG (aa (ar aM (aP (dv 3) bh (aZ (dv 4))) (aP (dv 3) (aZ (ar aM (dv 4) af)) bh)) ae)))) aD) (ai (aL (aA (br hr.units) (dv 8) af) (aj (ax 9 aO.nd (cR aG (aa (ar aM (aP (dv 3) bh (aZ (ar aM (dv 4) af))) (aP (dv 3) (aZ (dv 4)) bh)) ae)))) aD) (ai (aL (aA (br hr.units) (dv 8) af) (aj (ax 9 aO.nd (cR aG (aa (ar aM (ar aM (aP (dv 3) bh (aZ af)) (aP (dv 3) (aZ af) bh)) (aP (dv 3) (aZ af) (aZ af))) ae)))) aD) (ai (ax 1 aO.nd (ar aM (ar aM (aP (dv 1) bh (aZ (dv 2))) (aW (aa (dv 9) ae))) (aP (dv 1) (aZ (ar aM (dv 2) af)) bh))) (ai (aL (aA (br hr.units) (dv 8) af) (aj (ax 1 aO.nd (ar aM (ar aM (aP (dv 1) bh (aZ (dv 2))) (aP (dv 1) (aZ (dv 2)) (aZ (ar aM (dv 2) af)))) (aP (dv 1) (aZ (dv 2)) bh)))) aD) (ai (aL (aA (br hr.units) (dv 8) af) (@ai _ _ _ _ _ (@ax _ _ 10 _ _ _ _ aO.nd (@qy _ _ _ rfl) (by rfl) (by first|exact Or.inl rfl|exact Or.inr rfl) (by rfl) (by first|exact .inl rfl|exact .inr rfl)) (aj (ax 1 aO.nd (ar aM (dv 1) (aW (aa (aS (ar aM (dv 10) (aW (aa aG (aa aG (aa (ar aM (ar aM aG (ar jE aG af)) aG) ae))))) (ak (aE T).m hr (aa (dv 0) (aa af ae)))) ae)))))) aD) (ai (aL (aA (br hr.units) (dv 8) af) (aj (ax 1 aO.nd (ar aM (aP (dv 1) bh (aZ (dv 2))) (aP (dv 1) (aZ (ar aM (dv 2) af)) bh)))) aD) (ai (aL (aA (br hr.units) (dv 8) af) (@ai _ _ _ _ _ (@cI _ _ _ _ _ _ (@aS _ _ _ _ _ _ (@qy _ _ _ rfl) (ak (aE T).m hr (aa (dv 0) (aa af ae))) (by exact fun _ _=>rfl)) (tF (dv 3) (dv 4)) (by rfl) (by rfl) (by rfl)) (aj (ax 1 aO.nd (ar aM (ar aM (aP (dv 1) bh (aZ (dv 2))) (aW (aa (cR aG (aa (dv 3) ae)) ae))) (aP (dv 1) (aZ (ar aM (dv 2) af)) bh))))) aD) (aj (ay (cQ (cR aG (aa (dv 1) ae)) (aa aG ae)))))))))))))))))))))),fun _ _ M Q h=>?_⟩;obtain⟨r,l,x0,c,rs,rfl,rfl,nrl,hr0,c0,c1,hl0,n0,asc,hB,k⟩:=h;have sz:1000000<=GX:=nbL rfl;have k0:0<=c/\c<900000:=⟨c0,c1⟩;have k1:=stp k0;have k2:=stp k1;have k3:=stp k2;have k4:=stp k3;have k5:=stp k4;refine⟨_,rfl,_,rfl,_,hl0,r,_,x0,c,rfl,rfl,hr0,c0,Int.lt_trans c1 (by decide),lpS n0,lb hB,fun x1 at' a0 a1=>?_⟩;rw[G4]at a1;have hl1:(av M r (.lst [.int x1,.int (c+1)])) l=some (.lst (rs.map D.str)):=by rw[ao nrl.symm];exact hl0
 have hr1:(av M r (.lst [.int x1,.int (c+1)])) r=some (.lst [.int x1,.int (c+1)]):=ag;generalize av M r (.lst [.int x1,.int (c+1)])=M1 at hl1 hr1 ⊢;obtain⟨z,hz,ez⟩:=pj a0 a1;have az:=asc z hz;have lz:=pd hz;have lz5:=He lz hB;refine⟨_,rfl,_,rfl,_,_,hl1,ez,_,rfl,by omega,_,rfl,(by rw[dG];rfl),fun w hw=>?_⟩;generalize hws:HN z " "=ws;rw[dG]at hws;have nrw:r≠w:=aC hr1 hw;have nlw:l≠w:=aC hl1 hw;have wl:wt ws=z.length+1:=by rw[<-hws];exact qR 32 z
 have wa:∀t∈ws,Asc t:=by rw[<-hws];exact nN az
 have wn:ws≠[]:=by rw[<-hws];exact dh z 32
 have wB:wt ws<=150000:=by rw[wl];exact lz5
 have wC:wt ws<=300000:=He wB (by decide);have hl2:(av M1 w (.lst (ws.map D.str))) l=some (.lst (rs.map D.str)):=by rw[ao nlw];exact hl1
 have hr2:(av M1 w (.lst (ws.map D.str))) r=some (.lst [.int x1,.int (c+1)]):=by rw[ao nrw];exact hr1
 have hw2:(av M1 w (.lst (ws.map D.str))) w=some (.lst (ws.map D.str)):=ag;generalize av M1 w (.lst (ws.map D.str))=M2 at hl2 hr2 hw2 ⊢;refine⟨_,rfl,_,rfl,_,hw2,r,_,x1,c+1,rfl,rfl,hr2,k1.1,Int.lt_trans k1.2 (by decide),lpS wn,lb wB,fun x3 pl p0 p1=>?_⟩;rw[G4]at p1;have hl3:(av M2 r (.lst [.int x3,.int (c+1+1)])) l=some (.lst (rs.map D.str)):=by rw[ao nrl.symm];exact hl2
 have hw3:(av M2 r (.lst [.int x3,.int (c+1+1)])) w=some (.lst (ws.map D.str)):=by rw[ao nrw.symm];exact hw2
 have hr3:(av M2 r (.lst [.int x3,.int (c+1+1)])) r=some (.lst [.int x3,.int (c+1+1)]):=ag;generalize av M2 r (.lst [.int x3,.int (c+1+1)])=M3 at hl3 hr3 hw3 ⊢;refine⟨_,rfl,_,rfl,_,rfl,_,_,hl3,ez,by omega,r,_,x3,c+1+1,rfl,rfl,hr3,k2.1,Int.lt_trans k2.2 (by decide),zpS z,zbS lz5,fun x4 sp s0 s1=>?_⟩;have hl4:(av M3 r (.lst [.int x4,.int (c+1+1+1)])) l=some (.lst (rs.map D.str)):=by rw[ao nrl.symm];exact hl3
 have hw4:(av M3 r (.lst [.int x4,.int (c+1+1+1)])) w=some (.lst (ws.map D.str)):=by rw[ao nrw.symm];exact hw3
 have hr4:(av M3 r (.lst [.int x4,.int (c+1+1+1)])) r=some (.lst [.int x4,.int (c+1+1+1)]):=ag;generalize av M3 r (.lst [.int x4,.int (c+1+1+1)])=M4 at hl4 hr4 hw4 ⊢;refine⟨nbL rfl,fun pA hA=>?_⟩;generalize he:oh (.Constant (.str "a") _ _::_)=ss;have ssl:ss.length=9:=by rw[<-he];rfl
 have ssa:∀t∈ss,Asc t/\t.length<=1:=qh (by rw[<-he];decide +kernel);clear he;refine⟨_,rfl,nbL rfl,fun pB hB'=>?_⟩;generalize eg:G1 " !\"#$&'()*+,-./0123456789:;<=>?@ABCDEFGHIJKLMNOPQRSTUVWXYZ[\\]^_`abcdefghijklmnopqrstuvwxyz{|}~\n"=sg at hB' ⊢;have sgl:sg.length<=100:=by rw[<-eg];exact nbL rfl
 have sga:Asc sg:=by rw[<-eg];decide +kernel
 clear eg;have nAB:pA≠pB:=aC ag hB';obtain⟨g1,g2⟩:=GN sgl;refine iE (xs:=ss) (ys:=sgs sg) (by rw[ao nAB];exact ag) (by rw[ag,EL]) ?_ (fun pC M5 sC fC hC5=>?_)
 ·have:=wt1 ssa (Nat.le_of_eq ssl);have:=wt1 (xo sga) (n:=100) (by rw[vg];exact sgl);omega
 have ta:∀t∈ss++sgs sg,Asc t/\t.length<=1:=fun t ht=>by
  rcases Hv.mp ht with h|h
  ·exact ssa t h
  ·exact xo sga t h
 have tl:(ss++sgs sg).length=9+sg.length:=by rw[ID,ssl,vg]
 generalize ss++sgs sg=ts at ta tl hC5;have sbC:SD.Sub M4 M5:=(SD.Sub.new hA .refl).trans ((SD.Sub.new hB' .refl).trans sC);have hl5:=sbC _ _ hl4;have hw5:=sbC _ _ hw4;have hr5:=sbC _ _ hr4;refine⟨_,rfl,_,rfl,by omega,r,_,x4,c+1+1+1,rfl,rfl,hr5,k3.1,Int.lt_trans k3.2 (by decide),g1,g2,fun x6 v6 v60 v61=>?_⟩;have nrC:r≠pC:=(fW hC5 hr5).symm;have hl6:(av M5 r (.lst [.int x6,.int (c+1+1+1+1)])) l=some (.lst (rs.map D.str)):=by rw[ao nrl.symm];exact hl5
 have hw6:(av M5 r (.lst [.int x6,.int (c+1+1+1+1)])) w=some (.lst (ws.map D.str)):=by rw[ao nrw.symm];exact hw5
 have hC6:(av M5 r (.lst [.int x6,.int (c+1+1+1+1)])) pC=some (.lst (ts.map D.str)):=by rw[ao nrC.symm];exact hC5
 have hr6:(av M5 r (.lst [.int x6,.int (c+1+1+1+1)])) r=some (.lst [.int x6,.int (c+1+1+1+1)]):=ag;generalize av M5 r (.lst [.int x6,.int (c+1+1+1+1)])=M6 at hl6 hw6 hC6 hr6 ⊢;obtain⟨sg',hsg,esg⟩:=pj (xs:=ts) v60 (by omega);obtain⟨sa,sl⟩:=ta sg' hsg;refine⟨_,_,hC6,esg,?_⟩;refine⟨_,rfl,r,10,x6,c+1+1+1+1,rfl,rfl,hr6,k4.1,Int.lt_trans k4.2 (by decide),by decide,cD (by decide),fun x7 way w0 w1=>?_⟩;have hl7:(av M6 r (.lst [.int x7,.int (c+1+1+1+1+1)])) l=some (.lst (rs.map D.str)):=by rw[ao nrl.symm];exact hl6
 have hw7:(av M6 r (.lst [.int x7,.int (c+1+1+1+1+1)])) w=some (.lst (ws.map D.str)):=by rw[ao nrw.symm];exact hw6
 have hr7:(av M6 r (.lst [.int x7,.int (c+1+1+1+1+1)])) r=some (.lst [.int x7,.int (c+1+1+1+1+1)]):=ag;generalize av M6 r (.lst [.int x7,.int (c+1+1+1+1+1)])=M7 at hl7 hw7 hr7 ⊢;refine⟨_,rfl,_,rfl,_,_,hl7,ez,?_⟩;(try dsimp only[SD.aJ])
 clear hC6 hr6 hw6 hl6 hC5 hr5 hw5 hl5 sbC sC hl4 hr4 hw4 hl3 hr3 hw3 hl2 hr2 hw2 hl1 hr1 hr0 hl0;have hM:BentM r l w x7 (c+1+1+1+1+1) rs ws M7:=⟨hl7,hw7,hr7⟩;clear hl7 hw7 hr7;refine aV (W1 r l w at' pl sp way x7 (c+1+1+1+1+1) sg sg' rs ws z.length 1) ?_ (fun hu=>?_);rotate_left
 ·refine⟨_,rfl,_,rfl,?_⟩;refine bj (fun e=>?_) (fun e=>hu _ _ ⟨z,az,GV (fun h=>e (decide_eq_true h)) w0,hM⟩);have e:way=0:=of_decide_eq_true e;obtain⟨s1,s2,s3,s4⟩:=GD (sp:=sp) (z:=z) rfl sl lz5;refine⟨_,rfl,_,rfl,_,rfl,s1,_,rfl,s2,_,rfl,_,rfl,_,rfl,s1,s3,?_⟩;exact hu _ _ ⟨_,jf (jf (iC az) sa) (iC az),He s4 (Nat.le_of_eq (yo e (by decide)).2.symm),hM⟩
 clear hM;rintro δ M8 ⟨line,la,lb,hM⟩;refine aV (W1 r l w at' pl sp way x7 (c+1+1+1+1+1) sg sg' rs ws z.length 2) ?_ (fun hu=>?_);rotate_left
 ·refine⟨_,rfl,_,rfl,?_⟩;refine bj (fun e=>?_) (fun e=>hu _ _ ⟨line,la,He lb (jk way 1 z.length),hM⟩);have e:way=1:=of_decide_eq_true e;obtain⟨e1,e2⟩:=yo (k':=2) (n:=z.length) e (by decide);rw[e1]at lb;obtain⟨s1,s2,s3⟩:=F9 (sp:=sp) lb lz5;refine⟨_,rfl,_,rfl,_,rfl,s1,_,rfl,_,rfl,_,rfl,s1,s2,?_⟩;exact hu _ _ ⟨_,jf (iC la) (iC la),by rw[e2];exact s3,hM⟩
 clear hM la lb line;rintro δ M9 ⟨line,la,lb,hM⟩;refine aV (W1 r l w at' pl sp way x7 (c+1+1+1+1+1) sg sg' rs ws z.length 3) ?_ (fun hu=>?_);rotate_left
 ·refine⟨_,rfl,_,rfl,?_⟩;refine bj (fun e=>?_) (fun e=>hu _ _ ⟨line,la,He lb (jk way 2 z.length),hM⟩);have e:way=2:=of_decide_eq_true e;obtain⟨e1,e2⟩:=yo (k':=3) (n:=z.length) e (by decide);exact⟨_,rfl,_,rfl,_,rfl,_,rfl,slS hM.w (fun p1 N1 s1 f1 h1=>⟨_,rfl,_,rfl,_,rfl,slN (hM.sub s1).w (fun p2 N2 s2 f2 h2=>iE (s2 _ _ h1) h2 (cw2 wC) (fun p3 N3 s3 f3 h3=>⟨p3,_,rfl,h3,cj2 wC,hu _ _ ⟨_,ca2 wa,by rw[e2];exact cl2 wl,hM.sub (s1.trans (s2.trans s3))⟩⟩))⟩)⟩
 clear hM la lb line;rintro δ M10 ⟨line,la,lb,hM⟩;refine aV (W1 r l w at' pl sp way x7 (c+1+1+1+1+1) sg sg' rs ws z.length 4) ?_ (fun hu=>?_);rotate_left
 ·refine⟨_,rfl,_,rfl,?_⟩;refine bj (fun e=>?_) (fun e=>hu _ _ ⟨line,la,He lb (jk way 3 z.length),hM⟩);have e:way=3:=of_decide_eq_true e;obtain⟨e1,e2⟩:=yo (k':=4) (n:=z.length) e (by decide);exact⟨_,rfl,_,rfl,_,rfl,_,rfl,slS hM.w (fun p1 N1 s1 f1 h1=>⟨_,rfl,_,rfl,_,rfl,slN (hM.sub s1).w (fun p2 N2 s2 f2 h2=>iE (s2 _ _ h1) h2 (cw2 wC) (fun p3 N3 s3 f3 h3=>⟨p3,_,rfl,h3,cj2 wC,hu _ _ ⟨_,ca2 wa,by rw[e2];exact cl2 wl,hM.sub (s1.trans (s2.trans s3))⟩⟩))⟩)⟩
 clear hM la lb line;rintro δ M11 ⟨line,la,lb,hM⟩;refine aV (W1 r l w at' pl sp way x7 (c+1+1+1+1+1) sg sg' rs ws z.length 5) ?_ (fun hu=>?_);rotate_left
 ·refine⟨_,rfl,_,rfl,?_⟩;refine bj (fun e=>?_) (fun e=>hu _ _ ⟨line,la,He lb (jk way 4 z.length),hM⟩);have e:way=4:=of_decide_eq_true e;obtain⟨e1,e2⟩:=yo (k':=5) (n:=z.length) e (by decide);refine⟨_,rfl,_,rfl,_,rfl,slS hM.w (fun p1 N1 s1 f1 h1=>⟨_,rfl,_,rfl,slN (hM.sub s1).w (fun p2 N2 s2 f2 h2=>iE (s2 _ _ h1) h2 (cw2 wC) (fun p3 N3 s3 f3 h3=>⟨_,rfl,_,rfl,_,rfl,slS (hM.sub (s1.trans (s2.trans s3))).w (fun p4 N4 s4 f4 h4=>iE (s4 _ _ h3) h4 (cw3 wC) (fun p5 N5 s5 f5 h5=>⟨p5,_,rfl,h5,cj3 wC,hu _ _ ⟨_,?_,by rw[e2];exact cl3 wl,hM.sub (s1.trans (s2.trans (s3.trans (s4.trans s5))))⟩⟩))⟩))⟩)⟩;rw[dG];exact eL (by decide) (ca3 wa)
 clear hM la lb line;rintro δ M12 ⟨line,la,lb,hM⟩;have lq:line.length<=450010:=He lb (Dd lz hB);have c5:c+1+1+1+1+1<=c+5:=c5b c;refine aV (W2 r w at' pl sp way sg sg' line ws (wt rs) c 5 5) ?_ (fun hu=>?_);rotate_left
 ·refine⟨_,rfl,_,rfl,_,rfl,slS hM.l (fun p1 N1 s1 f1 h1=>⟨_,rfl,nbL rfl,fun p2 f2=>iE (ys:=[line]) ((SD.Sub.new f2 .refl) _ _ h1) ag ?_ (fun p3 N3 s3 f3 h3=>⟨_,rfl,_,rfl,_,rfl,slN (hM.sub (s1.trans ((SD.Sub.new f2 .refl).trans s3))).l (fun p4 N4 s4 f4 h4=>iE (s4 _ _ h3) h4 ?_ (fun p5 N5 s5 f5 h5=>?_))⟩)⟩)⟩
  ·exact w1a (He hB (by decide)) lq
  ·exact w1b hB lq
  ·have S5:SD.Sub M12 N5:=s1.trans ((SD.Sub.new f2 .refl).trans (s3.trans (s4.trans s5)));have h45:=hM.sub (s1.trans ((SD.Sub.new f2 .refl).trans (s3.trans s4)));exact hu _ _ ⟨p5,_,none,x7,_,F8 asc la,in1 a0 lz lb,(aC h45.w f5).symm,⟨h5,(hM.sub S5).w,(hM.sub S5).r⟩,k5.1,c5⟩
 clear hM;rintro δ M13 ⟨l1,ls,o,xa,ca,lsa,lsb,nlw1,hM,ca0,ca1⟩;refine aV (W2 r w at' pl sp way sg sg' line ws (wt rs) c 6 5) ?_ (fun hu=>?_);rotate_left
 ·refine⟨_,rfl,_,rfl,?_⟩;refine bj (fun e=>?_) (fun e=>hu _ _ ⟨l1,ls,o,xa,ca,lsa,He lsb (jF way 5 _),nlw1,hM,ca0,Int.le_trans ca1 (Int.add_le_add_left (by decide) _)⟩);have e:way=5:=of_decide_eq_true e;obtain⟨e1,e2⟩:=zQ (k':=6) (n:=wt rs) e (by decide);rw[e1]at lsb;have lsc:wt ls<=300000:=He lsb (Nat.mul_le_mul_left 2 hB);refine⟨_,rfl,_,rfl,_,rfl,slS hM.l (fun p1 N1 s1 f1 h1=>⟨_,rfl,_,rfl,_,rfl,_,rfl,_,rfl,slS (hM.sub s1).l (fun p2 N2 s2 f2 h2=>iE (s2 _ _ h1) h2 ?_ (fun p3 N3 s3 f3 h3=>⟨_,rfl,_,rfl,_,rfl,slN (hM.sub (s1.trans (s2.trans s3))).l (fun p4 N4 s4 f4 h4=>iE (s4 _ _ h3) h4 ?_ (fun p5 N5 s5 f5 h5=>?_))⟩))⟩)⟩
  ·exact cw2 lsc
  ·exact cw3 lsc
  ·have S4:=s1.trans (s2.trans (s3.trans s4));have S5:=S4.trans s5;exact hu _ _ ⟨p5,_,o,xa,ca,ca3 lsa,by rw[e2];exact dbl a0 lsb,(aC (hM.sub S4).w f5).symm,⟨h5,(hM.sub S5).w,(hM.sub S5).r⟩,ca0,ca1⟩
 clear hM lsa lsb nlw1 ca0 ca1;clear ls l1 xa ca o;rintro δ M14 ⟨l1,ls,o,xa,ca,lsa,lsb,nlw1,hM,ca0,ca1⟩;refine aV (W2 r w at' pl sp way sg sg' line ws (wt rs) c 7 6) ?_ (fun hu=>?_);rotate_left
 ·refine⟨_,rfl,_,rfl,?_⟩;refine bj (fun e=>?_) (fun e=>hu _ _ ⟨l1,ls,o,xa,ca,lsa,He lsb (jF way 6 _),nlw1,hM,ca0,Int.le_trans ca1 (Int.add_le_add_left (by decide) _)⟩);have e:way=6:=of_decide_eq_true e;obtain⟨e1,e2⟩:=zQ (k':=7) (n:=wt rs) e (by decide);rw[e1]at lsb;have lsc:wt ls<=300000:=He lsb (Nat.mul_le_mul_left 2 hB);refine⟨nbL rfl,fun pS fS=>?_⟩;generalize he:oh (.Constant (.str "") _ _::_)=us;have usl:us.length=7:=by rw[<-he];rfl
  have usa:∀t∈us,Asc t/\t.length<=45:=qh (by rw[<-he];decide +kernel);have usw:wt us<=1000:=by rw[<-he];exact nbL rfl
  clear he;have hS:(av M14 pS (.lst (us.map D.str))) pS=some (.lst (us.map D.str)):=ag;have sS:SD.Sub M14 (av M14 pS (.lst (us.map D.str))):=.new fS .refl;generalize av M14 pS (.lst (us.map D.str))=NS at hS sS ⊢;have hN:=hM.sub sS;have o6l:(tw "1" 31).length=31:=by decide +kernel
  have o6a:Asc (tw "1" 31):=by decide +kernel
  have q1:=mU (n:=20) (show lnB 20 "wall 0 0 "=true by decide +kernel);have q2:=mU (n:=5) (show lnB 5 " 0"=true by decide +kernel);have q3:=mU (n:=45) (show lnB 45 "wall 0 0 1 1/0"=true by decide +kernel);have q4:=mU (n:=45) (show lnB 45 "wall 0 0 0 0"=true by decide +kernel);refine⟨_,rfl,_,rfl,by decide,by decide,nbL rfl,nbL rfl,by rw[o6l];exact nbL rfl,?_⟩;generalize tw "1" 31=o6 at o6l o6a ⊢;refine⟨by omega,by rw[len_app];omega,nbL rfl,fun pD fD=>iE (ys:=[G1 "wall 0 0 1 1/0",G1 "wall 0 0 0 0",G1 "wall 0 0 "++o6++G1 " 0"]) ((SD.Sub.new fD .refl) _ _ hS) ag ?_ (fun p2 N2 s2 f2 h2=>?_)⟩
  ·show wt us+(_+1+(_+1+((G1 "wall 0 0 "++o6++G1 " 0").length+1+0)))<=_;rw[len_app,len_app];omega
  have sN:SD.Sub M14 N2:=sS.trans ((SD.Sub.new fD .refl).trans s2)
  have tsa:∀t∈us++[G1 "wall 0 0 1 1/0",G1 "wall 0 0 0 0",G1 "wall 0 0 "++o6++G1 " 0"],Asc t/\t.length<=56:=fun t ht=>by
   rcases Hv.mp ht with h|h
   ·exact⟨(usa t h).1,He (usa t h).2 (by decide)⟩
   ·rcases Hr.mp h with rfl|h
    ·exact⟨q3.1,by omega⟩
    ·rcases Hr.mp h with rfl|h
     ·exact⟨q4.1,by omega⟩
     ·rw[Hu.mp h];exact⟨jf (jf q1.1 o6a) q2.1,by rw[len_app,len_app];omega⟩
  have tsl:(us++[G1 "wall 0 0 1 1/0",G1 "wall 0 0 0 0",G1 "wall 0 0 "++o6++G1 " 0"]).length=10:=by rw[ID,usl];rfl
  generalize us++[G1 "wall 0 0 1 1/0",G1 "wall 0 0 0 0",G1 "wall 0 0 "++o6++G1 " 0"]=vs at tsa tsl h2;clear hN;have hN:=hM.sub sN;have nr2:p2≠r:=fW h2 hN.r;have nrl1:l1≠r:=fW hN.l hN.r;refine⟨_,rfl,r,10,xa,ca,rfl,rfl,hN.r,ca0,by omega,by decide,cD (by decide),fun x8 v8 v80 v81=>?_⟩;obtain⟨t8,ht8,et8⟩:=pj (xs:=vs) v80 (by omega);obtain⟨t8a,t8l⟩:=tsa t8 ht8;have hl9:(av N2 r (.lst [.int x8,.int (ca+1)])) l1=some (.lst (ls.map D.str)):=by rw[ao nrl1];exact hN.l
  have hw9:(av N2 r (.lst [.int x8,.int (ca+1)])) w=some (.lst (ws.map D.str)):=by rw[ao nrw.symm];exact hN.w
  have hv9:(av N2 r (.lst [.int x8,.int (ca+1)])) p2=some (.lst (vs.map D.str)):=by rw[ao nr2];exact h2
  have hr9:(av N2 r (.lst [.int x8,.int (ca+1)])) r=some (.lst [.int x8,.int (ca+1)]):=ag;generalize av N2 r (.lst [.int x8,.int (ca+1)])=N9 at hl9 hw9 hv9 hr9 ⊢;have hM9:BentM r l1 w x8 (ca+1) ls ws N9:=⟨hl9,hw9,hr9⟩;refine⟨_,_,hv9,et8,nbL rfl,fun p4 f4=>iE (ys:=[t8]) ((SD.Sub.new f4 .refl) _ _ hl9) ag ?_ (fun p5 N5 s5 f5 h5=>?_)⟩
  ·show _+(t8.length+1+0)<=_;omega
  have S4:=SD.Sub.new (o:=.lst [.str t8]) f4 (.refl (M:=N9));have S5:=S4.trans s5;refine hu _ _ ⟨p5,_,_,x8,ca+1,fun t ht=>?_,?_,(aC (hM9.sub S4).w f5).symm,⟨h5,(hM9.sub S5).w,(hM9.sub S5).r⟩,by omega,by omega⟩
  ·rcases Hv.mp ht with h|h
   ·exact lsa t h
   ·rw[Hu.mp h];exact t8a
  ·rw[bV,e2];show _+(t8.length+1+0)<=_;omega
 clear hM lsa lsb nlw1 ca0 ca1;clear ls l1 xa ca o;rintro δ M15 ⟨l1,ls,o,xa,ca,lsa,lsb,nlw1,hM,ca0,ca1⟩;refine aV (W2 r w at' pl sp way sg sg' line ws (wt rs) c 8 6) ?_ (fun hu=>?_);rotate_left
 ·refine⟨_,rfl,_,rfl,?_⟩;refine bj (fun e=>?_) (fun e=>hu _ _ ⟨l1,ls,o,xa,ca,lsa,He lsb (jF way 7 _),nlw1,hM,ca0,Int.le_trans ca1 (Int.add_le_add_left (by decide) _)⟩);have e:way=7:=of_decide_eq_true e;obtain⟨e1,e2⟩:=zQ (k':=8) (n:=wt rs) e (by decide);rw[e1]at lsb;have lsc:wt ls<=300000:=He lsb (Nat.mul_le_mul_left 2 hB);refine⟨_,rfl,_,rfl,_,rfl,slS hM.l (fun p1 N1 s1 f1 h1=>⟨_,rfl,_,rfl,_,rfl,slN (hM.sub s1).l (fun p2 N2 s2 f2 h2=>iE (s2 _ _ h1) h2 ?_ (fun p3 N3 s3 f3 h3=>?_))⟩)⟩
  ·exact cw2 lsc
  ·have S4:=s1.trans s2;have S5:=S4.trans s3;refine hu _ _ ⟨p3,_,o,xa,ca,fun t ht=>?_,by rw[e2];exact Gb a0 lsb,(aC (hM.sub S4).w f3).symm,⟨h3,(hM.sub S5).w,(hM.sub S5).r⟩,ca0,ca1⟩;rcases Hv.mp ht with h|h<;>exact lsa t (cM h)
 clear hM lsa lsb nlw1 ca0 ca1;clear ls l1 xa ca o;rintro δ M16 ⟨l1,ls,o,xa,ca,lsa,lsb,nlw1,hM,ca0,ca1⟩;refine aV (W3 r w at' pl sp way sg sg' line (wt rs) c 9 7) ?_ (fun hu=>?_);rotate_left
 ·refine⟨_,rfl,_,rfl,?_⟩;refine bj (fun e=>?_) (fun e=>hu _ _ ⟨l1,ls,o,xa,ca,lsa,He lsb (jF way 8 _),hM.l,hM.r,ca0,Int.le_trans ca1 (Int.add_le_add_left (by decide) _)⟩);have e:way=8:=of_decide_eq_true e;obtain⟨e1,e2⟩:=zQ (k':=9) (n:=wt rs) e (by decide);rw[e1]at lsb;have lsc:wt ls<=300000:=He lsb (Nat.mul_le_mul_left 2 hB);refine⟨nbL rfl,fun pS fS=>?_⟩;generalize he:oh (.Constant (.str "0") _ _::_)=us;have usl:us.length=8:=by rw[<-he];rfl
  have usa:∀t∈us,Asc t/\t.length<=45:=qh (by rw[<-he];decide +kernel);clear he;have hS:(av M16 pS (.lst (us.map D.str))) pS=some (.lst (us.map D.str)):=ag;have sS:SD.Sub M16 (av M16 pS (.lst (us.map D.str))):=.new fS .refl;generalize av M16 pS (.lst (us.map D.str))=NS at hS sS ⊢;have hN:=hM.sub sS;have nrS:pS≠r:=fW hS hN.r;have nrl1:l1≠r:=fW hN.l hN.r;refine⟨_,rfl,r,8,xa,ca,rfl,rfl,hN.r,ca0,by omega,by decide,cD (by decide),fun x8 v8 v80 v81=>?_⟩;obtain⟨t8,ht8,et8⟩:=pj (xs:=us) v80 (by omega);obtain⟨t8a,t8l⟩:=usa t8 ht8;have hl9:(av NS r (.lst [.int x8,.int (ca+1)])) l1=some (.lst (ls.map D.str)):=by rw[ao nrl1];exact hN.l
  have hw9:(av NS r (.lst [.int x8,.int (ca+1)])) w=some (.lst (ws.map D.str)):=by rw[ao nrw.symm];exact hN.w
  have hS9:(av NS r (.lst [.int x8,.int (ca+1)])) pS=some (.lst (us.map D.str)):=by rw[ao nrS];exact hS
  have hr9:(av NS r (.lst [.int x8,.int (ca+1)])) r=some (.lst [.int x8,.int (ca+1)]):=ag;generalize av NS r (.lst [.int x8,.int (ca+1)])=N9 at hl9 hw9 hS9 hr9 ⊢;refine⟨_,_,hS9,et8,?_⟩;refine⟨_,rfl,_,rfl,_,_,hw9,tV p0 p1,?_⟩;generalize e8:(ws.map D.str).set pl.toNat (.str t8)=ds8;rw[set_str]at e8;subst e8;have hM9:BentM r l1 w x8 (ca+1) ls (ws.set pl.toNat t8) (av N9 w (.lst ((ws.set pl.toNat t8).map D.str))):=⟨by rw[ao nlw1];exact hl9,ag,by rw[ao nrw];exact hr9⟩;have wt9:=zb t8 ws pl.toNat
  have wa9:∀t∈ws.set pl.toNat t8,Asc t:=fun t ht=>by
   rcases mem_set ht with h|h
   ·exact wa t h
   ·rw[h];exact t8a
  generalize ws.set pl.toNat t8=vs at hM9 wt9 wa9 ⊢;generalize av N9 w (.lst (vs.map D.str))=N10 at hM9 ⊢;refine⟨_,rfl,_,rfl,_,rfl,slS hM9.l (fun p1 N1 s1 f1 h1=>⟨_,rfl,_,rfl,w,vs,rfl,(hM9.sub s1).w,d4 (by omega),nbL rfl,fun p2 f2=>iE (ys:=[HP ⟨#[32]⟩ vs]) ((SD.Sub.new f2 .refl) _ _ h1) ag ?_ (fun p3 N3 s3 f3 h3=>⟨_,rfl,_,rfl,_,rfl,slN (hM9.sub (s1.trans ((SD.Sub.new f2 .refl).trans s3))).l (fun p4 N4 s4 f4 h4=>iE (s4 _ _ h3) h4 ?_ (fun p5 N5 s5 f5 h5=>?_))⟩)⟩)⟩
  ·have:=bG ls none (some at');have:=join_le 32 vs;show wt _+((HP ⟨#[32]⟩ vs).length+1+0)<=_;omega
  ·have:=bG ls none (some at');have:=bG ls (some (at'+1)) none;have:=join_le 32 vs;rw[bV];show wt _+((HP ⟨#[32]⟩ vs).length+1+0)+_<=_;omega
  ·have S4:=s1.trans ((SD.Sub.new f2 .refl).trans (s3.trans s4));have S5:=S4.trans s5;refine hu _ _ ⟨p5,_,o,x8,ca+1,fun t ht=>?_,?_,h5,(hM9.sub S5).r,by omega,by omega⟩
   ·rcases Hv.mp ht with h|h
    ·rcases Hv.mp h with h|h
     ·exact lsa t (cM h)
     ·rw[Hu.mp h];exact eL (by decide) wa9
    ·exact lsa t (cM h)
   ·have:=fH a0 (show at'<=at'+1 by omega) ls;have:=join_le 32 vs;rw[bV,bV,e2];show wt _+((HP ⟨#[32]⟩ vs).length+1+0)+_<=_;omega
 clear hM lsa lsb nlw1 ca0 ca1;clear ls l1 xa ca o;rintro δ M17 ⟨l1,ls,o,xa,ca,lsa,lsb,hl17,hr17,ca0,ca1⟩;rw[Bg];have:=Ck way 9 (wt rs);refine⟨_,rfl,_,rfl,l1,ls,rfl,hl17,d4 (by omega),_,rfl,?_,_,rfl,rfl,fun p f=>rtn ?_⟩
 ·have:=join_le 10 ls;omega
 refine k p _ _ xa ca (eL (by decide) lsa) ?_ (aC hr17 f).symm ag (by rw[ao (aC hr17 f)];exact hr17) ca0 (by omega);have:=join_le 10 ls;omega
theorem nh:FnScope ["_law_one","_law_other"] ["_law_one","_law_other"] (aq ji):=by walk_at "sc"
inductive Cn_law_beyond(x y:D)(M:MH)(Q:DK):Prop
 |mk (p q:Rat) (_:x=Ma.fr p) (_:y=Ma.fr q) (_:N30 p) (_:N30 q) (_:∀r,Ma.Bq 210 r->Q (Ma.fr r) M)
theorem je(T:Tx K mg):Cal P w K mg base 2 "_law_beyond" (sD2 Cn_law_beyond):=by
 refine bM (k:=1) T.f_law_beyond nh fun f cdv A outer s H E hr=>⟨_,(aj (ay (ak (ft T).m hr (aa (ar cB (ar jE (ar jE af (au (dv 1) af)) (au (dv 0) af)) (ar jE (au (dv 0) af) (au (dv 1) af))) (aa (ar jE (au (dv 0) af) (au (dv 1) af)) ae))))),fun _ _ M Q h=>?_⟩;obtain⟨p,q,rfl,rfl,hp,hq,k⟩:=h;have p0:=nH hp.1;have q0:=nH hq.1;have p1:Bd 100 (p.den:Int):=nH (by simpa using hp.2);have q1:Bd 100 (q.den:Int):=nH (by simpa using hq.2);have b2:Bd 2 2:=by decide
 have B1:=(b2.mul q0).mul p1;have B2:=p0.mul q1;have B3:=p1.mul q1;have M':∀{m n:Nat} {i j:Int},Bd m i->Bd n j->m<=1000->n<=1000->IntMulOk i j:=fun a b c d=>cL (a.mono (by omega)) (b.mono (by omega));have BT:=B1.sub (B2.mono (by decide))
 have ne:(p.den:Int)*(q.den:Int)≠0:=by
  have:=p.den_pos
  have:=q.den_pos
  exact Int.mul_ne_zero (by omega) (by omega)
 refine⟨_,rfl,_,rfl,bI (by decide),_,rfl,_,rfl,M' (b2.mul q0) p1 (by decide) (by decide),_,rfl,_,rfl,_,rfl,_,rfl,M' p0 q1 (by decide) (by decide),trivial,_,rfl,_,rfl,_,rfl,_,rfl,M' p1 q1 (by decide) (by decide),_,_,rfl,rfl,ne,BT.mono (by decide),B3.mono (by decide),rtn (k _ (Ma.Bq.divInt ne (BT.mono (by decide)) (B3.mono (by decide))))⟩
theorem dk:FnScope ["_law_row","_law_lines","_law_found","_law_first","_law_second","_law_far","_law_at"] ["_law_row","_law_lines"] (aq oM):=by walk_at "sc"
inductive Cn_law_odd(x y:D)(M:MH)(Q:DK):Prop
 |mk (r l:Addr) (x0 c:Int) (rs:List Str) (_:x=.ref r) (_:y=.ref l) (_:M r=some (.lst [.int x0,.int c])) (_:0<=c) (_:c<800000) (_:M l=some (.lst (rs.map D.str))) (_:rs≠[]) (_:(∀z∈rs,Asc z/\10∉z.cps.toList)) (_:wt rs<=150000) (_:∀(p:Addr) (rs':List Str) (M':MH) (x' c':Int),rs'≠[]->(∀z∈rs',Asc z/\10∉z.cps.toList)->wt rs'<=4*wt rs+600->M' p=some (.lst (rs'.map D.str))->M' r=some (.lst [.int x',.int c'])->0<=c'->c'<=c+15->Q (.ref p) M')
theorem vY(T:Tx K mg):Cal P w K mg base 4 "_law_odd" (sD2 Cn_law_odd):=by
 refine bM (k:=3) T.f_law_odd dk fun f cdv A outer s H E hr=>⟨_,(ai (eo 2 dk.nd (CScope.of (xs:=["_law_shut"]) (js:=[]) rfl) rfl (cm (c8 (CScope.of (xs:=["_law_line"]) (js:=[]) rfl) rfl (cm (dv 1)) (fun _ _ _ _=>bZ) (fun _ _ _ _=>(ak (iF T).m hr (aa (dv 0) ae))))) (fun _ _ _ _=>(vb (aA rM (dv 0) aU))) (fun _ _ _ _=>(dv 0))) (ai (aL (dJ (cW (aA (br hr.units) (dv 2) (aW ae)) (de (aA (fU hr.units) (ak (aE T).m hr (aa (dv 0) (aa af ae))) af)))) (aj (ay (ak (rZ T).m hr (aa (dv 0) (aa (dv 1) ae))))) aD) (ai (cI (aS (dv 2) (ak (aE T).m hr (aa (dv 0) (aa (aI b4 rfl T.b_len cz (aa (dv 2) ae)) ae)))) (bC rfl (aw (aB 3 dk.nd) (aw (aB 4 dk.nd) aX)))) (ai (ax 5 dk.nd (aF (aa (ak (je T).m hr (aa (aS (dv 3) af) (aa (aS (dv 4) af) ae))) (aa (ak (je T).m hr (aa (aS (dv 3) af) (aa (aS (dv 4) af) ae))) ae)))) (ai (ax 6 dk.nd (ak (aE T).m hr (aa (dv 0) (aa (ar aM (aI b4 rfl T.b_len cz (aa (dv 1) ae)) af) ae)))) (aj (ay (ar aM (ar aM (aP (dv 1) bh (aZ (dv 6))) (ak (iZ T).m hr (aa (aW (aa (aF (aa (dv 3) (aa (dv 5) ae))) ae)) ae))) (aP (dv 1) (aZ (dv 6)) bh))))))))),fun _ _ M Q h=>?_⟩;obtain⟨r,l,x0,c,rs,rfl,rfl,hr,c0,c1,hl,n0,fc,hB,k⟩:=h;have nrl:l≠r:=fW hl hr;have rl:=iY rs;have ll:(rs.map D.str).length=rs.length:=G4 ..;refine⟨_,rfl,_,hl,comp_map (fun i=>opW ((rs[i]?).bind rdo)) (by show(rs.map D.str).length<=_;rw[ll];omega) (fun p ys hp=>?_) ?_ (fun p1 hp1=>?_)⟩
 ·show(av _ p _) l=_;rw[ao (aC hl hp)];exact hl
 ·intro j e M3 hj he sb3;have he:(rs.map D.str)[j]?=some e:=he;rw[G9]at he;cases ej:rs[j]? with
  |none=>rw[ej]at he;cases he
  |some x=>
   rw[ej]at he
   cases he
   have hx:=Hh ej
   have:=pd hx
   refine⟨_,rfl,fun K2 hK2=>⟨_,rfl,x,rfl,(fc x hx).1,by omega,fun M' s'=>?_⟩⟩
   rw[HD]at hK2
   exact hK2 M' s'
 have h1:(av M p1 (.lst ((HF (rs.map D.str).length).map (fun i=>opW ((rs[i]?).bind rdo))))) p1=some (.lst ((HF rs.length).map (fun i=>opW ((rs[i]?).bind rdo)))):=by rw[ag,ll]
 have s1:SD.Sub M (av M p1 (.lst ((HF (rs.map D.str).length).map (fun i=>opW ((rs[i]?).bind rdo))))):=.new hp1 .refl;dsimp only at h1 s1 ⊢;generalize av M p1 (.lst ((HF (rs.map D.str).length).map (fun i=>opW ((rs[i]?).bind rdo))))=M1 at h1 s1 ⊢;refine⟨_,h1,uP (fun i=>((rs[i]?).bind rdo).map wq) (by show((HF rs.length).map _).length<=_;rw[G4,List.length_range];omega) (fun p ys hp=>?_) ?_ (fun p2 hp2=>?_)⟩
 ·show(av _ p _) p1=_;rw[ao (aC h1 hp)];exact h1
 ·intro j e M3 hj he sb3;have he:((HF rs.length).map (fun i=>opW ((rs[i]?).bind rdo)))[j]?=some e:=he;have hj:j<rs.length:=by have:=(Hj.mp he).1;rw[G4,List.length_range]at this;exact this
  rw[G9,List.getElem?_range hj]at he;have he:opW ((rs[j]?).bind rdo)=e:=Option.some.inj he;subst he;refine⟨_,rfl,fun K hK=>⟨_,rfl,?_⟩,fun e' he' K hK=>?_⟩
  ·cases o:(rs[j]?).bind rdo with
   |none=>rw[o]at hK;exact⟨_,rfl,_,rfl,hK⟩
   |some W=>rw[o]at hK;exact⟨_,rfl,_,rfl,hK⟩
  ·refine⟨_,rfl,?_⟩;cases o:(rs[j]?).bind rdo with
   |none=>rw[o]at he';cases he'
   |some W=>
    rw[o]at he'
    rw[show opW (some W)=e' from Option.some.inj he']
    exact hK _ .refl
 have eg:(HF ((HF rs.length).map (fun i=>opW ((rs[i]?).bind rdo))).length).filterMap (fun i=>((rs[i]?).bind rdo).map wq)=((HF rs.length).filterMap (fun i=>(rs[i]?).bind rdo)).map wq:=by rw[G4,List.length_range,List.map_filterMap]
 dsimp only;rw[eg]
 have gm:∀U∈(HF rs.length).filterMap (fun i=>(rs[i]?).bind rdo),N4 U:=fun U hU=>by
  obtain⟨i,_,hi⟩:=J3.mp hU;cases e:rs[i]? with
  |none=>rw[e]at hi;cases hi
  |some z=>rw[e,HD]at hi;exact(j7 (zl hi).1).1
 have gl:((HF rs.length).filterMap (fun i=>(rs[i]?).bind rdo)).length<=rs.length:=by
  have:=List.length_filterMap_le (fun i=>(rs[i]?).bind rdo) (HF rs.length)
  rw[List.length_range]at this
  exact this
 generalize (HF rs.length).filterMap (fun i=>(rs[i]?).bind rdo)=gs at gm gl hp2 ⊢;have h2:(av M1 p2 (.lst (gs.map wq))) p2=some (.lst (gs.map wq)):=ag;have s2:SD.Sub M (av M1 p2 (.lst (gs.map wq))):=s1.trans (.new hp2 .refl);generalize av M1 p2 (.lst (gs.map wq))=M2 at h2 s2 ⊢
 replace hl:=s2 _ _ hl
 replace hr:=s2 _ _ hr
 (try dsimp only[SD.aJ])
 have bent:∀{M3:MH} {x3 c3:Int},M3 l=some (.lst (rs.map D.str))->M3 r=some (.lst [.int x3,.int c3])->0<=c3->c3<=c+2->(sD2 Cn_law_bent) [.ref r,.ref l] M3 (Ret Q):=fun{M3 x3 c3} hl3 hr3 d0 d1=>⟨r,l,x3,c3,rs,rfl,rfl,nrl.symm,hr3,d0,by omega,hl3,n0,fun z hz=>(fc z hz).1,hB,fun p J M' x' c' ja jl nbr hp hr' e0 e1=>rtn (k p _ M' x' c' (dh J 10) (fun z hz=>⟨nN ja z hz,StrLaws.split_free J 10 z hz⟩) (by rw[qR];omega) hp hr' e0 (by omega))⟩;refine aV (fun δ M'=>∃x' c',δ=[some (.ref r),some (.ref l),some (.ref p2),none,none,none,none]/\M' l=some (.lst (rs.map D.str))/\M' r=some (.lst [.int x',.int c'])/\M' p2=some (.lst (gs.map wq))/\gs≠[]/\0<=c'/\c'<=c+2) ?_ (fun hu=>?_);rotate_left
 ·refine⟨_,rfl,nbL rfl,fun pe fe=>wm ((SD.Sub.new fe .refl) _ _ h2) ag ⟨_,rfl,?_⟩⟩;have se:=SD.Sub.new (o:=.lst []) fe (.refl (M:=M2))
  replace hl:=se _ _ hl
  replace hr:=se _ _ hr
  replace h2:=se _ _ h2
  generalize av M2 pe (.lst [])=M3 at hl hr h2 ⊢;refine bj (fun e=>bJ rfl ⟨_,rfl,_,rfl,bent hl hr c0 (by omega)⟩) (fun e=>?_);have g0:gs≠[]:=fun h=>e (decide_eq_true h);refine⟨_,rfl,r,3,x0,c,rfl,rfl,hr,c0,by omega,by decide,cD (by decide),fun x5 v5 h50 h51=>⟨trivial,_,rfl,?_⟩⟩
  have n2:p2≠r:=fun e=>by
   rw[e,hr]at h2
   have:=MO.lst.inj (Option.some.inj h2)
   cases gs with
   |nil=>cases this
   |cons U gs=>cases this
  have hl5:(av M3 r (.lst [.int x5,.int (c+1)])) l=some (.lst (rs.map D.str)):=by rw[ao nrl];exact hl
  have h25:(av M3 r (.lst [.int x5,.int (c+1)])) p2=some (.lst (gs.map wq)):=by rw[ao n2];exact h2
  have hr5:(av M3 r (.lst [.int x5,.int (c+1)])) r=some (.lst [.int x5,.int (c+1)]):=ag;generalize av M3 r (.lst [.int x5,.int (c+1)])=M4 at hl5 h25 hr5 ⊢;exact bj (fun _=>⟨_,rfl,_,rfl,bent hl5 hr5 (by omega) (by omega)⟩) (fun _=>hu _ _ ⟨x5,c+1,rfl,hl5,hr5,h25,g0,by omega,by omega⟩)
 clear hl hr h2 s2;rintro δ M3 ⟨x3,c3,rfl,hl,hr,h2,g0,c30,c31⟩
 have n2:p2≠r:=fun e=>by
  rw[e,hr]at h2
  have:=MO.lst.inj (Option.some.inj h2)
  cases gs with
  |nil=>cases this
  |cons U gs=>cases this
 have gp:0<gs.length:=List.length_pos_iff.mpr g0;have lg:(gs.map wq).length=gs.length:=G4 ..;refine⟨_,rfl,_,rfl,_,rfl,_,h2,r,_,x3,c3,rfl,rfl,hr,c30,by omega,by rw[lg];omega,cD (by rw[lg];omega),fun x4 v4 v40 v41=>?_⟩;rw[lg]at v41;obtain⟨U,hU,eU⟩:=EG v40 v41;have NU:=gm U hU;have hl4:(av M3 r (.lst [.int x4,.int (c3+1)])) l=some (.lst (rs.map D.str)):=by rw[ao nrl];exact hl
 have h24:(av M3 r (.lst [.int x4,.int (c3+1)])) p2=some (.lst (gs.map wq)):=by rw[ao n2];exact h2
 have hr4:(av M3 r (.lst [.int x4,.int (c3+1)])) r=some (.lst [.int x4,.int (c3+1)]):=ag;generalize av M3 r (.lst [.int x4,.int (c3+1)])=M4 at hl4 h24 hr4 ⊢;refine⟨_,_,h24,eU,_,rfl,rfl,_,_,rfl,_,_,rfl,rfl,?_⟩;refine⟨_,rfl,_,rfl,_,rfl,_,rfl,U.1,U.2.2.1,rfl,rfl,NU.a,NU.c,fun r1 B1=>?_⟩;refine⟨_,rfl,_,rfl,_,rfl,_,rfl,U.2.1,U.2.2.2,rfl,rfl,NU.b,NU.d,fun r2 B2=>⟨nbL rfl,?_⟩⟩;refine⟨_,rfl,_,rfl,_,hl4,r,_,x4,c3+1,rfl,rfl,hr4,by omega,by omega,by rw[ll];omega,cD (by rw[ll];omega),fun x6 at' a0 a1=>?_⟩;have hl6:(av M4 r (.lst [.int x6,.int (c3+1+1)])) l=some (.lst (rs.map D.str)):=by rw[ao nrl];exact hl4
 have hr6:(av M4 r (.lst [.int x6,.int (c3+1+1)])) r=some (.lst [.int x6,.int (c3+1+1)]):=ag;generalize av M4 r (.lst [.int x6,.int (c3+1+1)])=M6 at hl6 hr6 ⊢
 have NV:NQ 210 (U.1,U.2.1,r1,r2):=by
  have f:∀{q:Rat},N30 q->Ma.Bq 210 q:=fun{q} h=>⟨(nH h.1).mono (by decide),(nH (a:=(q.den:Int)) (by simpa using h.2)).mono (by decide)⟩
  exact⟨f NU.a,f NU.b,B1,B2⟩
 obtain⟨v1,v2,v3⟩:=tm NV;refine⟨_,rfl,_,rfl,_,rfl,slS hl6 (fun q1 N1 t1 f1 g1=>⟨_,rfl,_,rfl,nbL rfl,nbL rfl,fun q2 f2=>⟨[(U.1,U.2.1,r1,r2)],ag,nbL rfl,fun V hV=>?_,fun q3 f3=>iE (ys:=[fY (U.1,U.2.1,r1,r2)]) ((SD.Sub.new f3 .refl) _ _ ((SD.Sub.new f2 .refl) _ _ g1)) ag ?_ (fun q4 N4 t4 f4 g4=>⟨_,rfl,_,rfl,_,rfl,slN (t4 _ _ ((SD.Sub.new f3 .refl) _ _ ((SD.Sub.new f2 .refl) _ _ (t1 _ _ hl6)))) (fun q5 N5 t5 f5 g5=>iE (t5 _ _ g4) g5 ?_ (fun q6 N6 t6 f6 g6=>rtn ?_))⟩)⟩⟩)⟩
 ·rw[Hu.mp hV];exact⟨⟨NV.a.1.mono (by decide),NV.a.2.mono (by decide)⟩,⟨NV.b.1.mono (by decide),NV.b.2.mono (by decide)⟩,⟨NV.c.1.mono (by decide),NV.c.2.mono (by decide)⟩,⟨NV.d.1.mono (by decide),NV.d.2.mono (by decide)⟩⟩
 ·have:=bG rs none (some at');show wt _+((fY (U.1,U.2.1,r1,r2)).length+1+0)<=_;omega
 ·have:=bG rs none (some at');have:=bG rs (some at') none;rw[bV];show wt _+((fY (U.1,U.2.1,r1,r2)).length+1+0)+_<=_;omega
 have S6:SD.Sub M6 N6:=t1.trans ((SD.Sub.new f2 .refl).trans ((SD.Sub.new f3 .refl).trans (t4.trans (t5.trans t6))));refine k q6 _ N6 x6 (c3+1+1) (by simp) (fun z hz=>?_) ?_ g6 (S6 _ _ hr6) (by omega) (by omega)
 ·rcases Hv.mp hz with h|h
  ·rcases Hv.mp h with h|h
   ·exact fc z (cM h)
   ·rw[Hu.mp h];exact⟨v1,v2⟩
  ·exact fc z (cM h)
 ·have:=fH a0 (Int.le_refl at') rs;rw[bV,bV];show wt _+((fY (U.1,U.2.1,r1,r2)).length+1+0)+_<=_;omega
theorem nB:FnScope ["_law_one","_law_other"] ["_law_one","_law_other"] (aq jt):=by walk_at "sc"
inductive Cn_law_before(x y:D)(M:MH)(Q:DK):Prop
 |mk (a b c d:Rat) (_:x=Ma.spt a b) (_:y=Ma.spt c d) (_:Ma.Bq 100 a) (_:Ma.Bq 100 b) (_:Ma.Bq 100 c) (_:Ma.Bq 100 d) (_:Q (.bl (decide (Ma.ah a b c d))) M)
theorem i9(T:Tx K mg):Cal P w K mg base 1 "_law_before" (sD2 Cn_law_before):=by
 refine bM (k:=0) T.f_law_before nB fun f cdv A outer s H E hr=>⟨_,(ai (aL (aA (n8 hr.units) (au (dv 0) af) (au (dv 1) af)) (aj (ay (bX (e7 hr.units) (ar aH (au (au (dv 0) af) af) (au (au (dv 1) af) af)) (ar aH (au (au (dv 1) af) af) (au (au (dv 0) af) af))))) aD) (aj (ay (bX (e7 hr.units) (ar aH (au (au (dv 0) af) af) (au (au (dv 1) af) af)) (ar aH (au (au (dv 1) af) af) (au (au (dv 0) af) af)))))),fun _ _ M Q h=>?_⟩;obtain⟨a,b,c,d,rfl,rfl,ha,hb,hc,hd,k⟩:=h;have lt:∀(q r:Rat),decide (q.num*(r.den:Int)<r.num*(q.den:Int))=decide (q<r):=Ma.BO;have m1:=ha.mOk hc (by decide);have m2:=hb.mOk hd (by decide);refine⟨_,rfl,_,rfl,_,rfl,_,rfl,_,_,Pd.of rfl,Pd.of rfl,rfl,rfl,_,rfl,?_⟩;rw[Ma.mH];refine bj (fun e=>?_) (fun e=>?_)
 ·have e:¬a=c:=by simpa using e
  refine⟨_,rfl,_,rfl,_,rfl,_,rfl,_,rfl,_,rfl,m1.2.1,_,rfl,_,rfl,_,rfl,_,rfl,_,rfl,_,rfl,m1.2.2.1,trivial,?_⟩;dsimp only;rw[lt,decide_eq_decide.mpr (show a<c↔Ma.ah a b c d from⟨fun h=>.inl h,fun h=>h.elim id (fun h=>absurd h.1 e)⟩)];exact rtn k
 ·have e:a=c:=by simpa using e
  subst e;refine⟨_,rfl,_,rfl,_,rfl,_,rfl,_,rfl,_,rfl,m2.2.1,_,rfl,_,rfl,_,rfl,_,rfl,_,rfl,_,rfl,m2.2.2.1,trivial,?_⟩;dsimp only;rw[lt,decide_eq_decide.mpr (show b<d↔Ma.ah a b a d from⟨fun h=>.inr ⟨rfl,h⟩,fun h=>h.elim (fun h=>absurd h Rat.lt_irrefl) (fun h=>h.2)⟩)];exact rtn k
theorem aQ:FnScope ["_law_one","_law_two","_law_three","_law_gaps","_law_spot_here","_law_place","_law_a","_law_b","_law_c","_law_d","_law_e","_law_f","_law_g","_law_h","_law_found"] ["_law_one","_law_two","_law_three"] (aq kz):=by walk_at "sc"
def gpD(q r:Rat):D:=.tup [.int (q.num*(r.den:Int)-r.num*(q.den:Int)),.int ((q.den:Int)*(r.den:Int))]
inductive Cn_law_cross(u v w:D)(M:MH)(Q:DK):Prop
 |mk (x0 y0 x1 y1 x2 y2:Rat) (_:u=Ma.spt x0 y0) (_:v=Ma.spt x1 y1) (_:w=Ma.spt x2 y2) (_:Ma.Bq 100 x0) (_:Ma.Bq 100 y0) (_:Ma.Bq 100 x1) (_:Ma.Bq 100 y1) (_:Ma.Bq 100 x2) (_:Ma.Bq 100 y2) (_:∀M',SD.Sub M M'->Q (.int (Ma.sgn (Ma.cr x0 y0 x1 y1 x2 y2))) M')
theorem gJ(T:Tx K mg):Cal P w K mg base 1 "_law_cross" (sD3 Cn_law_cross):=by
 refine qO (k:=0) T.f_law_cross aQ fun f cdv A outer s H E hr=>⟨_,(ai (ax 3 aQ.nd (aW ae)) (ai (eG Ie rfl (cm (aF (aa (dv 1) (aa (dv 2) ae)))) (aB 4 aQ.nd) (aj (jC Ie rfl rfl T.b_range (aa af ae) (aB 5 aQ.nd) (ai (cI (aF (aa (au (dv 4) (dv 5)) (aa (au (dv 0) (dv 5)) ae))) (bC rfl (aw (bC rfl (aw (aB 6 aQ.nd) (aw (aB 7 aQ.nd) aX))) (aw (bC rfl (aw (aB 8 aQ.nd) (aw (aB 9 aQ.nd) aX))) aX)))) (aj (cO (bw (dv 3) (aa (aF (aa (ar cB (ar aH (dv 6) (dv 9)) (ar aH (dv 8) (dv 7))) (aa (ar aH (dv 7) (dv 9)) ae))) ae)))))))) (ai (cI (dv 3) (yK rfl (aw (bC rfl (aw (aB 6 aQ.nd) (aw (aB 7 aQ.nd) aX))) (aw (bC rfl (aw (aB 8 aQ.nd) (aw (aB 9 aQ.nd) aX))) (aw (bC rfl (aw (aB 10 aQ.nd) (aw (aB 11 aQ.nd) aX))) (aw (bC rfl (aw (aB 12 aQ.nd) (aw (aB 13 aQ.nd) aX))) aX)))))) (ai (ax 14 aQ.nd (ar cB (ar aH (ar aH (ar aH (dv 6) (dv 12)) (dv 9)) (dv 11)) (ar aH (ar aH (ar aH (dv 8) (dv 10)) (dv 7)) (dv 13)))) (aj (ay (ar cB (aT jN rfl T.b_int dj (aa (bX (fU hr.units) (dv 14) af) ae)) (aT jN rfl T.b_int dj (aa (bX (e7 hr.units) (dv 14) af) ae))))))))),fun _ _ _ M Q h=>?_⟩;obtain⟨x0,y0,x1,y1,x2,y2,rfl,rfl,rfl,hx0,hy0,hx1,hy1,hx2,hy2,k⟩:=h;refine⟨nbL rfl,fun l hl=>?_⟩;have sb0:SD.Sub M (av M l (.lst [])):=.new hl .refl;have h0:av M l (.lst []) l=some (.lst []):=ag;generalize av M l (.lst [])=M1 at sb0 h0;(try dsimp only[SD.aJ])
 refine aV (fun δ M'=>SD.Sub M M'/\M' l=some (.lst [gpD x1 x0,gpD y1 y0,gpD x2 x0,gpD y2 y0])/\∃o4 o5 o6 o7 o8 o9,δ=[some (Ma.spt x0 y0),some (Ma.spt x1 y1),some (Ma.spt x2 y2),some (.ref l),o4,o5,o6,o7,o8,o9,none,none,none,none,none]) ?_ (fun hu=>?_);rotate_left
 ·have step:∀{q r:Rat},Ma.Bq 100 q->Ma.Bq 100 r->IntMulOk q.num (r.den:Int)/\IntMulOk r.num (q.den:Int)/\IntMulOk (q.den:Int) (r.den:Int):=fun a b=>(a.mOk b (by decide)).2;refine⟨_,rfl,_,rfl,nbL rfl,[Ma.spt x1 y1,Ma.spt x2 y2],rfl,?_⟩;refine⟨fun i δ M'=>SD.Sub M M'/\M' l=some (.lst ([gpD x1 x0,gpD y1 y0,gpD x2 x0,gpD y2 y0].take (2*i)))/\∃o4 o5 o6 o7 o8 o9,δ=[some (Ma.spt x0 y0),some (Ma.spt x1 y1),some (Ma.spt x2 y2),some (.ref l),o4,o5,o6,o7,o8,o9,none,none,none,none,none],⟨sb0,h0,_,_,_,_,_,_,rfl⟩,fun _ _ _ _ _=>rfl,?_,?_⟩
  ·rintro i d δ M' hi hd ⟨sb,hM,o4,o5,o6,o7,o8,o9,rfl⟩;have hi:i<2:=hi;have hd:[Ma.spt x1 y1,Ma.spt x2 y2][i]?=some d:=hd
   obtain⟨x,y,rfl,hx,hy,e1,e2⟩:∃x y,d=Ma.spt x y/\Ma.Bq 100 x/\Ma.Bq 100 y/\[gpD x1 x0,gpD y1 y0,gpD x2 x0,gpD y2 y0].take (2*i+1)=[gpD x1 x0,gpD y1 y0,gpD x2 x0,gpD y2 y0].take (2*i)++[gpD x x0]/\[gpD x1 x0,gpD y1 y0,gpD x2 x0,gpD y2 y0].take (2*(i+1))=[gpD x1 x0,gpD y1 y0,gpD x2 x0,gpD y2 y0].take (2*i+1)++[gpD y y0]:=by
    rcases(show i=0\/i=1 by omega)with rfl|rfl
    ·cases hd;exact⟨x1,y1,rfl,hx1,hy1,rfl,rfl⟩
    ·cases hd;exact⟨x2,y2,rfl,hx2,hy2,rfl,rfl⟩
   refine⟨2,rfl,by decide,fun j δ M''=>SD.Sub M M''/\M'' l=some (.lst ([gpD x1 x0,gpD y1 y0,gpD x2 x0,gpD y2 y0].take (2*i+j)))/\∃o5 o6 o7 o8 o9,δ=[some (Ma.spt x0 y0),some (Ma.spt x1 y1),some (Ma.spt x2 y2),some (.ref l),some (Ma.spt x y),o5,o6,o7,o8,o9,none,none,none,none,none],⟨sb,hM,_,_,_,_,_,rfl⟩,?_,?_⟩
   ·rintro j δ M'' hj ⟨sb,hM,o5,o6,o7,o8,o9,rfl⟩;rcases(show j=0\/j=1 by omega)with rfl|rfl
    ·(repeat (first|refine⟨_,rfl,?_⟩|refine⟨trivial,?_⟩|refine⟨_,_,rfl,?_⟩|refine⟨rfl,?_⟩|refine⟨nbL rfl,?_⟩))
     have m:=step hx hx0;refine⟨l,_,rfl,hM,_,rfl,_,rfl,m.1,_,rfl,_,rfl,m.2.1,trivial,_,rfl,_,rfl,m.2.2,nbL rfl,_,_,rfl,hM,?_,?_⟩
     ·have:=List.length_take_le (2*i+0) [gpD x1 x0,gpD y1 y0,gpD x2 x0,gpD y2 y0];omega
     ·refine⟨fun u o e=>by rw[ao (aC e hl)];exact sb _ _ e,?_,_,_,_,_,_,rfl⟩;rw[ag,e1];rfl
    ·(repeat (first|refine⟨_,rfl,?_⟩|refine⟨trivial,?_⟩|refine⟨_,_,rfl,?_⟩|refine⟨rfl,?_⟩|refine⟨nbL rfl,?_⟩))
     have m:=step hy hy0;refine⟨l,_,rfl,hM,_,rfl,_,rfl,m.1,_,rfl,_,rfl,m.2.1,trivial,_,rfl,_,rfl,m.2.2,nbL rfl,_,_,rfl,hM,?_,?_⟩
     ·have:=List.length_take_le (2*i+1) [gpD x1 x0,gpD y1 y0,gpD x2 x0,gpD y2 y0];omega
     ·refine⟨fun u o e=>by rw[ao (aC e hl)];exact sb _ _ e,?_,_,_,_,_,_,rfl⟩;rw[ag,show 2*i+(1+1)=2*(i+1) by omega,e2];rfl
   ·rintro δ M'' ⟨sb,hM,o5,o6,o7,o8,o9,rfl⟩;exact⟨sb,hM,_,_,_,_,_,_,rfl⟩
  ·rintro δ M' ⟨sb,hM,o4,o5,o6,o7,o8,o9,rfl⟩;exact hu _ _ ⟨sb,hM,_,_,_,_,_,_,rfl⟩
 rintro δ M' ⟨sb,hM,o4,o5,o6,o7,o8,o9,rfl⟩;refine⟨_,rfl,l,_,rfl,hM,rfl,?_⟩;(repeat (first|refine⟨_,rfl,?_⟩|refine⟨trivial,?_⟩|refine⟨_,_,rfl,?_⟩|refine⟨rfl,?_⟩|refine⟨nbL rfl,?_⟩))
 have mo:∀{m:Nat} {i:Int},Bd m i->m<=1000000->Bd 1000000 i:=fun z l=>z.mono l;have q1:=hx1.iG hx0;have q2:=hy1.iG hy0;have q3:=hx2.iG hx0;have q4:=hy2.iG hy0;have e1:=hx1.2.mul hx0.2;have e2:=hy1.2.mul hy0.2;have e3:=hx2.2.mul hx0.2;have e4:=hy2.2.mul hy0.2;refine⟨cL (mo q1 (by decide)) (mo q4 (by decide)),_,rfl,cL (mo (q1.mul q4) (by decide)) (mo e2 (by decide)),_,rfl,cL (mo ((q1.mul q4).mul e2) (by decide)) (mo e3 (by decide)),?_⟩;refine⟨_,rfl,_,rfl,cL (mo q2 (by decide)) (mo q3 (by decide)),_,rfl,cL (mo (q2.mul q3) (by decide)) (mo e1 (by decide)),_,rfl,cL (mo ((q2.mul q3).mul e1) (by decide)) (mo e4 (by decide)),trivial,?_⟩;refine⟨_,rfl,trivial,_,rfl,trivial,trivial,?_⟩;dsimp only;have pe:∀q r:Rat,0<(q.den:Int)*(r.den:Int):=fun q r=>II (Ma.den_pos q) (Ma.den_pos r);have le:=Ma.vm x0 y0 x1 y1 x2 y2;have lp:=II (II (pe x1 x0) (pe y2 y0)) (II (pe y1 y0) (pe x2 x0));have kk:=k M' sb;rw[<-le,Ma.ui lp]at kk;refine rtn ?_;have e9:∀p r s t v w:Int,p*r*s-t*v*w=p*(r*s)-t*(v*w):=fun p r s t v w=>by rw[Int.mul_assoc p r s,Int.mul_assoc t v w]
 rw[e9];generalize (x1.num*(x0.den:Int)-x0.num*(x1.den:Int))*(y2.num*(y0.den:Int)-y0.num*(y2.den:Int))*((y1.den:Int)*(y0.den:Int)*((x2.den:Int)*(x0.den:Int)))-(y1.num*(y0.den:Int)-y0.num*(y1.den:Int))*(x2.num*(x0.den:Int)-x0.num*(x2.den:Int))*((x1.den:Int)*(x0.den:Int)*((y2.den:Int)*(y0.den:Int)))=g at kk ⊢;rcases Ij g 0 with h|h|h
 ·rw[if_neg (by omega),if_pos h]at kk;rw[if_neg (by simp;omega),if_pos (by simpa using h)];exact kk
 ·rw[if_neg (by omega),if_neg (by omega)]at kk;rw[if_neg (by simp;omega),if_neg (by simp;omega)];exact kk
 ·rw[if_pos h]at kk;rw[if_pos (by simpa using h),if_neg (by simp;omega)];exact kk
theorem cF:FnScope ["_law_one","_law_other","_law_shut","_law_beside","_law_spot_here","_law_out","_law_sides","_law_others"] ["_law_one","_law_other"] (aq mS):=by walk_at "sc"
inductive Cn_law_fits(u v:D)(M:MH)(Q:DK):Prop
 |mk (U V:RW) (_:u=wq U) (_:v=wq V) (_:NQ 100 U) (_:NQ 100 V) (_:∀M',SD.Sub M M'->Q (.bl (cA U V)) M')
theorem tE(T:Tx K mg):Cal P w K mg base 2 "_law_fits" (sD2 Cn_law_fits):=by
 refine bM (k:=1) T.f_law_fits cF fun f cdv A outer s H E hr=>⟨_,(ai (aL (aA (eE hr.units) (dv 0) (dv 1)) (aj (ay jo)) aD) (ai (eG Ie rfl (cm (aF (aa (aF (aa (dv 0) (aa (dv 1) ae))) (aa (aF (aa (dv 1) (aa (dv 0) ae))) ae)))) (bC rfl (aw (aB 2 cF.nd) (aw (aB 3 cF.nd) aX))) (aj (eG Ie rfl (cm (dv 3)) (aB 4 cF.nd) (ai (ax 5 cF.nd (ue (ak (i9 T).m hr (aa (dv 4) (aa (au (dv 2) af) ae))) (iW (ak (i9 T).m hr (aa (au (dv 2) af) (aa (dv 4) ae)))))) (aj (aL (dJ (df (aA (mG (qd hr)) (dv 4) (dv 2) (by with_unfolding_all rfl)) (df (gf (cH (dv 5))) (dg (aA (eE hr.units) (ak (gJ T).m hr (aa (au (dv 2) af) (aa (au (dv 2) af) (aa (dv 4) ae)))) af))))) (aj (ay jo)) aD)))))) (ai (eo 6 cF.nd (CScope.of (xs:=["_law_spot_here"]) (js:=[0]) rfl) rfl (cm (dv 1)) (fun _ _ _ _=>bZ) (fun _ _ _ _=>(ak (gJ T).m hr (aa (au (dv 1) af) (aa (au (dv 1) af) (aa (dv 0) ae)))))) (ai (eo 7 cF.nd (CScope.of (xs:=["_law_spot_here"]) (js:=[1]) rfl) rfl (cm (dv 0)) (fun _ _ _ _=>bZ) (fun _ _ _ _=>(ak (gJ T).m hr (aa (au (dv 1) af) (aa (au (dv 1) af) (aa (dv 0) ae)))))) (aj (ay (ue (bX (j9 hr.units) (ar aH (au (dv 6) af) (au (dv 6) af)) af) (iW (bX (j9 hr.units) (ar aH (au (dv 7) af) (au (dv 7) af)) af))))))))),fun _ _ M Q h=>?_⟩;obtain⟨U,V,rfl,rfl,HU,HV,k⟩:=h;refine⟨_,rfl,_,rfl,_,_,Pd.of rfl,Pd.of rfl,rfl,rfl,_,rfl,?_⟩;have ew:=xN U V;unfold gy at ew;rw[ew];refine bj (fun h=>rtn (by have k:=k M .refl;rw[DP h]at k;exact k)) (fun h=>?_);have hne:eqQ U V=false:=eq_false_of_ne_true h;dsimp only[SD.a9];refine aV (fun δ M'=>SD.Sub M M'/\(∃o2 o3 o4 o5,δ=[some (wq U),some (wq V),o2,o3,o4,o5,none,none])/\(inQ U V.1 V.2.1=false/\inQ U V.2.2.1 V.2.2.2=false)/\(inQ V U.1 U.2.1=false/\inQ V U.2.2.1 U.2.2.2=false)) ?_ (fun hu=>?_);rotate_left
 ·refine⟨_,rfl,_,rfl,nbL rfl,_,rfl,_,rfl,nbL rfl,nbL rfl,[.tup [wq U,wq V],.tup [wq V,wq U]],rfl,?_⟩;refine⟨fun i δ M'=>SD.Sub M M'/\(∃o2 o3 o4 o5,δ=[some (wq U),some (wq V),o2,o3,o4,o5,none,none])/\(0<i->inQ U V.1 V.2.1=false/\inQ U V.2.2.1 V.2.2.2=false)/\(1<i->inQ V U.1 U.2.1=false/\inQ V U.2.2.1 U.2.2.2=false),⟨.refl,⟨_,_,_,_,rfl⟩,fun z=>absurd z (by decide),fun z=>absurd z (by decide)⟩,fun _ _ _ _ _=>rfl,?_,?_⟩
  ·rintro i d δ M' hi hd ⟨sb,⟨o2,o3,o4,o5,rfl⟩,p1,p2⟩;have hi:i<2:=hi;have hd:[D.tup [wq U,wq V],.tup [wq V,wq U]][i]?=some d:=hd
   have pick:∃A B,d=.tup [wq A,wq B]/\NQ 100 A/\NQ 100 B/\(inQ A B.1 B.2.1=true->cA U V=false)/\(inQ A B.2.2.1 B.2.2.2=true->cA U V=false)/\((inQ A B.1 B.2.1=false/\inQ A B.2.2.1 B.2.2.2=false)->(0<i+1->inQ U V.1 V.2.1=false/\inQ U V.2.2.1 V.2.2.2=false)/\(1<i+1->inQ V U.1 U.2.1=false/\inQ V U.2.2.1 U.2.2.2=false)):=by
    rcases(show i=0\/i=1 by omega)with rfl|rfl
    ·cases hd;exact⟨U,V,rfl,HU,HV,D9,Cr,fun z=>⟨fun _=>z,fun y=>absurd y (by decide)⟩⟩
    ·cases hd;exact⟨V,U,rfl,HV,HU,Dk,Ce,fun z=>⟨fun _=>p1 (by decide),fun _=>z⟩⟩
   obtain⟨A,B,rfl,HA,HB,f1,f2,nxt⟩:=pick;refine⟨_,rfl,rfl,_,_,rfl,_,_,rfl,rfl,?_⟩;refine⟨_,rfl,[Ma.spt B.1 B.2.1,Ma.spt B.2.2.1 B.2.2.2],rfl,?_⟩;refine⟨fun j δ M''=>SD.Sub M M''/\(∃o4 o5,δ=[some (wq U),some (wq V),some (wq A),some (wq B),o4,o5,none,none])/\(0<j->inQ A B.1 B.2.1=false)/\(1<j->inQ A B.2.2.1 B.2.2.2=false),⟨sb,⟨_,_,rfl⟩,fun z=>absurd z (by decide),fun z=>absurd z (by decide)⟩,fun _ _ _ _ _=>rfl,?_,?_⟩
   ·rintro j d δ M'' hj hd ⟨sb,⟨o4,o5,rfl⟩,q1,q2⟩;have hj:j<2:=hj;have hd:[Ma.spt B.1 B.2.1,Ma.spt B.2.2.1 B.2.2.2][j]?=some d:=hd
    have pk:∃x y,d=Ma.spt x y/\Ma.Bq 100 x/\Ma.Bq 100 y/\(inQ A x y=true->cA U V=false)/\(inQ A x y=false->(0<j+1->inQ A B.1 B.2.1=false)/\(1<j+1->inQ A B.2.2.1 B.2.2.2=false)):=by
     rcases(show j=0\/j=1 by omega)with rfl|rfl
     ·cases hd;exact⟨_,_,rfl,HB.a,HB.b,f1,fun z=>⟨fun _=>z,fun y=>absurd y (by decide)⟩⟩
     ·cases hd;exact⟨_,_,rfl,HB.c,HB.d,f2,fun z=>⟨fun _=>q1 (by decide),fun _=>z⟩⟩
    obtain⟨x,y,rfl,bx,by',ff,nx2⟩:=pk;(try dsimp only[SD.bK,SD.bH,SD.aJ,SD.bR,SD.bO,SD.a9,SD.bg,SD.tBD,SD.bP])
    refine orV (decide (Ma.ah x y A.1 A.2.1)) (decide (Ma.ah A.2.2.1 A.2.2.2 x y)) (fun K hK=>⟨_,rfl,_,rfl,_,rfl,_,_,_,_,rfl,rfl,bx,by',HA.a,HA.b,hK⟩) (fun _ K hK=>⟨_,rfl,_,rfl,_,rfl,_,_,_,_,rfl,rfl,HA.c,HA.d,bx,by',hK⟩) ?_;have ie:=Ct A x y;have gw:∀{M1},SD.Sub M M1->inQ A x y=false->_:=fun{M1} s1 c=>(⟨s1,⟨_,_,rfl⟩,nx2 c⟩:SD.Sub M M1/\(∃o4 o5,[some (wq U),some (wq V),some (wq A),some (wq B),some (Ma.spt x y),some (D.bl (decide (Ma.ah x y A.1 A.2.1)||decide (Ma.ah A.2.2.1 A.2.2.2 x y))),none,none]=[some (wq U),some (wq V),some (wq A),some (wq B),o4,o5,none,none])/\(0<j+1->inQ A B.1 B.2.1=false)/\(1<j+1->inQ A B.2.2.1 B.2.2.2=false));refine⟨_,rfl,_,rfl,Aj _ _ ⟨_,rfl,?_⟩⟩;refine bj (fun c1=>?_) (fun c1=>?_)
    ·refine⟨_,rfl,_,rfl,?_⟩;refine bj (fun c2=>?_) (fun c2=>?_)
     ·refine⟨_,rfl,_,rfl,_,rfl,_,rfl,_,rfl,_,_,_,_,_,_,rfl,rfl,rfl,HA.a,HA.b,HA.c,HA.d,bx,by',fun M1 s1=>⟨_,rfl,?_⟩⟩;refine bj (fun c3=>?_) (fun c3=>?_)
      ·refine rtn ?_;have:=k M1 (sb.trans s1);rw[ff (by rw[ie,c1,c2];exact c3)]at this;exact this
      ·exact gw (sb.trans s1) (by rw[ie,c1,c2];exact eq_false_of_ne_true c3)
     ·exact b7 rfl (gw sb (by rw[ie,eq_false_of_ne_true c2,Bool.false_and,Bool.and_false]))
    ·exact b7 rfl (gw sb (by rw[ie,eq_false_of_ne_true c1,Bool.false_and]))
   ·rintro δ M'' ⟨sb,⟨o4,o5,rfl⟩,q1,q2⟩;exact⟨sb,⟨_,_,_,_,rfl⟩,nxt ⟨q1 (show 0<2 by decide),q2 (show 1<2 by decide)⟩⟩
  ·rintro δ M' ⟨sb,⟨o2,o3,o4,o5,rfl⟩,p1,p2⟩;exact hu _ _ ⟨sb,⟨_,_,_,_,rfl⟩,p1 (show 0<2 by decide),p2 (show 1<2 by decide)⟩
 rintro δ M' ⟨sb,⟨o2,o3,o4,o5,rfl⟩,⟨e1,e2⟩,⟨e3,e4⟩⟩;refine⟨_,rfl,[Ma.spt V.1 V.2.1,Ma.spt V.2.2.1 V.2.2.2],rfl,comp_map (fun j=>if j=0 then .int (Ma.sgn (crQ U V.1 V.2.1))else .int (Ma.sgn (crQ U V.2.2.1 V.2.2.2))) (nbL rfl) (fun _ _ _=>rfl) ?_ (fun p hp=>?_)⟩
 ·intro j e' M2 hj he' _;have hj:j<2:=hj;have he':[Ma.spt V.1 V.2.1,Ma.spt V.2.2.1 V.2.2.2][j]?=some e':=he';rcases(show j=0\/j=1 by omega)with rfl|rfl
  ·cases he';exact⟨_,rfl,fun K2 hK2=>⟨_,rfl,_,rfl,_,rfl,_,rfl,_,rfl,_,_,_,_,_,_,rfl,rfl,rfl,HU.a,HU.b,HU.c,HU.d,HV.a,HV.b,fun M' s'=>hK2 M' s'⟩⟩
  ·cases he';exact⟨_,rfl,fun K2 hK2=>⟨_,rfl,_,rfl,_,rfl,_,rfl,_,rfl,_,_,_,_,_,_,rfl,rfl,rfl,HU.a,HU.b,HU.c,HU.d,HV.c,HV.d,fun M' s'=>hK2 M' s'⟩⟩
 refine⟨_,rfl,[Ma.spt U.1 U.2.1,Ma.spt U.2.2.1 U.2.2.2],rfl,comp_map (fun j=>if j=0 then .int (Ma.sgn (crQ V U.1 U.2.1))else .int (Ma.sgn (crQ V U.2.2.1 U.2.2.2))) (nbL rfl) (fun _ _ _=>rfl) ?_ (fun p2 hp2=>?_)⟩
 ·intro j e' M2 hj he' _;have hj:j<2:=hj;have he':[Ma.spt U.1 U.2.1,Ma.spt U.2.2.1 U.2.2.2][j]?=some e':=he';rcases(show j=0\/j=1 by omega)with rfl|rfl
  ·cases he';exact⟨_,rfl,fun K2 hK2=>⟨_,rfl,_,rfl,_,rfl,_,rfl,_,rfl,_,_,_,_,_,_,rfl,rfl,rfl,HV.a,HV.b,HV.c,HV.d,HU.a,HU.b,fun M' s'=>hK2 M' s'⟩⟩
  ·cases he';exact⟨_,rfl,fun K2 hK2=>⟨_,rfl,_,rfl,_,rfl,_,rfl,_,rfl,_,_,_,_,_,_,rfl,rfl,rfl,HV.a,HV.b,HV.c,HV.d,HU.c,HU.d,fun M' s'=>hK2 M' s'⟩⟩
 have n12:p≠p2:=aC ag hp2;have c1:(av (av M' p (.lst [.int (Ma.sgn (crQ U V.1 V.2.1)),.int (Ma.sgn (crQ U V.2.2.1 V.2.2.2))])) p2 (.lst [.int (Ma.sgn (crQ V U.1 U.2.1)),.int (Ma.sgn (crQ V U.2.2.1 U.2.2.2))])) p=some (.lst [.int (Ma.sgn (crQ U V.1 V.2.1)),.int (Ma.sgn (crQ U V.2.2.1 V.2.2.2))]):=by rw[ao n12,ag]
 (try dsimp only[SD.bK,SD.bH,SD.aJ,SD.bR,SD.bO,SD.a9,SD.bg,SD.tBD,SD.bP])
 refine orV (decide (0<=Ma.sgn (crQ U V.1 V.2.1)*Ma.sgn (crQ U V.2.2.1 V.2.2.2))) (decide (0<=Ma.sgn (crQ V U.1 U.2.1)*Ma.sgn (crQ V U.2.2.1 U.2.2.2))) (fun K hK=>⟨_,rfl,_,_,c1,rfl,_,rfl,_,_,c1,rfl,bI (sP _),trivial,hK⟩) (fun _ K hK=>⟨_,rfl,_,_,ag,rfl,_,rfl,_,_,ag,rfl,bI (sP _),trivial,hK⟩) ?_;refine rtn ?_;rw[<-AN hne e1 e2 e3 e4];exact k _ (sb.trans (.new hp2 (.new hp .refl)))
theorem cE:FnScope ["_law_asks","_law_lines","_law_shuts","_law_spots","_law_number_here","_law_line","_law_words","_law_shut","_law_spot_here"] ["_law_asks","_law_lines"] (aq ou):=by walk_at "sc"
inductive Cn_law_due(y x:D)(M:MH)(Q:DK):Prop
 |mk (f:Bool) (a:Addr) (rs:List Str) (_:y=.int (if f=true then 1 else 0)) (_:x=.ref a) (_:M a=some (.lst (rs.map D.str))) (_:(∀r∈rs,r.cps.all (· < 128)=true/\r.length<=900000)) (_:rs.length<=900000) (_:∀M' d,SD.Sub M M'->pF f rs d M'->Q d M')
theorem vM(T:Tx K mg):Cal P w K mg base 4 "_law_due" (sD2 Cn_law_due):=by
 refine bM (k:=3) T.f_law_due cE fun f cdv A outer s H E hr=>⟨_,(ai (ax 2 cE.nd (aW ae)) (ai (ax 3 cE.nd (aW ae)) (ai (eG Ie rfl (ib rfl T.b_enumerate (aa (dv 1) ae)) (bC rfl (aw (aB 4 cE.nd) (aw (aB 5 cE.nd) aX))) (ai (ax 6 cE.nd (cQ (dv 5) (aa aG ae))) (ai (ax 7 cE.nd (ak (iF T).m hr (aa (dv 5) ae))) (ai (eo 8 cE.nd (CScope.of (xs:=["_law_word"]) (js:=[]) rfl) rfl (cm (yq (dv 6) (aZ af) bh)) (fun _ _ _ _=>bZ) (fun _ _ _ _=>(ak (gA T).m hr (aa (dv 0) ae)))) (aj (aL (dJ (df (aA (br hr.units) (dv 0) af) (df (aA (br hr.units) (aS (dv 6) af) aG) (df (aA (br hr.units) (aI b4 rfl T.b_len cz (aa (dv 8) ae)) af) (dg (aA (jL (qd hr)) aU (dv 8) (by with_unfolding_all rfl))))))) (aj (cO (bw (dv 3) (aa (aT fu rfl T.b_tuple fB (aa (dv 8) ae)) ae)))) (aj (aL (dJ (cW (aA dN (dv 7) aU) (cW (aA (d9 hr.units) (dv 3) (aW ae)) (de (aA (br hr.units) (aI b4 rfl T.b_len cz (aa (dv 2) ae)) af))))) (aj (ay (aF (aa aG (aa (dv 4) ae))))) (aj (aL (gf (cH (aI (xF rfl) rfl T.b_all x9 (aa (c8 (CScope.of (xs:=["_law_other"]) (js:=[7]) rfl) rfl (cm (dv 2)) (fun _ _ _ _=>bZ) (fun _ _ _ _=>(ak (tE T).m hr (aa (dv 1) (aa (dv 0) ae))))) ae)))) (aj (ay (aF (aa aG (aa (dv 4) ae))))) (aj (cO (bw (dv 2) (aa (dv 7) ae)))))))))))))) (aj (ay (aF (aa aG (aa (aS (aW (aa (aT fu rfl T.b_tuple fB (aa (dv 2) ae)) (aa (aF (aa (aT fu rfl T.b_tuple fB (aa (dv 2) ae)) (aa (dv 3) ae))) ae))) (dv 0)) ae)))))))),fun _ _ M Q h=>?_⟩;obtain⟨f,a,rs,rfl,rfl,ha,hr,hrl,k⟩:=h;refine⟨nbL rfl,fun l hl=>⟨nbL rfl,fun p1 hp1=>?_⟩⟩;have nal:a≠l:=aC ha hl;have nlp:l≠p1:=aC ag hp1;have S0:SD.Sub M (av (av M l (.lst [])) p1 (.lst [])):=.new hp1 (.new hl .refl);have fr:∀{u:Addr} {o:MO},M u=some o->u≠l/\u≠p1:=fun{u o} e=>⟨aC e hl,aC ((SD.Sub.new hl .refl) _ _ e) hp1⟩;refine⟨_,rfl,a,_,rfl,S0 _ _ ha,?_⟩;refine⟨fun i δ M'=>(∃o3 o4 o5 o6 o7,δ=[some (.int (if f=true then 1 else 0)),some (.ref a),some (.ref l),some (.ref p1),o3,o4,o5,o6,o7])/\∃vs qs,sfQ f rs i=some (vs,qs)/\M' l=some (.lst (vs.map wq))/\M' p1=some (.lst (qs.map spq))/\SD.Sub M M',⟨⟨_,_,_,_,_,rfl⟩,[],[],rfl,by rw[ao nlp,ag];rfl,by rw[ag];rfl,S0⟩,fun i δ M' _ z=>by obtain⟨_,_,_,_,_,_,sb⟩:=z;exact sb _ _ ha,?_,?_⟩
 ·rintro i d δ M' hi hd ⟨⟨o3,o4,o5,o6,o7,rfl⟩,vs,qs,g,h0,h1,sb⟩;have hd:((rs.map D.str)[i]?).map (fun d=>D.tup [.int (i:Int),d])=some d:=hd;rw[G9]at hd;cases ew:rs[i]? with
  |none=>rw[ew]at hd;cases hd
  |some w=>
   rw[ew]at hd
   cases hd
   have hil:=(Hj.mp ew).1
   have ok:=jU g
   have nx:=gC g ew
   obtain⟨wa,wl⟩:=hr w (Hh ew)
   have ret:sfq f vs qs w=none->∀{M3},SD.Sub M M3->Ret Q (.tup [.str "no text",.int (i:Int)]) M3:=fun hn {M3} s3=>rtn (k M3 _ s3 (.inr ⟨i,vs,qs,hil,g,by rw[nx,hn],rfl⟩))
   obtain⟨f1,f2⟩:=cU 32 w
   obtain⟨wd,ws,es⟩:∃wd ws,HN w ⟨#[32]⟩=wd::ws:=by
    cases e:HN w ⟨#[32]⟩with
    |nil=>exact absurd e (dh w 32)
    |cons a b=>exact⟨a,b,rfl⟩
   have iff:=oq es
   rw[es]at f1 f2
   have lw:ws.length<=900000:=by simp at f1;omega
   refine⟨_,rfl,rfl,_,_,rfl,_,_,rfl,rfl,?_⟩
   refine⟨_,rfl,_,rfl,by omega,_,rfl,(by rw[dG];rfl),fun pw fw=>?_⟩
   rw[dG,es]
   have hw2:(av M' pw (.lst ((wd::ws).map D.str))) pw=some (.lst ((wd::ws).map D.str)):=ag
   have sw:SD.Sub M' (av M' pw (.lst ((wd::ws).map D.str))):=.new fw .refl
   generalize av M' pw (.lst ((wd::ws).map D.str))=M1 at hw2 sw ⊢
   refine⟨_,rfl,w,rfl,wa,wl,fun M2 s2=>?_⟩
   replace hw2:=s2 _ _ hw2
   replace sw:=sw.trans s2
   refine⟨_,rfl,_,rfl,_,hw2,fun p3 hp3=>?_⟩
   have ct:cutD (Ir D.str (wd::ws)) (some 1) none=ws.map D.str:=qV _ _
   rw[ct]
   refine⟨_,ag,comp_map (fun i=>opF ((ws[i]?).bind rdq)) (by show(Ir D.str ws).length<=_;rw[G4];omega) (fun p ys hp=>?_) ?_ (fun p2 hp2=>?_)⟩
   ·show(av _ p _) p3=_;rw[ao (aC ag hp)];exact ag
   ·intro j e M3 hj he sb3;have he:(ws.map D.str)[j]?=some e:=he;rw[G9]at he;cases ej:ws[j]? with
    |none=>rw[ej]at he;cases he
    |some x=>
     rw[ej]at he
     cases he
     obtain⟨g1,g2⟩:=f2 x (GZ _ (Hh ej))
     refine⟨_,rfl,fun K2 hK2=>⟨_,rfl,x,rfl,b5 wa g2,by omega,fun M' s'=>?_⟩⟩
     rw[HD]at hK2
     exact hK2 M' s'
   have hlen:(Ir D.str ws).length=ws.length:=G4 ..
   have mp:(HF (Ir D.str ws).length).map (fun i=>opF ((ws[i]?).bind rdq))=(ws.map rdq).map opF:=by
    rw[hlen,Jr];refine List.ext_getElem? fun i=>?_;rw[G9,G9];by_cases hi:i<ws.length
    ·rw[List.getElem?_range hi,HG hi];simp[hi]
    ·rw[Ip (by simpa using hi),Ip (by simpa using hi)];rfl
   dsimp only
   rw[mp]
   have s4:SD.Sub M2 (av (av M2 p3 (.lst (ws.map D.str))) p2 (.lst ((ws.map rdq).map opF))):=.new hp2 (.new hp3 .refl)
   have hm2:(av (av M2 p3 (.lst (ws.map D.str))) p2 (.lst ((ws.map rdq).map opF))) p2=some (.lst ((ws.map rdq).map opF)):=ag
   generalize av (av M2 p3 (.lst (ws.map D.str))) p2 (.lst ((ws.map rdq).map opF))=M4 at s4 hm2 ⊢
   have hm0:=s4 _ _ hw2
   replace sw:=sw.trans s4
   replace h0:=sw _ _ h0
   replace h1:=sw _ _ h1
   replace sb:=sb.trans sw
   clear hw2 s4 s2 fw hp3 hp2
   have at0:atI ((wd::ws).map D.str) 0=some (.str wd):=gR _
   have l2:((ws.map rdq).map opF).length=ws.length:=by simp
   (try dsimp only[SD.bK,SD.bH,SD.aJ,SD.bR,SD.bO,SD.a9,SD.bg,SD.tBD,SD.bP])
   refine kb f (decide (wd=G1 "ask")&&(decide ((ws.length:Int)=2)&&!(ws.map rdq).any (fun o=>o.isNone))) (fun K hK=>⟨_,rfl,_,rfl,by cases f<;>exact hK⟩) (fun _ K hK=>?_) ?_
   ·refine kb _ _ (fun K' hK'=>⟨_,rfl,_,_,hm0,at0,_,rfl,hK'⟩) (fun _ K' hK'=>?_) hK;refine kb _ _ (fun K2 hK2=>⟨_,rfl,_,hm2,_,rfl,?_⟩) (fun _ K2 hK2=>?_) hK'
    ·rw[l2];exact hK2
    ·refine⟨_,rfl,_,_,.non,.inl (.lst hm2 (jg _)),rfl,jw _,_,rfl,?_⟩;rw[jB];exact hK2
   refine bj (fun hc=>?_) (fun hc=>?_)
   ·simp only[Hl,decide_eq_true_eq,Il]at hc;obtain⟨rfl,c1,c2,c3⟩:=hc;obtain⟨ls,ll,el⟩:=ur (.inl rfl) (by rw[G4];omega) c3
    obtain⟨s,rfl⟩:∃s,ls=[s]:=by
     match ls,ll with
     |[s],_=>exact⟨s,rfl⟩
    have er:rdf true w=some s:=(iff s).mpr ⟨c1,el⟩;rw[kQ er]at nx;rw[el]at hm2;refine⟨_,rfl,p1,_,rfl,h1,_,rfl,_,hm2,_,_,rfl,h1,by rw[G4];have:=ok.sum;omega,?_⟩;refine⟨⟨_,_,_,_,_,rfl⟩,vs,qs++[s],nx,by rw[ao nlp];exact h0,by rw[ag,Ik];rfl,fun u o e=>?_⟩;rw[ao (fr e).2];exact sb _ _ e
   have er':rdf f w=none:=by
    cases f with
    |false=>rfl
    |true=>
     cases e:rda w with
     |none=>exact e
     |some s=>
      obtain⟨e1,e2⟩:=(iff s).mp e
      have e3:ws.length=2:=by have:=congrArg List.length e2;simpa using this
      rw[e1,e2,e3]at hc
      simp at hc
   cases ro:rdo w with
   |none=>
    refine⟨_,rfl,_,rfl,_,rfl,bJ rfl (bJ rfl ⟨_,rfl,nbL rfl,ret ?_ sb⟩)⟩
    by_cases q0:qs=[]
    ·rw[q0,di (f:=f) er',k9,ro];rfl
    ·exact gM (f:=f) er' q0
   |some W=>
    have NW:=(j7 (zl ro).1).1.nq
    refine⟨_,rfl,_,rfl,_,rfl,b7 rfl ?_⟩
    refine⟨_,rfl,nbL rfl,fun pe fe=>C5 ((SD.Sub.new fe .refl) _ _ h1) ag ⟨_,rfl,?_⟩⟩
    have se:SD.Sub M4 (av M4 pe (.lst [])):=.new fe .refl
    generalize av M4 pe (.lst [])=M5 at se ⊢
    replace h0:=se _ _ h0
    replace h1:=se _ _ h1
    replace sb:=sb.trans se
    refine bj (fun c3=>?_) (fun c3=>?_)
    ·exact bJ rfl ⟨_,rfl,nbL rfl,ret (gM er' (by simpa using c3)) sb⟩
    have q0:qs=[]:=by simpa using c3
    subst q0
    refine⟨_,rfl,_,h0,_,rfl,?_⟩
    have lt:(vs.map wq).length=vs.length:=G4 ..
    refine bj (fun c4=>?_) (fun c4=>?_)
    ·have c4:vs.length=40:=by have:=of_decide_eq_true c4;rw[lt]at this;omega
     exact⟨_,rfl,nbL rfl,ret (by rw[di (f:=f) er',k9,ro,HD,if_neg (fun q=>q.1 c4)];rfl) sb⟩
    have c4:vs.length≠40:=fun q=>c4 (decide_eq_true (by rw[lt];omega))
    refine⟨_,rfl,_,h0,comp_map (fun j=>.bl ((vs[j]?).elim false (cA W))) (by show(vs.map wq).length<=_;rw[lt];have:=ok.few;omega) (fun p ys hp=>?_) ?_ (fun p hp=>?_)⟩
    ·show(av _ p _) l=_;rw[ao (aC h0 hp)];exact h0
    ·intro j e M3 hj he sb3;have he:(vs.map wq)[j]?=some e:=he;rw[G9]at he;cases ej:vs[j]? with
     |none=>rw[ej]at he;cases he
     |some U=>
      rw[ej]at he
      cases he
      refine⟨_,rfl,fun K2 hK2=>⟨_,rfl,_,rfl,W,U,rfl,rfl,NW,(ok.mem U (Hh ej)).1,fun M' s'=>?_⟩⟩
      exact hK2 M' s'
    have mp:(HF (vs.map wq).length).map (fun j=>D.bl ((vs[j]?).elim false (cA W)))=(vs.map (cA W)).map D.bl:=by
     rw[lt,Jr];refine List.ext_getElem? fun j=>?_;rw[G9,G9];by_cases hj:j<vs.length
     ·rw[List.getElem?_range hj];show some (D.bl ((vs[j]?).elim false (cA W)))=_;rw[HG hj];rfl
     ·rw[Ip (by simpa using hj),Ip (by simpa using hj)];rfl
    have s3:∀{o},SD.Sub M5 (av M5 p o):=fun{o}=>.new hp .refl
    refine⟨vs.map (cA W),(by rw[ag];exact congrArg (fun x=>some (MO.lst x)) mp),_,rfl,?_⟩
    refine bj (fun c5=>?_) (fun c5=>?_)
    ·refine⟨_,rfl,nbL rfl,ret ?_ (sb.trans s3)⟩;rw[di (f:=f) er',k9,ro,HD,if_neg]
     ·rfl
     rintro⟨_,q⟩;unfold fcQ at q;rw[List.findIdx?_eq_none_iff]at q;have:(vs.map (cA W)).all id=true:=by rw[List.all_map,IS];intro x hx;simpa using q x hx
     rw[this]at c5;cases c5
    ·have all:(vs.map (cA W)).all id=true:=by simpa using c5
     have fn:fcQ W vs=none:=by
      unfold fcQ
      rw[List.findIdx?_eq_none_iff]
      intro x hx
      rw[List.all_map,IS]at all
      have:=all x hx
      simpa using this
     have nx:sfQ f rs (i+1)=some (vs++[W],[]):=by rw[nx,di (f:=f) er',k9,ro,HD,if_pos ⟨c4,fn⟩];rfl
     have h3:=s3 (o:=.lst ((HF (vs.map wq).length).map (fun j=>D.bl ((vs[j]?).elim false (cA W))))) _ _ h0;have h4:=s3 (o:=.lst ((HF (vs.map wq).length).map (fun j=>D.bl ((vs[j]?).elim false (cA W))))) _ _ h1;refine⟨_,rfl,l,_,rfl,h3,_,rfl,_,_,rfl,h3,(by rw[lt];have:=ok.few;omega),?_⟩;refine⟨⟨_,_,_,_,_,rfl⟩,vs++[W],[],nx,by rw[ag,Ik];rfl,by rw[ao nlp.symm];exact h4,fun u o e=>?_⟩;rw[ao (fr e).1];exact s3 _ _ (sb _ _ e)
 ·rintro δ M' ⟨⟨o3,o4,o5,o6,o7,rfl⟩,vs,qs,g,h0,h1,sb⟩;have g:sfQ f rs (rs.map D.str).length=some (vs,qs):=g;rw[G4]at g;refine⟨_,rfl,_,h0,_,rfl,_,h0,_,rfl,nbL rfl,nbL rfl,fun pz fz=>⟨_,rfl,?_⟩⟩;have sz:=SD.Sub.new (o:=.lst [.tup (vs.map wq),.tup [.tup (vs.map wq),.ref p1]]) fz (.refl (M:=M'));cases f with
  |true=>exact⟨_,_,ag,rfl,nbL rfl,rtn (k _ _ (sb.trans sz) (.inl ⟨vs,qs,p1,g,rfl,fun _=>sz _ _ h1⟩))⟩
  |false=>exact⟨_,_,ag,rfl,nbL rfl,rtn (k _ _ (sb.trans sz) (.inl ⟨vs,qs,p1,g,rfl,fun h=>nomatch h⟩))⟩
theorem sk:FnScope ["text"] ["text"] (aq nX):=by walk_at "sc"
inductive Cn_rows_of(v:D)(M:MH)(Q:DK):Prop
 |mk (z:Str) (_:v=.str z) (_:z.length<=1000000) (_:∀p,M p=none->Q (.ref p) (av M p (.lst ((bF z).map D.str))))
theorem g8(T:Tx K mg):Cal P w K mg base 1 "rows_of" (sD1 Cn_rows_of):=by
 refine fM (k:=0) T.f_rows_of sk fun f cdv A outer s H E hr=>⟨_,(aj (ay (iK (aA (br hr.units) (dv 0) aG) (aW ae) (cQ (dv 0) (aa aG ae))))),fun _ M Q h=>?_⟩;obtain⟨z,rfl,hl,k⟩:=h;refine⟨_,rfl,_,rfl,bj (fun h=>?_) (fun h=>?_)⟩
 ·have e:z=IL:=by rw[jR]at h;simpa using h
  refine⟨nbL rfl,fun p hp=>rtn ?_⟩;have:=k p hp;unfold bF at this;rw[if_pos e]at this;exact this
 ·have e:¬z=IL:=by rw[jR]at h;simpa using h
  refine⟨_,rfl,_,rfl,hl,_,rfl,(by rw[Bg];rfl),fun p hp=>?_⟩;rw[Bg];have:=k p hp;unfold bF at this;rw[if_neg e]at this;exact rtn this
theorem ml:FnScope ["text"] ["text"] (aq iJ):=by walk_at "sc"
inductive Cn_read_number(x:D)(M:MH)(Q:DK):Prop
 |mk (z:Str) (_:x=.str z) (_:z.cps.all (· < 128)=true) (_:z.length<=900001) (_:(∀n,Wh z n->Q (.int (n:Int)) M)) (_:((∀n,¬Wh z n)->Q .non M))
theorem fj(T:Tx K mg):Cal P w K mg base 1 "read_number" (sD1 Cn_read_number):=by
 refine fM (k:=0) T.f_read_number ml fun f cdv A outer s H E hr=>⟨_,(ai (aL (dJ (cW (gf (qK (jP hr.units) (jP hr.units) af (aI b4 rfl T.b_len cz (aa (dv 0) ae)) (rT rfl T.g_MOST_FIGURES))) (de (cH (aI (DV rfl) rfl T.b_any DF (aa (c8 (CScope.of (xs:=["sign"]) (js:=[]) rfl) rfl (xn (dv 0)) (fun _ _ _ _=>bZ) (fun _ _ _ _=>(bX (jL (qd hr)) (dv 0) aG (by with_unfolding_all rfl)))) ae)))))) (aj (ay aU)) aD) (ai (aL (dJ (df (aA (br hr.units) (aS (dv 0) af) aG) (dg (aA (d9 hr.units) (dv 0) aG)))) (aj (ay aU)) aD) (aj (ay (aT dZ rfl T.b_int dj (aa (dv 0) ae)))))),fun _ M Q h=>?_⟩;obtain⟨z,rfl,asc,hl,k,k'⟩:=h;have sz:1000000<=GX:=nbL rfl;have no:(∀n,¬Wh z n)->∀{M'},SD.Sub M M'->Ret Q .non M':=fun h {M'} sb=>⟨M,sb,k' h⟩;refine⟨_,rfl,by omega,trivial,_,rfl,?_⟩;refine bj (fun l1=>?_) (fun l1=>?_);rotate_left
 ·exact⟨_,rfl,bJ rfl (bJ rfl (no (fun n h=>by have:=h.pos;exact l1 (decide_eq_true (by omega))) .refl))⟩
 have l1:1<=z.length:=by have:=of_decide_eq_true l1;omega
 refine⟨trivial,_,rfl,?_⟩;refine bj (fun l2=>?_) (fun l2=>?_)
 ·refine bJ rfl (no (fun n h=>?_) .refl);have:=h.len;dsimp only at l2;rw[decide_eq_true (show(z.length:Int)<=30 by omega)]at l2;cases l2
 have l2:z.length<=30:=by
  have l2:(z.length:Int)<=30:=by simpa using l2
  omega
 refine⟨_,rfl,z,rfl,asc,comp_map (fun i=>.bl (!decide (z.cps.toList.getD i 0∈(G1 "0123456789").cps.toList))) (by show z.cps.size<=1000000;have:z.cps.size=z.length:=rfl;omega) (fun _ _ _=>trivial) ?_ (fun p hp=>?_)⟩
 ·intro i d M2 hi hd sb;have hd:(z.cps[i]?).map (fun c=>D.str ⟨#[c]⟩)=some d:=hd;cases ec:z.cps[i]? with
  |none=>rw[ec]at hd;cases hd
  |some c=>
   rw[ec]at hd
   cases hd
   have ec':z.cps.toList.getD i 0=c:=by rw[List.getD_eq_getElem?_getD,Array.getElem?_toList,ec];rfl
   refine⟨_,rfl,fun K2 hK2=>⟨_,rfl,c,rfl,?_⟩⟩
   rw[ec']at hK2
   exact hK2 _ .refl
 refine⟨(HF z.cps.size).map (fun i=>!decide (z.cps.toList.getD i 0∈(G1 "0123456789").cps.toList)),(by rw[ag,Jr];rfl),_,rfl,?_⟩;have fin:∀{M'} {d},SD.Sub M M'->Q d M->Ret Q d M':=fun{M' d} sb q=>⟨M,sb,q⟩;refine bj (fun a=>?_) (fun a=>?_)
 ·refine no (fun n h=>?_) (.new hp .refl);rw[List.any_map,List.any_eq_true]at a;obtain⟨i,hi,hb⟩:=a;have hi:i<z.cps.size:=List.mem_range.mp hi;have:=h.dig (c:=z.cps.toList.getD i 0) (by rw[List.getD_eq_getElem?_getD,HG (by simpa using hi)];exact List.getElem_mem _);have hb:¬z.cps.toList.getD i 0∈(G1 "0123456789").cps.toList:=by simpa using hb
  exact hb (by rw[qi];exact List.mem_range'_1.mpr (show 48<=_/\_<48+10 by omega))
 have dig:∀c∈z.cps.toList,48<=c/\c<=57:=fun c hc=>by
  obtain⟨i,hi,e⟩:=List.getElem_of_mem hc
  have a:=fun q=>a (List.any_eq_true.mpr q)
  by_cases q:c∈(G1 "0123456789").cps.toList
  ·rw[qi]at q;have:=List.mem_range'_1.mp (show c∈List.range' 48 10 from q);omega
  ·exact absurd ⟨true,IB.mpr ⟨i,List.mem_range.mpr (by simpa using hi),by rw[List.getD_eq_getElem?_getD,HG hi,e];simpa using q⟩,rfl⟩ a
 have hat:atI z.cps.toList ((0:Nat):Int)=z.cps.toList[0]?:=gR _;cases e0:z.cps.toList[0]? with
 |none=>rw[List.getElem?_eq_none_iff,<-ba]at e0;omega
 |some c0=>
  rw[e0]at hat
  (try dsimp only[SD.bK,SD.bH,SD.aJ,SD.bR,SD.bO,SD.a9,SD.bg,SD.tBD,SD.bP])
  by_cases h0:c0=48
  ·subst h0;by_cases hz:z=⟨#[48]⟩
   ·obtain⟨n,hn⟩:=vq l1 l2 dig (fun _=>hz);refine kb true false (fun K hK=>⟨_,rfl,by omega,_,hat,_,rfl,?_⟩) (fun _ K hK=>⟨_,rfl,_,rfl,?_⟩) ?_
    ·rw[fh,decide_eq_true rfl];exact hK
    ·rw[fh,decide_eq_true hz];exact hK
    ·exact b7 rfl ⟨_,rfl,_,hn.read,by omega,fin (.new hp .refl) (k n hn)⟩
   ·refine kb true true (fun K hK=>⟨_,rfl,by omega,_,hat,_,rfl,?_⟩) (fun _ K hK=>⟨_,rfl,_,rfl,?_⟩) ?_
    ·rw[fh,decide_eq_true rfl];exact hK
    ·rw[fh,decide_eq_false hz];exact hK
    ·exact bJ rfl (no (fun n h=>hz (h.head e0)) (.new hp .refl))
  ·obtain⟨n,hn⟩:=vq l1 l2 dig (fun q=>absurd (Option.some.inj (e0.symm.trans q)) h0);refine kb false false (fun K hK=>⟨_,rfl,by omega,_,hat,_,rfl,?_⟩) (fun h=>nomatch h) ?_
   ·rw[fh,decide_eq_false (fun z=>h0 (by have:=congrArg (fun x:Str=>x.cps.toList) z;simpa using this))];exact hK
   ·exact b7 rfl ⟨_,rfl,_,hn.read,by omega,fin (.new hp .refl) (k n hn)⟩
theorem kj:FnScope ["text","number"] ["text"] (aq l6):=by walk_at "sc"
inductive Cn_read_top(x:D)(M:MH)(Q:DK):Prop
 |mk (z:Str) (_:x=.str z) (_:z.cps.all (· < 128)=true) (_:z.length<=900001) (_:(∀a,z=iT a->a.natAbs<10^30->Q (.int a) M)) (_:((∀a,z=iT a->¬a.natAbs<10^30)->Q .non M))
theorem uc(T:Tx K mg):Cal P w K mg base 2 "read_top" (sD1 Cn_read_top):=by
 refine fM (k:=1) T.f_read_top kj fun f cdv A outer s H E hr=>⟨_,(ai (aL (gf (cH (rX (dv 0) (aa aG ae)))) (aj (ay (ak (fj T).m hr (aa (dv 0) ae)))) aD) (ai (ax 1 kj.nd (ak (fj T).m hr (aa (wY (dv 0) af) ae))) (aj (ay (iK (dJ (cW (aA dN (dv 1) aU) (de (aA (br hr.units) (dv 1) af)))) aU (vp kL (dv 1))))))),fun _ M Q h=>?_⟩;obtain⟨z,rfl,asc,hl,k,k'⟩:=h;have sz:1000000<=GX:=nbL rfl;by_cases e:z.cps.toList[0]?=some 45
 ·obtain⟨r,er⟩:∃r,z.cps.toList=45::r:=by
   cases ez:z.cps.toList with
   |nil=>rw[ez]at e;cases e
   |cons c r=>rw[ez]at e;exact⟨r,by have h:c=45:=(by simpa using e);rw[h]⟩
  have hd:(Str.mk r.toArray).cps.toList=r:=by simp
  have es:=lW (x:=z) (y:=Str.mk r.toArray) (c:=45) (by rw[er,hd]);have hs:Jg z ⟨#[45]⟩=true:=wg er;refine⟨_,rfl,_,rfl,_,rfl,_,rfl,b7 (by rw[kR,hs];rfl) ?_⟩;refine⟨_,rfl,_,rfl,by omega,_,rfl,?_⟩;rw[es]
  have asc':(Str.mk r.toArray).cps.all (· < 128)=true:=by
   rw[IZ]at asc ⊢;intro c hc
   exact asc c (by have:c∈z.cps.toList:=by rw[er];exact GZ _ (by simpa using hc)
                   simpa using this)
  have hl':(Str.mk r.toArray).length<=900001:=by rw[ba,hd];rw[ba,er]at hl;simp at hl;omega
  have neg:∀a,z=iT a->∃m:Nat,a=-(m:Int)/\0<m/\r=dgs m:=fun a ha=>by
   obtain⟨m,⟨e1,e2⟩|⟨e1,n0,e2⟩⟩:=cZ a
   ·rw[<-ha,er]at e2;have:=dY (show 45∈dgs m by rw[<-e2];simp);omega
   ·rw[<-ha,er]at e2;exact⟨m,e1,n0,(List.cons.inj e2).2⟩
  refine⟨_,rfl,asc',hl',fun n hn=>?_,fun hn=>?_⟩
  ·(try dsimp only[SD.bK,SD.bH,SD.aJ,SD.bR,SD.bO,SD.a9,SD.bg,SD.tBD,SD.bP])
   by_cases n0:n=0
   ·subst n0;refine orT false true (fun K hK=>⟨_,rfl,_,rfl,_,rfl,hK⟩) (fun _ K hK=>⟨_,rfl,_,rfl,?_⟩) ?_
    ·rw[decide_eq_true (by rfl)];exact hK
    ·refine bJ rfl (rtn (k' fun a ha hb=>?_));obtain⟨m,e1,m0,e2⟩:=neg a ha;have:=hn.one (m:=m) ⟨by rw[hd,e2],by omega⟩;omega
   ·refine orT false false (fun K hK=>⟨_,rfl,_,rfl,_,rfl,hK⟩) (fun _ K hK=>⟨_,rfl,_,rfl,?_⟩) ?_
    ·rw[decide_eq_false (by omega)];exact hK
    ·refine b7 rfl ⟨_,rfl,rtn (k _ (bA ?_) ?_)⟩
     ·have:=hn.1;rw[hd]at this;rw[er,this];obtain⟨j,rfl⟩:∃j,n=j+1:=⟨n-1,by omega⟩;exact(sA j).symm
     ·have:=hn.2;omega
  ·(try dsimp only[SD.bK,SD.bH,SD.aJ,SD.bR,SD.bO,SD.a9,SD.bg,SD.tBD,SD.bP])
   refine orT true true (fun K hK=>⟨_,rfl,_,rfl,_,rfl,hK⟩) (fun h=>nomatch h) ?_;refine bJ rfl (rtn (k' fun a ha hb=>?_));obtain⟨m,e1,m0,e2⟩:=neg a ha;exact hn m ⟨by rw[hd,e2],by omega⟩
 ·have hs:Jg z ⟨#[45]⟩=false:=zi e;refine⟨_,rfl,_,rfl,_,rfl,_,rfl,bJ (by rw[kR,hs];rfl) ?_⟩;refine⟨_,rfl,_,rfl,asc,hl,fun n hn=>rtn (k _ (bA (by rw[hn.1,du])) (by have:=hn.2;omega)),fun hn=>rtn (k' fun a ha hb=>?_)⟩;obtain⟨m,⟨e1,e2⟩|⟨e1,n0,e2⟩⟩:=cZ a
  ·exact hn m ⟨by rw[ha,e2],by omega⟩
  ·exact e (by rw[ha,e2];rfl)
theorem dM:FnScope ["one","other"] ["one","other"] (aq d7):=by walk_at "sc"
inductive Cn_greatest_divisor(x y:D)(M:MH)(Q:DK):Prop
 |mk (a b:Nat) (_:x=.int (a:Int)) (_:y=.int (b:Int)) (_:Q (.int ((Nat.gcd a b:Nat):Int)) M)
theorem iL(T:Tx K mg):Cal P w K mg base 1 "greatest_divisor" (sD2 Cn_greatest_divisor):=by
 refine bM (k:=0) T.f_greatest_divisor dM fun f cdv A outer s H E hr=>⟨_,(ai (qC Ie (aA (n8 hr.units) (dv 1) af) (aj (fo 0 1 rfl dM.nd (aa (dv 1) (aa (ar iX (dv 0) (dv 1)) ae))))) (aj (ay (dv 0)))),fun _ _ M Q h=>?_⟩;obtain⟨a,b,rfl,rfl,q⟩:=h;refine⟨fun m δ M'=>M'=M/\∃x y:Nat,δ=[some (.int x),some (.int y)]/\Nat.gcd x y=Nat.gcd a b/\m=y,⟨_,rfl,_,_,rfl,rfl,rfl⟩,?_⟩;rintro m δ M' ⟨rfl,x,y,rfl,hxy,hm⟩;refine⟨_,rfl,_,rfl,?_⟩;refine bj (fun h=>?_) (fun h=>?_)
 ·have hy:(y:Int)≠0:=by simpa using h
  refine⟨_,rfl,_,rfl,_,rfl,hy,_,_,rfl,?_⟩;have hy':0<y:=by omega
  refine⟨x%y,by rw[hm];exact Nat.mod_lt _ hy',rfl,y,x%y,?_,?_,rfl⟩
  ·rw[<-Ma.vd];rfl
  ·rw[<-hxy,Nat.gcd_comm x y,Nat.gcd_rec y x,Nat.gcd_comm]
 ·have hy:y=0:=by simpa using h
  subst hy;rw[Nat.gcd_zero_right]at hxy;subst hxy;exact⟨_,rfl,rtn q⟩
theorem gQ:FnScope ["top","bottom","divisor"] ["top","bottom"] (aq lu):=by walk_at "sc"
inductive Cn_fraction(x y:D)(M:MH)(Q:DK):Prop
 |mk (t:_) (b:_) (_:x=.int t) (_:y=.int b) (_:b≠0) (_:Bd 8000 t) (_:Bd 8000 b) (_:Q (Ma.fr (Rat.divInt t b)) M)
theorem cw(T:Tx K mg):Cal P w K mg base 2 "fraction" (sD2 Cn_fraction):=by
 refine bM (k:=1) T.f_fraction gQ fun f cdv A outer s H E hr=>⟨_,(ai (aL (aA (eE hr.units) (dv 1) af) (aj lK) aD) (ai (ax 2 gQ.nd (ak (iL T).m hr (aa (aI pZ rfl T.b_abs qa (aa (dv 0) ae)) (aa (aI pZ rfl T.b_abs qa (aa (dv 1) ae)) ae)))) (ai (aL (aA (e7 hr.units) (dv 1) af) (aj (ax 2 gQ.nd (vp kL (dv 2)))) aD) (aj (ay (aF (aa (ar og (dv 0) (dv 2)) (aa (ar og (dv 1) (dv 2)) ae)))))))),fun _ _ M Q h=>?_⟩;obtain⟨t,b,rfl,rfl,hb,ht,hbb,q⟩:=h;have hg:=Ma.uW (t:=t) hb;have hgd:Bd 8000 ((Nat.gcd t.natAbs b.natAbs:Nat):Int):=hbb.of_le (by simpa using Nat.gcd_le_right t.natAbs (show 0<b.natAbs by omega));refine⟨_,rfl,_,rfl,b7 (decide_eq_false hb) ?_⟩;refine⟨_,rfl,_,rfl,t.natAbs,b.natAbs,rfl,rfl,?_⟩;refine⟨_,rfl,trivial,_,rfl,?_⟩;refine bj (fun h=>?_) (fun h=>?_)
 ·have hneg:b<0:=by simpa using h
  obtain⟨e1,e2⟩:=Ma.uC (t:=t) hneg;refine⟨_,rfl,_,rfl,_,rfl,⟨by omega,hgd.neg⟩,_,rfl,_,rfl,⟨by omega,hgd.neg⟩,nbL rfl,?_⟩;dsimp only;rw[e1,e2];exact rtn q
 ·have hpos:0<b:=by
   have:¬b<0:=by simpa using h
   omega
  obtain⟨e1,e2⟩:=Ma.uY (t:=t) hpos;refine⟨_,rfl,_,rfl,⟨by omega,hgd⟩,_,rfl,_,rfl,⟨by omega,hgd⟩,nbL rfl,?_⟩;dsimp only;rw[e1,e2];exact rtn q
theorem bN:FnScope ["text","top_text","stroke","bottom_text","top","bottom"] ["text"] (aq gr):=by walk_at "sc"
inductive Cn_read_fraction(x:D)(M:MH)(Q:DK):Prop
 |mk (z:Str) (_:x=.str z) (_:z.cps.all (· < 128)=true) (_:z.length<=900001) (_:(∀q,N30 q->z=sQ q->Q (Ma.fr q) M)) (_:((∀q,N30 q->z≠sQ q)->Q .non M))
theorem kD(T:Tx K mg):Cal P w K mg base 3 "read_fraction" (sD1 Cn_read_fraction):=by
 refine fM (k:=2) T.f_read_fraction bN fun f cdv A outer s H E hr=>⟨_,(ai (cI (xg (dv 0) (aa aG ae)) (bC rfl (aw (aB 1 bN.nd) (aw (aB 2 bN.nd) (aw (aB 3 bN.nd) aX))))) (ai (ax 4 bN.nd (ak (uc T).m hr (aa (dv 1) ae))) (ai (aL (dJ (cW (aA dN (dv 4) aU) (de (aA (br hr.units) (dv 2) aG)))) (aj (ay (iK (aA dN (dv 4) aU) aU (aF (aa (dv 4) (aa af ae)))))) aD) (ai (ax 5 bN.nd (ak (fj T).m hr (aa (dv 3) ae))) (ai (aL (dJ (cW (aA dN (dv 5) aU) (cW (aA (e7 hr.units) (dv 5) af) (de (aA (d9 hr.units) (ak (cw T).m hr (aa (dv 4) (aa (dv 5) ae))) (aF (aa (dv 4) (aa (dv 5) ae)))))))) (aj (ay aU)) aD) (aj (ay (aF (aa (dv 4) (aa (dv 5) ae)))))))))),fun _ M Q h=>?_⟩;obtain⟨z,rfl,asc,hl,k,k'⟩:=h;have sz:1000000<=GX:=nbL rfl;by_cases e:47∈z.cps.toList
 ·obtain⟨a,b,ez,ha⟩:=lQ e;have ea:(Str.mk a.toArray).cps.toList=a:=by simp
  have eb:(Str.mk b.toArray).cps.toList=b:=by simp
  have ep:Iy z ⟨#[47]⟩=(Str.mk a.toArray,⟨#[47]⟩,Str.mk b.toArray):=wu (by rw[ea];exact ha) (by rw[ea,eb,ez]);have ll:a.length+b.length+1<=900001:=by rw[ba,ez]at hl;simp at hl;omega
  refine⟨_,rfl,_,rfl,by omega,_,rfl,(by rw[eR];rfl),?_⟩;rw[eR,ep];refine⟨_,rfl,rfl,_,_,rfl,_,_,rfl,_,_,rfl,rfl,?_⟩;refine⟨_,rfl,_,rfl,b5 asc (by rw[ea,ez];intro c hc;simp[hc]),by rw[ba,ea];omega,fun t ht t30=>?_,fun ht=>?_⟩
  ·(try dsimp only[SD.aJ])
   refine aV (fun δ M'=>M'=M/\δ=[some (.str z),some (.str (Str.mk a.toArray)),some (.str ⟨#[47]⟩),some (.str (Str.mk b.toArray)),some (.int t),none]) ?_ (fun hu=>?_);rotate_left
   ·(try dsimp only[SD.bK,SD.bH,SD.aJ,SD.bR,SD.bO,SD.a9,SD.bg,SD.tBD,SD.bP])
    refine orT false false (fun K hK=>⟨_,rfl,_,rfl,_,rfl,hK⟩) (fun _ K hK=>⟨_,rfl,_,rfl,?_⟩) ?_
    ·rw[jR,decide_eq_false (by intro z;have:=congrArg (fun x:Str=>x.cps.toList) z;simp[IL]at this)];exact hK
    ·exact b7 rfl (hu _ _ ⟨rfl,rfl⟩)
   rintro δ M' ⟨rfl,rfl⟩;have ta:a=(iT t).cps.toList:=by rw[<-ht,ea]
   refine⟨_,rfl,_,rfl,b5 asc (by rw[eb,ez];intro c hc;simp[hc]),by rw[ba,eb];omega,fun n hn=>?_,fun hn=>?_⟩
   ·have nb:b=dgs n:=by rw[<-hn.1,eb]
    have un:∀q,N30 q->z=sQ q->q.num=t/\(q.den:Int)=n/\¬(q.den:Int)=1:=fun q hq h=>by
     rw[h]at ez
     obtain⟨d1,q1,q2⟩:=mT ez ha
     refine⟨qp hq.1 t30 (bA (by rw[<-q1,ta])),?_,d1⟩
     rw[du,nb]at q2
     have:=dw hn.2 hq.2 q2
     omega
    (try dsimp only[SD.bK,SD.bH,SD.aJ,SD.bR,SD.bO,SD.a9,SD.bg,SD.tBD,SD.bP])
    by_cases n2:n<2
    ·refine orT false true (fun K hK=>⟨_,rfl,_,rfl,_,rfl,hK⟩) (fun _ K hK=>?_) ?_
     ·refine orT true true (fun K' hK'=>⟨_,rfl,trivial,_,rfl,?_⟩) (fun h=>nomatch h) hK;dsimp only;rw[decide_eq_true (by omega)];exact hK'
     ·refine bJ rfl (rtn (k' fun q hq h=>?_));obtain⟨_,u2,u3⟩:=un q hq h;have:=q.den_pos;omega
    ·have b1:Bd 8000 t:=(b30 t30).mono (by decide);have b2:Bd 8000 (n:Int):=(b30 (show((n:Nat):Int).natAbs<10^30 by have:=hn.2;omega)).mono (by decide);by_cases qe:(Rat.divInt t n).num=t/\((Rat.divInt t n).den:Int)=n
     ·refine orT false false (fun K hK=>⟨_,rfl,_,rfl,_,rfl,hK⟩) (fun _ K hK=>orT false false (fun K' hK'=>⟨_,rfl,trivial,_,rfl,by dsimp only;rw[decide_eq_false (by omega)];exact hK'⟩) (fun _ K' hK'=>⟨_,rfl,_,rfl,_,_,rfl,rfl,by omega,b1,b2,_,rfl,_,rfl,nbL rfl,_,_,Pd.of rfl,Pd.of rfl,rfl,rfl,_,rfl,by rw[hZ,decide_eq_true qe];exact hK'⟩) hK) ?_;refine b7 rfl ⟨_,rfl,_,rfl,nbL rfl,rtn ?_⟩
      have:=k (Rat.divInt t n) ⟨by rw[qe.1];exact t30,by have:=hn.2;have:=qe.2;omega⟩ (bA (by
       rw[jx (by omega),bU,bU,qe.1,qe.2,du,<-ta,<-nb,ez];simp))
      unfold Ma.fr at this;rw[qe.1,qe.2]at this;exact this
     ·refine orT false true (fun K hK=>⟨_,rfl,_,rfl,_,rfl,hK⟩) (fun _ K hK=>orT false true (fun K' hK'=>⟨_,rfl,trivial,_,rfl,by dsimp only;rw[decide_eq_false (by omega)];exact hK'⟩) (fun _ K' hK'=>⟨_,rfl,_,rfl,_,_,rfl,rfl,by omega,b1,b2,_,rfl,_,rfl,nbL rfl,_,_,Pd.of rfl,Pd.of rfl,rfl,rfl,_,rfl,by rw[hZ,decide_eq_false qe];exact hK'⟩) hK) ?_;refine bJ rfl (rtn (k' fun q hq h=>qe ?_));obtain⟨u1,u2,u3⟩:=un q hq h;have:Rat.divInt t n=q:=by rw[<-u1,<-u2,Ic]
      rw[this];exact⟨u1,u2⟩
   ·(try dsimp only[SD.bK,SD.bH,SD.aJ,SD.bR,SD.bO,SD.a9,SD.bg,SD.tBD,SD.bP])
    refine orT true true (fun K hK=>⟨_,rfl,_,rfl,_,rfl,hK⟩) (fun h=>nomatch h) ?_;refine bJ rfl (rtn (k' fun q hq h=>?_));rw[h]at ez;obtain⟨d1,q1,q2⟩:=mT ez ha;exact hn q.den ⟨by rw[eb,q2,du],hq.2⟩
  ·(try dsimp only[SD.bK,SD.bH,SD.aJ,SD.bR,SD.bO,SD.a9,SD.bg,SD.tBD,SD.bP])
   refine orT true true (fun K hK=>⟨_,rfl,_,rfl,_,rfl,hK⟩) (fun h=>nomatch h) ?_;refine bJ rfl ⟨_,rfl,_,rfl,_,rfl,bJ rfl (rtn (k' fun q hq h=>?_))⟩;rw[h]at ez;obtain⟨d1,q1,q2⟩:=mT ez ha;exact ht q.num (bA (by rw[ea,q1])) hq.1
 ·refine⟨_,rfl,_,rfl,by omega,_,rfl,(by rw[eR];rfl),?_⟩;rw[eR,vT e];refine⟨_,rfl,rfl,_,_,rfl,_,_,rfl,_,_,rfl,rfl,?_⟩;refine⟨_,rfl,_,rfl,asc,hl,fun t ht t30=>?_,fun ht=>?_⟩
  ·(try dsimp only[SD.bK,SD.bH,SD.aJ,SD.bR,SD.bO,SD.a9,SD.bg,SD.tBD,SD.bP])
   refine orT false true (fun K hK=>⟨_,rfl,_,rfl,_,rfl,hK⟩) (fun _ K hK=>⟨_,rfl,_,rfl,?_⟩) ?_
   ·rw[jR,decide_eq_true rfl];exact hK
   ·refine bJ rfl ⟨_,rfl,_,rfl,_,rfl,b7 rfl ⟨_,rfl,nbL rfl,rtn ?_⟩⟩;have h1:((t:Rat).den:Int)=1:=by simp
    have:=k (t:Rat) ⟨by simpa using t30,by simp⟩ (by rw[eA h1];exact ht);unfold Ma.fr at this;rw[h1]at this;simpa using this
  ·(try dsimp only[SD.bK,SD.bH,SD.aJ,SD.bR,SD.bO,SD.a9,SD.bg,SD.tBD,SD.bP])
   refine orT true true (fun K hK=>⟨_,rfl,_,rfl,_,rfl,hK⟩) (fun h=>nomatch h) ?_;refine bJ rfl ⟨_,rfl,_,rfl,_,rfl,bJ rfl (rtn (k' fun q hq h=>?_))⟩;rw[h]at e ht;exact ht q.num (eA (zu e)) hq.1
theorem dC:FnScope ["word","many","row","first","words","parts"] ["word","many","row"] (aq jb):=by walk_at "sc"
inductive Cn_read_spots(w m r:D)(M:MH)(Q:DK):Prop
 |mk (wd0 z:Str) (n:Nat) (_:w=.str wd0) (_:m=.int (n:Int)) (_:r=.str z) (_:(n=1\/n=2)) (_:z.cps.all (· < 128)=true) (_:z.length<=900000) (_:(∀l:List (Rat×Rat),l.length=n->RdS wd0 z l->∀M' p,SD.Sub M M'->M p=none->M' p=some (.lst (l.map spq))->Q (.ref p) M')) (_:((∀l:List (Rat×Rat),l.length=n->¬RdS wd0 z l)->∀M',SD.Sub M M'->Q .non M'))
theorem fR(T:Tx K mg):Cal P w K mg base 4 "read_spots" (sD3 Cn_read_spots):=by
 refine qO (k:=3) T.f_read_spots dC fun f cdv A outer s H E hr=>⟨_,(ai (cI (cQ (dv 2) (aa aG ae)) (z6 rfl (aw (aB 3 dC.nd) (xZ (aB 4 dC.nd))))) (ai (ax 5 dC.nd (c8 (CScope.of (xs:=["part"]) (js:=[]) rfl) rfl (cm (dv 4)) (fun _ _ _ _=>bZ) (fun _ _ _ _=>(ak (kD T).m hr (aa (dv 0) ae))))) (ai (aL (dJ (cW (aA (d9 hr.units) (dv 3) (dv 0)) (cW (aA (d9 hr.units) (aI b4 rfl T.b_len cz (aa (dv 5) ae)) (ar aH af (dv 1))) (de (aA (uh (qd hr)) aU (dv 5) (by with_unfolding_all rfl)))))) (aj (ay aU)) aD) (aj (ay (c8 (CScope.of (xs:=["at"]) (js:=[5]) rfl) rfl (nZ rfl T.b_range (aa (dv 1) ae)) (fun _ _ _ _=>bZ) (fun _ _ _ _=>(aF (aa (aS (dv 1) (ar aH af (dv 0))) (aa (aS (dv 1) (ar aM (ar aH af (dv 0)) af)) ae)))))))))),fun _ _ _ M Q h=>?_⟩;obtain⟨wd0,z,n,rfl,rfl,rfl,hn,asc,hl,k,k'⟩:=h;have sz:1000000<=GX:=nbL rfl;obtain⟨f1,f2⟩:=cU 32 z
 obtain⟨wd,ws,ew⟩:∃wd ws,HN z ⟨#[32]⟩=wd::ws:=by
  cases e:HN z ⟨#[32]⟩with
  |nil=>exact absurd e (dh z 32)
  |cons a b=>exact⟨a,b,rfl⟩
 rw[ew]at f1 f2;have lw:ws.length<=900000:=by simp at f1;omega
 refine⟨_,rfl,_,rfl,by omega,_,rfl,(by rw[dG];rfl),fun p0 hp0=>?_⟩;rw[dG,ew];refine⟨p0,_,_,rfl,ag,by rw[G4];omega,fun p1 hp1=>⟨_,_,rfl,_,_,rfl,rfl,?_⟩⟩;refine⟨_,rfl,_,ag,comp_map (fun i=>opF ((ws[i]?).bind rdq)) (by show(Ir D.str ws).length<=_;rw[G4];omega) (fun p ys hp=>?_) ?_ (fun p2 hp2=>?_)⟩
 ·show(av _ p _) p1=_;rw[ao (aC ag hp)];exact ag
 ·intro j e M3 hj he sb3;have he:(ws.map D.str)[j]?=some e:=he;rw[G9]at he;cases ej:ws[j]? with
  |none=>rw[ej]at he;cases he
  |some x=>
   rw[ej]at he
   cases he
   obtain⟨g1,g2⟩:=f2 x (GZ _ (Hh ej))
   refine⟨_,rfl,fun K2 hK2=>?_⟩
   have y:=hK2 M3 .refl
   refine⟨_,rfl,x,rfl,b5 asc g2,by omega,fun q hq h=>?_,fun h=>?_⟩
   ·rw[HD,iN hq h]at y;exact y
   ·rw[HD,jW h]at y;exact y
 have hlen:(Ir D.str ws).length=ws.length:=G4 ..
 have mp:(HF (Ir D.str ws).length).map (fun i=>opF ((ws[i]?).bind rdq))=(ws.map rdq).map opF:=by
  rw[hlen,Jr];refine List.ext_getElem? fun i=>?_;rw[G9,G9];by_cases hi:i<ws.length
  ·rw[List.getElem?_range hi,HG hi];simp[hi]
  ·rw[Ip (by simpa using hi),Ip (by simpa using hi)];rfl
 dsimp only;rw[mp];have sb0:SD.Sub M (av (av (av M p0 (.lst ((wd::ws).map D.str))) p1 (.lst (ws.map D.str))) p2 (.lst ((ws.map rdq).map opF))):=.new hp2 (.new hp1 (.new hp0 .refl));have hm2:(av (av (av M p0 (.lst ((wd::ws).map D.str))) p1 (.lst (ws.map D.str))) p2 (.lst ((ws.map rdq).map opF))) p2=some (.lst ((ws.map rdq).map opF)):=ag;generalize av (av (av M p0 (.lst ((wd::ws).map D.str))) p1 (.lst (ws.map D.str))) p2 (.lst ((ws.map rdq).map opF))=M2 at sb0 hm2;have l2:((ws.map rdq).map opF).length=ws.length:=by simp
 (try dsimp only[SD.bK,SD.bH,SD.aJ,SD.bR,SD.bO,SD.a9,SD.bg,SD.tBD,SD.bP])
 refine orT (!decide (wd=wd0)) (!decide ((ws.length:Int)=2*(n:Int))||(ws.map rdq).any (fun o=>o.isNone)) (fun K hK=>⟨_,rfl,_,rfl,_,rfl,hK⟩) (fun _ K hK=>?_) ?_
 ·refine orT _ _ (fun K' hK'=>⟨_,rfl,_,hm2,_,rfl,bI (cD (by decide)),_,rfl,?_⟩) (fun _ K' hK'=>?_) hK
  ·rw[l2];exact hK'
  ·refine⟨_,rfl,_,_,.non,.inl (.lst hm2 (jg _)),rfl,jw _,_,rfl,?_⟩;rw[jB];exact hK'
 refine bj (fun hc=>?_) (fun hc=>?_)
 ·refine⟨M2,.refl,k' (fun l hl9 h9=>?_) _ sb0⟩;obtain⟨vs,e1,e2⟩:=h9;rw[ew]at e1;obtain⟨e3,e4⟩:=List.cons.inj e1;subst e3 e4;have e5:ws.length=2*n:=by have:=congrArg List.length e2;rw[G4,G4,qE,hl9]at this;exact this
  rw[e2,nF,decide_eq_true rfl,decide_eq_true (by omega)]at hc;cases hc
 obtain⟨c1,c2,c3⟩:wd=wd0/\ws.length=2*n/\(ws.map rdq).any (fun o=>o.isNone)=false:=by simp only[JG,not_or,Bool.not_eq_true,Bool.not_eq_false',decide_eq_true_eq]at hc;exact⟨hc.1,by have:=hc.2.1;omega,hc.2.2⟩
 obtain⟨l,ll,el⟩:=ur hn (by rw[G4];exact c2) c3;have er:RdS wd0 z l:=⟨ws,by rw[ew,c1],el⟩;rw[el]at hm2;refine⟨_,rfl,n,rfl,by omega,comp_map (fun i=>((l.map spq)[i]?).getD .non) (by show n<=_;omega) (fun _ _ _=>trivial) ?_ (fun p3 hp3=>?_)⟩
 ·intro j e M3 hj he sb3;have hj:j<n:=hj;cases he;refine⟨_,rfl,fun K2 hK2=>?_⟩;have z9:=hK2 M3 .refl;have hm:=sb3 _ _ hm2;obtain⟨g1,g2⟩:=qS l j;have ej:l[j]?=some l[j]:=HG (by omega);rw[ej]at g1 g2
  have a1:atI (((flat l).map some).map opF) (2*(j:Int))=some (Ma.fr l[j].1):=by
   have:=eQ (xs:=((flat l).map some).map opF) (j:=2*j) (v:=Ma.fr l[j].1) (by rw[G9,G9,g1];rfl)
   rw[<-this];congr 1
  have a2:atI (((flat l).map some).map opF) (2*(j:Int)+1)=some (Ma.fr l[j].2):=by
   have:=eQ (xs:=((flat l).map some).map opF) (j:=2*j+1) (v:=Ma.fr l[j].2) (by rw[G9,G9,g2];rfl)
   rw[<-this];congr 1
  rw[G9,ej]at z9;exact⟨_,rfl,_,rfl,bI (cD (by decide)),_,_,hm,a1,_,rfl,_,rfl,bI (cD (by decide)),_,_,hm,a2,nbL rfl,z9⟩
 have e9:=SD.range_getD (l.map spq);rw[G4,ll]at e9;refine rtn (k l ll er _ p3 (.new hp3 sb0) (xB hp3 sb0) ?_);rw[ag];exact congrArg (fun x=>some (MO.lst x)) e9
theorem sJ:FnScope ["one","other"] ["one","other"] (aq nY):=by walk_at "sc"
inductive Cn_is_less(x y:D)(M:MH)(Q:DK):Prop
 |mk (q r:Rat) (_:x=Ma.fr q) (_:y=Ma.fr r) (_:Ma.Bq 100000 q) (_:Ma.Bq 100000 r) (_:Q (.bl (decide (q<r))) M)
theorem oo(T:Tx K mg):Cal P w K mg base 1 "is_less" (sD2 Cn_is_less):=by refine bM (k:=0) T.f_is_less sJ fun f cdv A outer s H E hr=>⟨_,(aj (ay (bX (e7 hr.units) (ar aH (au (dv 0) af) (au (dv 1) af)) (ar aH (au (dv 1) af) (au (dv 0) af))))),fun _ _ M Q h=>?_⟩;obtain⟨q,r,rfl,rfl,h1,h2,k⟩:=h;refine⟨_,rfl,_,rfl,_,rfl,_,rfl,cL (h1.1.mono (by decide)) (h2.2.mono (by decide)),?_⟩;refine⟨_,rfl,_,rfl,_,rfl,_,rfl,cL (h2.1.mono (by decide)) (h1.2.mono (by decide)),trivial,?_⟩;dsimp only;rw[Ma.BO];exact rtn k
theorem rQ:FnScope ["one","other"] ["one","other"] (aq mL):=by walk_at "sc"
inductive Cn_is_ahead(x y:D)(M:MH)(Q:DK):Prop
 |mk (a b c d:Rat) (_:x=Ma.spt a b) (_:y=Ma.spt c d) (_:Ma.Bq 100000 a) (_:Ma.Bq 100000 b) (_:Ma.Bq 100000 c) (_:Ma.Bq 100000 d) (_:Q (.bl (decide (a<c\/a=c/\b<d))) M)
theorem eB(T:Tx K mg):Cal P w K mg base 2 "is_ahead" (sD2 Cn_is_ahead):=by
 refine bM (k:=1) T.f_is_ahead rQ fun f cdv A outer s H E hr=>⟨_,(ai (aL (aA (eE hr.units) (au (dv 0) af) (au (dv 1) af)) (aj (ay (ak (oo T).m hr (aa (au (dv 0) af) (aa (au (dv 1) af) ae))))) aD) (aj (ay (ak (oo T).m hr (aa (au (dv 0) af) (aa (au (dv 1) af) ae)))))),fun _ _ M Q h=>?_⟩;obtain⟨a,b,c,d,rfl,rfl,h1,h2,h3,h4,k⟩:=h;refine⟨_,rfl,_,rfl,_,rfl,_,rfl,_,_,Pd.of rfl,Pd.of rfl,rfl,rfl,?_⟩;rw[Ma.mH];refine⟨_,rfl,?_⟩;refine bj (fun h=>?_) (fun h=>?_)
 ·have e:a=c:=by simpa using h
  subst e;refine⟨_,rfl,_,rfl,_,rfl,_,rfl,b,d,rfl,rfl,h2,h4,?_⟩
  have z:(a<a\/a=a/\b<d)↔b<d:=by
   have:=Rat.lt_irrefl (a:=a)
   simp[this]
  rw[decide_eq_decide.mpr z]at k;exact rtn k
 ·have e:¬a=c:=by simpa using h
  refine⟨_,rfl,_,rfl,_,rfl,_,rfl,a,c,rfl,rfl,h1,h3,?_⟩;have z:(a<c\/a=c/\b<d)↔a<c:=by simp[e]
  rw[decide_eq_decide.mpr z]at k;exact rtn k
theorem Dn:FnScope ["one","other"] ["one","other"] (aq BA):=by walk_at "sc"
inductive Cn_gap(x y:D)(M:MH)(Q:DK):Prop
 |mk (t1 b1 t2 b2:Int) (_:x=.tup [.int t1,.int b1]) (_:y=.tup [.int t2,.int b2]) (_:Bd 1000000 t1) (_:Bd 1000000 b1) (_:Bd 1000000 t2) (_:Bd 1000000 b2) (_:Q (.tup [.int (t1*b2-t2*b1),.int (b1*b2)]) M)
theorem rG(T:Tx K mg):Cal P w K mg base 1 "gap" (sD2 Cn_gap):=by refine bM (k:=0) T.f_gap Dn fun f cdv A outer s H E hr=>⟨_,(aj (ay (aF (aa (ar cB (ar aH (au (dv 0) af) (au (dv 1) af)) (ar aH (au (dv 1) af) (au (dv 0) af))) (aa (ar aH (au (dv 0) af) (au (dv 1) af)) ae))))),fun _ _ M Q h=>?_⟩;obtain⟨t1,b1,t2,b2,rfl,rfl,h1,h2,h3,h4,k⟩:=h;refine⟨_,rfl,_,rfl,_,rfl,_,rfl,cL h1 h4,_,rfl,_,rfl,_,rfl,_,rfl,cL h3 h2,trivial,?_⟩;exact⟨_,rfl,_,rfl,_,rfl,_,rfl,cL h2 h4,nbL rfl,rtn k⟩
theorem dQ:FnScope ["wall","spot","a","b","c","d","x","y","across","up","along","high"] ["wall","spot"] (aq zB):=by walk_at "sc"
inductive Cn_lean(u v:D)(M:MH)(Q:DK):Prop
 |mk (n:Nat) (a b c d x y:Rat) (_:u=Ma.wll a b c d) (_:v=Ma.spt x y) (_:Ma.Bq n a) (_:Ma.Bq n b) (_:Ma.Bq n c) (_:Ma.Bq n d) (_:Ma.Bq n x) (_:Ma.Bq n y) (_:n<=20000) (_:∀t e:Int,0<e->Rat.divInt t e=Ma.cr a b c d x y->Bd (8*n+3) t->Bd (8*n+3) e->Q (.tup [.int t,.int e]) M)
theorem sr(T:Tx K mg):Cal P w K mg base 2 "lean" (sD2 Cn_lean):=by
 refine bM (k:=1) T.f_lean dQ fun f cdv A outer s H E hr=>⟨_,(ai (cI (dv 0) (bC rfl (aw (bC rfl (aw (aB 2 dQ.nd) (aw (aB 3 dQ.nd) aX))) (aw (bC rfl (aw (aB 4 dQ.nd) (aw (aB 5 dQ.nd) aX))) aX)))) (ai (cI (dv 1) (bC rfl (aw (aB 6 dQ.nd) (aw (aB 7 dQ.nd) aX)))) (ai (fo 8 9 rfl dQ.nd (aa (ak (rG T).m hr (aa (dv 4) (aa (dv 2) ae))) (aa (ak (rG T).m hr (aa (dv 5) (aa (dv 3) ae))) ae))) (ai (fo 10 11 rfl dQ.nd (aa (ak (rG T).m hr (aa (dv 6) (aa (dv 2) ae))) (aa (ak (rG T).m hr (aa (dv 7) (aa (dv 3) ae))) ae))) (aj (ay (ak (rG T).m hr (aa (aF (aa (ar aH (au (dv 8) af) (au (dv 11) af)) (aa (ar aH (au (dv 8) af) (au (dv 11) af)) ae))) (aa (aF (aa (ar aH (au (dv 9) af) (au (dv 10) af)) (aa (ar aH (au (dv 9) af) (au (dv 10) af)) ae))) ae))))))))),fun _ _ M Q h=>?_⟩;obtain⟨n,a,b,c,d,x,y,rfl,rfl,ha,hb,hc,hd,hx,hy,hn,k⟩:=h;have mo:∀{m:Nat} {i:Int},Bd m i->m<=1000000->Bd 1000000 i:=fun z l=>z.mono l;have q1:=hc.iG ha;have q2:=hd.iG hb;have q3:=hx.iG ha;have q4:=hy.iG hb;have e1:=hc.2.mul ha.2;have e2:=hd.2.mul hb.2;have e3:=hx.2.mul ha.2;have e4:=hy.2.mul hb.2;refine⟨_,rfl,_,rfl,rfl,_,_,rfl,⟨_,rfl,rfl,_,_,rfl,_,_,rfl,rfl,?_⟩⟩;refine⟨_,_,rfl,⟨_,rfl,rfl,_,_,rfl,_,_,rfl,rfl,?_⟩⟩;refine⟨rfl,_,rfl,_,rfl,rfl,_,_,rfl,_,_,rfl,rfl,?_⟩;refine⟨_,rfl,_,rfl,_,_,_,_,rfl,rfl,mo hc.1 (by omega),mo hc.2 (by omega),mo ha.1 (by omega),mo ha.2 (by omega),?_⟩;refine⟨_,rfl,_,rfl,_,_,_,_,rfl,rfl,mo hd.1 (by omega),mo hd.2 (by omega),mo hb.1 (by omega),mo hb.2 (by omega),?_⟩;refine⟨_,_,rfl,?_⟩;refine⟨_,rfl,_,rfl,_,_,_,_,rfl,rfl,mo hx.1 (by omega),mo hx.2 (by omega),mo ha.1 (by omega),mo ha.2 (by omega),?_⟩;refine⟨_,rfl,_,rfl,_,_,_,_,rfl,rfl,mo hy.1 (by omega),mo hy.2 (by omega),mo hb.1 (by omega),mo hb.2 (by omega),?_⟩;refine⟨_,_,rfl,?_⟩;refine⟨_,rfl,_,rfl,_,rfl,_,rfl,cL (mo q1 (by omega)) (mo q4 (by omega)),?_⟩;refine⟨_,rfl,_,rfl,_,rfl,_,rfl,cL (mo e1 (by omega)) (mo e4 (by omega)),nbL rfl,?_⟩;refine⟨_,rfl,_,rfl,_,rfl,_,rfl,cL (mo q2 (by omega)) (mo q3 (by omega)),?_⟩;refine⟨_,rfl,_,rfl,_,rfl,_,rfl,cL (mo e2 (by omega)) (mo e3 (by omega)),nbL rfl,?_⟩;refine⟨_,_,_,_,rfl,rfl,mo (q1.mul q4) (by omega),mo (e1.mul e4) (by omega),mo (q2.mul q3) (by omega),mo (e2.mul e3) (by omega),?_⟩;have pe:∀q r:Rat,0<(q.den:Int)*(r.den:Int):=fun q r=>II (Ma.den_pos q) (Ma.den_pos r);refine rtn (k _ _ (II (II (pe c a) (pe y b)) (II (pe d b) (pe x a))) (Ma.vm a b c d x y) ?_ ?_)
 ·exact((((q1.mul q4).mul (e2.mul e3)).mono (show _<=8*n+2 by omega)).sub (((q2.mul q3).mul (e1.mul e4)).mono (show _<=8*n+2 by omega)))
 ·exact((e1.mul e4).mul (e2.mul e3)).mono (by omega)
theorem mr:FnScope ["wall","spot","top"] ["wall","spot"] (aq nW):=by walk_at "sc"
inductive Cn_side_of(u v:D)(M:MH)(Q:DK):Prop
 |mk (n:Nat) (a b c d x y:Rat) (_:u=Ma.wll a b c d) (_:v=Ma.spt x y) (_:Ma.Bq n a) (_:Ma.Bq n b) (_:Ma.Bq n c) (_:Ma.Bq n d) (_:Ma.Bq n x) (_:Ma.Bq n y) (_:n<=1900) (_:Q (.int (Ma.sgn (Ma.cr a b c d x y))) M)
theorem iA(T:Tx K mg):Cal P w K mg base 3 "side_of" (sD2 Cn_side_of):=by
 refine bM (k:=2) T.f_side_of mr fun f cdv A outer s H E hr=>⟨_,(ai (ax 2 mr.nd (au (ak (sr T).m hr (aa (dv 0) (aa (dv 1) ae))) af)) (ai (aL (aA (fU hr.units) (dv 2) af) (aj (ay af)) aD) (ai (aL (aA (e7 hr.units) (dv 2) af) (aj (ay (vp kL af))) aD) (aj (ay af))))),fun _ _ M Q h=>?_⟩;obtain⟨n,a,b,c,d,x,y,rfl,rfl,ha,hb,hc,hd,hx,hy,hn,k⟩:=h;refine⟨_,rfl,_,rfl,n,a,b,c,d,x,y,rfl,rfl,ha,hb,hc,hd,hx,hy,by omega,fun t e he hte _ _=>⟨_,rfl,?_⟩⟩;rw[<-hte,Ma.ui he]at k;refine⟨_,rfl,trivial,_,rfl,?_⟩;refine bj (fun h=>?_) (fun h=>?_)
 ·rw[if_pos (by simpa using h)]at k;exact rtn k
 rw[if_neg (by simpa using h)]at k;refine⟨_,rfl,trivial,_,rfl,?_⟩;refine bj (fun h=>?_) (fun h=>?_)
 ·rw[if_pos (by simpa using h)]at k;exact rtn k
 ·rw[if_neg (by simpa using h)]at k;exact rtn k
theorem rJ:FnScope ["one","other"] ["one","other"] (aq mw):=by walk_at "sc"
inductive Cn_later_of(x y:D)(M:MH)(Q:DK):Prop
 |mk (a b e f:Rat) (_:x=Ma.spt a b) (_:y=Ma.spt e f) (_:Ma.Bq 100000 a) (_:Ma.Bq 100000 b) (_:Ma.Bq 100000 e) (_:Ma.Bq 100000 f) (_:∀s:Rat×Rat,s=(if Ma.ah e f a b then(a,b)else(e,f))->Q (Ma.spt s.1 s.2) M)
theorem ua(T:Tx K mg):Cal P w K mg base 3 "later_of" (sD2 Cn_later_of):=by
 refine bM (k:=2) T.f_later_of rJ fun f cdv A outer s H E hr=>⟨_,(aj (ay (iK (cH (ak (eB T).m hr (aa (dv 1) (aa (dv 0) ae)))) (dv 0) (dv 1)))),fun _ _ M Q h=>?_⟩;obtain⟨a,b,e,f,rfl,rfl,h1,h2,h3,h4,k⟩:=h;refine⟨_,rfl,_,rfl,e,f,a,b,rfl,rfl,h3,h4,h1,h2,_,rfl,?_⟩;refine bj (fun h=>?_) (fun h=>?_)
 ·have z:Ma.ah e f a b:=by simpa[Ma.ah]using h
  have:=k (a,b) (by rw[if_pos z]);exact⟨_,rfl,rtn this⟩
 ·have z:¬Ma.ah e f a b:=by simpa[Ma.ah]using h
  have:=k (e,f) (by rw[if_neg z]);exact⟨_,rfl,rtn this⟩
theorem mZ:FnScope ["one","other"] ["one","other"] (aq jr):=by walk_at "sc"
inductive Cn_earlier_of(x y:D)(M:MH)(Q:DK):Prop
 |mk (c d g h:Rat) (_:x=Ma.spt c d) (_:y=Ma.spt g h) (_:Ma.Bq 100000 c) (_:Ma.Bq 100000 d) (_:Ma.Bq 100000 g) (_:Ma.Bq 100000 h) (_:∀s:Rat×Rat,s=(if Ma.ah c d g h then(c,d)else(g,h))->Q (Ma.spt s.1 s.2) M)
theorem ql(T:Tx K mg):Cal P w K mg base 3 "earlier_of" (sD2 Cn_earlier_of):=by
 refine bM (k:=2) T.f_earlier_of mZ fun f cdv A outer s H E hr=>⟨_,(aj (ay (iK (cH (ak (eB T).m hr (aa (dv 0) (aa (dv 1) ae)))) (dv 0) (dv 1)))),fun _ _ M Q h=>?_⟩;obtain⟨c,d,g,h',rfl,rfl,h1,h2,h3,h4,k⟩:=h;refine⟨_,rfl,_,rfl,c,d,g,h',rfl,rfl,h1,h2,h3,h4,_,rfl,?_⟩;refine bj (fun h=>?_) (fun h=>?_)
 ·have z:Ma.ah c d g h':=by simpa[Ma.ah]using h
  have:=k (c,d) (by rw[if_pos z]);exact⟨_,rfl,rtn this⟩
 ·have z:¬Ma.ah c d g h':=by simpa[Ma.ah]using h
  have:=k (g,h') (by rw[if_neg z]);exact⟨_,rfl,rtn this⟩
theorem gz:FnScope ["spot","x","y"] ["spot"] (aq lA):=by walk_at "sc"
inductive Cn_own_spot(x:D)(M:MH)(Q:DK):Prop
 |mk (a b:Rat) (_:x=Ma.spt a b) (_:Ma.Bq 8000 a) (_:Ma.Bq 8000 b) (_:Q (Ma.spt a b) M)
theorem iS(T:Tx K mg):Cal P w K mg base 3 "own_spot" (sD1 Cn_own_spot):=by refine fM (k:=2) T.f_own_spot gz fun f cdv A outer s H E hr=>⟨_,(ai (cI (dv 0) (bC rfl (aw (aB 1 gz.nd) (aw (aB 2 gz.nd) aX)))) (aj (ay (aF (aa (ak (cw T).m hr (aa (au (dv 1) af) (aa (au (dv 1) af) ae))) (aa (ak (cw T).m hr (aa (au (dv 2) af) (aa (au (dv 2) af) ae))) ae)))))),fun _ M Q h=>?_⟩;obtain⟨a,b,rfl,h1,h2,k⟩:=h;refine⟨_,rfl,_,rfl,rfl,_,_,rfl,_,_,rfl,rfl,?_⟩;refine⟨_,rfl,_,rfl,_,rfl,_,rfl,a.num,(a.den:Int),rfl,rfl,Ma.fg a,h1.1,h1.2,?_⟩;refine⟨_,rfl,_,rfl,_,rfl,_,rfl,b.num,(b.den:Int),rfl,rfl,Ma.fg b,h2.1,h2.2,nbL rfl,?_⟩;rw[Ic,Ic];exact rtn k
theorem rK:FnScope ["wall"] ["wall"] (aq mF):=by walk_at "sc"
inductive Cn_own_wall(x:D)(M:MH)(Q:DK):Prop
 |mk (a b c d:Rat) (_:x=Ma.wll a b c d) (_:Ma.Bq 8000 a) (_:Ma.Bq 8000 b) (_:Ma.Bq 8000 c) (_:Ma.Bq 8000 d) (_:Q (Ma.wll a b c d) M)
theorem tM(T:Tx K mg):Cal P w K mg base 4 "own_wall" (sD1 Cn_own_wall):=by refine fM (k:=3) T.f_own_wall rK fun f cdv A outer s H E hr=>⟨_,(aj (ay (aF (aa (ak (iS T).m hr (aa (au (dv 0) af) ae)) (aa (ak (iS T).m hr (aa (au (dv 0) af) ae)) ae))))),fun _ M Q h=>?_⟩;obtain⟨a,b,c,d,rfl,h1,h2,h3,h4,k⟩:=h;exact⟨_,rfl,_,rfl,a,b,rfl,h1,h2,_,rfl,_,rfl,c,d,rfl,h3,h4,nbL rfl,rtn k⟩
theorem cP:FnScope ["one","other","start","end"] ["one","other"] (aq eP):=by walk_at "sc"
inductive Cn_meeting_in_line(u v:D)(M:MH)(Q:DK):Prop
 |mk (a b c d e f g h:Rat) (_:u=Ma.wll a b c d) (_:v=Ma.wll e f g h) (_:Ma.Bq 100 a) (_:Ma.Bq 100 b) (_:Ma.Bq 100 c) (_:Ma.Bq 100 d) (_:Ma.Bq 100 e) (_:Ma.Bq 100 f) (_:Ma.Bq 100 g) (_:Ma.Bq 100 h) (_:Q (zL a b c d e f g h) M)
theorem jz(T:Tx K mg):Cal P w K mg base 5 "meeting_in_line" (sD2 Cn_meeting_in_line):=by
 refine bM (k:=4) T.f_meeting_in_line cP fun f cdv A outer s H E hr=>⟨_,(ai (ax 2 cP.nd (ak (ua T).m hr (aa (au (dv 0) af) (aa (au (dv 1) af) ae)))) (ai (ax 3 cP.nd (ak (ql T).m hr (aa (au (dv 0) af) (aa (au (dv 1) af) ae)))) (ai (aL (cH (ak (eB T).m hr (aa (dv 2) (aa (dv 3) ae)))) (aj (ay (aF (aa aG (aa (ak (tM T).m hr (aa (aF (aa (dv 2) (aa (dv 3) ae))) ae)) ae))))) aD) (ai (aL (cH (ak (eB T).m hr (aa (dv 3) (aa (dv 2) ae)))) (aj (ay aU)) aD) (aj (ay (aF (aa aG (aa (ak (iS T).m hr (aa (dv 2) ae)) ae))))))))),fun _ _ M Q h=>?_⟩;obtain⟨a,b,c,d,e,f,g,h',rfl,rfl,h1,h2,h3,h4,h5,h6,h7,h8,k⟩:=h;have mo:∀{n:Nat} {q:Rat},Ma.Bq 100 q->100<=n->Ma.Bq n q:=fun z l=>z.mono l;refine⟨_,rfl,_,rfl,_,rfl,_,rfl,a,b,e,f,rfl,rfl,mo h1 (by decide),mo h2 (by decide),mo h5 (by decide),mo h6 (by decide),fun s hs=>?_⟩;refine⟨_,rfl,_,rfl,_,rfl,_,rfl,c,d,g,h',rfl,rfl,mo h3 (by decide),mo h4 (by decide),mo h7 (by decide),mo h8 (by decide),fun n hn=>?_⟩
 have bs:Ma.Bq 100 s.1/\Ma.Bq 100 s.2:=by
  rw[hs];split
  ·exact⟨h1,h2⟩
  ·exact⟨h5,h6⟩
 have bn:Ma.Bq 100 n.1/\Ma.Bq 100 n.2:=by
  rw[hn];split
  ·exact⟨h3,h4⟩
  ·exact⟨h7,h8⟩
 unfold zL at k;rw[<-hs,<-hn]at k;dsimp only at k;obtain⟨s1,s2⟩:=s;obtain⟨n1,n2⟩:=n;dsimp only at bs bn k;refine⟨_,rfl,_,rfl,s1,s2,n1,n2,rfl,rfl,mo bs.1 (by decide),mo bs.2 (by decide),mo bn.1 (by decide),mo bn.2 (by decide),_,rfl,?_⟩;refine bj (fun z=>?_) (fun z=>?_)
 ·have z:Ma.ah s1 s2 n1 n2:=by simpa[Ma.ah]using z
  rw[if_pos z]at k;exact⟨_,rfl,_,rfl,nbL rfl,s1,s2,n1,n2,rfl,mo bs.1 (by decide),mo bs.2 (by decide),mo bn.1 (by decide),mo bn.2 (by decide),nbL rfl,rtn k⟩
 have z:¬Ma.ah s1 s2 n1 n2:=by simpa[Ma.ah]using z
 rw[if_neg z]at k;refine⟨_,rfl,_,rfl,n1,n2,s1,s2,rfl,rfl,mo bn.1 (by decide),mo bn.2 (by decide),mo bs.1 (by decide),mo bs.2 (by decide),_,rfl,?_⟩;refine bj (fun y=>?_) (fun y=>?_)
 ·have y:Ma.ah n1 n2 s1 s2:=by simpa[Ma.ah]using y
  rw[if_pos y]at k;exact rtn k
 ·have y:¬Ma.ah n1 n2 s1 s2:=by simpa[Ma.ah]using y
  rw[if_neg y]at k;exact⟨_,rfl,s1,s2,rfl,mo bs.1 (by decide),mo bs.2 (by decide),nbL rfl,rtn k⟩
theorem Ar:FnScope ["one","other"] ["one","other"] (aq xw):=by walk_at "sc"
inductive Cn_over(x y:D)(M:MH)(Q:DK):Prop
 |mk (n:Nat) (q r:Rat) (_:x=Ma.fr q) (_:y=Ma.fr r) (_:Ma.Bq n q) (_:Ma.Bq n r) (_:2*n+1<=8000) (_:r≠0) (_:Q (Ma.fr (q/r)) M)
theorem C3(T:Tx K mg):Cal P w K mg base 3 "over" (sD2 Cn_over):=by refine bM (k:=2) T.f_over Ar fun f cdv A outer s H E hr=>⟨_,(aj (ay (ak (cw T).m hr (aa (ar aH (au (dv 0) af) (au (dv 1) af)) (aa (ar aH (au (dv 0) af) (au (dv 1) af)) ae))))),fun _ _ M Q h=>?_⟩;obtain⟨n,q,r,rfl,rfl,h1,h2,hn,h0,k⟩:=h;obtain⟨m1,m2,m3,m4⟩:=h1.mOk h2 (by omega);have hr0:r.num≠0:=fun z=>h0 (Rat.num_eq_zero.mp z);refine⟨_,rfl,_,rfl,_,rfl,_,rfl,m2,_,rfl,_,rfl,_,rfl,_,rfl,cL (h1.2.mono (by omega)) (h2.1.mono (by omega)),?_⟩;refine⟨_,_,rfl,rfl,Int.mul_ne_zero (Ma.fg q) hr0,((h1.1.mul h2.2).mono (by omega)),((h1.2.mul h2.1).mono (by omega)),?_⟩;rw[Ma.div_eq];exact rtn k
theorem AG:FnScope ["one","other"] ["one","other"] (aq xj):=by walk_at "sc"
inductive Cn_less(x y:D)(M:MH)(Q:DK):Prop
 |mk (n:Nat) (q r:Rat) (_:x=Ma.fr q) (_:y=Ma.fr r) (_:Ma.Bq n q) (_:Ma.Bq n r) (_:2*n+1<=8000) (_:Q (Ma.fr (q-r)) M)
theorem zE(T:Tx K mg):Cal P w K mg base 3 "less" (sD2 Cn_less):=by refine bM (k:=2) T.f_less AG fun f cdv A outer s H E hr=>⟨_,(aj (ay (ak (cw T).m hr (aa (ar cB (ar aH (au (dv 0) af) (au (dv 1) af)) (ar aH (au (dv 1) af) (au (dv 0) af))) (aa (ar aH (au (dv 0) af) (au (dv 1) af)) ae))))),fun _ _ M Q h=>?_⟩;obtain⟨n,q,r,rfl,rfl,h1,h2,hn,k⟩:=h;obtain⟨m1,m2,m3,m4⟩:=h1.mOk h2 (by omega);refine⟨_,rfl,_,rfl,_,rfl,_,rfl,m2,_,rfl,_,rfl,_,rfl,_,rfl,m3,trivial,_,rfl,_,rfl,_,rfl,_,rfl,m4,?_⟩;refine⟨_,_,rfl,rfl,Ma.i8 q r,(h1.iG h2).mono hn,(h1.uN h2).mono hn,?_⟩;rw[Ma.sub_eq];exact rtn k
theorem Bb:FnScope ["one","other"] ["one","other"] (aq yR):=by walk_at "sc"
inductive Cn_plus(x y:D)(M:MH)(Q:DK):Prop
 |mk (n:Nat) (q r:Rat) (_:x=Ma.fr q) (_:y=Ma.fr r) (_:Ma.Bq n q) (_:Ma.Bq n r) (_:2*n+1<=8000) (_:Q (Ma.fr (q+r)) M)
theorem Cv(T:Tx K mg):Cal P w K mg base 3 "plus" (sD2 Cn_plus):=by refine bM (k:=2) T.f_plus Bb fun f cdv A outer s H E hr=>⟨_,(aj (ay (ak (cw T).m hr (aa (ar ck (ar aH (au (dv 0) af) (au (dv 1) af)) (ar aH (au (dv 1) af) (au (dv 0) af))) (aa (ar aH (au (dv 0) af) (au (dv 1) af)) ae))))),fun _ _ M Q h=>?_⟩;obtain⟨n,q,r,rfl,rfl,h1,h2,hn,k⟩:=h;obtain⟨m1,m2,m3,m4⟩:=h1.mOk h2 (by omega);refine⟨_,rfl,_,rfl,_,rfl,_,rfl,m2,_,rfl,_,rfl,_,rfl,_,rfl,m3,_,rfl,_,rfl,_,rfl,_,rfl,m4,?_⟩;refine⟨_,_,rfl,rfl,Ma.i8 q r,(h1.E8 h2).mono hn,(h1.uN h2).mono hn,?_⟩;rw[Ma.add_eq];exact rtn k
theorem zk:FnScope ["one","other"] ["one","other"] (aq vE):=by walk_at "sc"
inductive Cn_times(x y:D)(M:MH)(Q:DK):Prop
 |mk (n:Nat) (q r:Rat) (_:x=Ma.fr q) (_:y=Ma.fr r) (_:Ma.Bq n q) (_:Ma.Bq n r) (_:2*n+1<=8000) (_:Q (Ma.fr (q*r)) M)
theorem Bh(T:Tx K mg):Cal P w K mg base 3 "times" (sD2 Cn_times):=by refine bM (k:=2) T.f_times zk fun f cdv A outer s H E hr=>⟨_,(aj (ay (ak (cw T).m hr (aa (ar aH (au (dv 0) af) (au (dv 1) af)) (aa (ar aH (au (dv 0) af) (au (dv 1) af)) ae))))),fun _ _ M Q h=>?_⟩;obtain⟨n,q,r,rfl,rfl,h1,h2,hn,k⟩:=h;obtain⟨m1,m2,m3,m4⟩:=h1.mOk h2 (by omega);refine⟨_,rfl,_,rfl,_,rfl,_,rfl,m1,_,rfl,_,rfl,_,rfl,_,rfl,m4,?_⟩;refine⟨_,_,rfl,rfl,Ma.i8 q r,(h1.Ek h2).mono hn,(h1.uN h2).mono hn,?_⟩;rw[Ma.mul_eq];exact rtn k
theorem jq:FnScope ["start","end","share"] ["start","end","share"] (aq fL):=by walk_at "sc"
inductive Cn_number_between(x y z:D)(M:MH)(Q:DK):Prop
 |mk (p q s:Rat) (_:x=Ma.fr p) (_:y=Ma.fr q) (_:z=Ma.fr s) (_:Ma.Bq 100 p) (_:Ma.Bq 100 q) (_:Ma.Bq 3215 s) (_:Q (Ma.fr (btw p q s)) M)
theorem fq(T:Tx K mg):Cal P w K mg base 4 "number_between" (sD3 Cn_number_between):=by
 refine qO (k:=3) T.f_number_between jq fun f cdv A outer s H E hr=>⟨_,(aj (ay (ak (Cv T).m hr (aa (dv 0) (aa (ak (Bh T).m hr (aa (dv 2) (aa (ak (zE T).m hr (aa (dv 1) (aa (dv 0) ae))) ae))) ae))))),fun _ _ _ M Q h=>?_⟩;obtain⟨p,q,s,rfl,rfl,rfl,h1,h2,h3,k⟩:=h;refine⟨_,rfl,_,rfl,_,rfl,_,rfl,100,q,p,rfl,rfl,h2,h1,by decide,?_⟩;refine⟨3215,s,q-p,rfl,rfl,h3,(h2.sub h1).mono (by decide),by decide,?_⟩;have b3:Ma.Bq 3416 (s*(q-p)):=by rw[<-Ma.mul_eq];exact .divInt (Ma.i8 _ _) ((h3.1.mul (h2.sub h1).1).mono (by decide)) ((h3.2.mul (h2.sub h1).2).mono (by decide))
 exact⟨3416,p,s*(q-p),rfl,rfl,h1.mono (by decide),b3,by decide,rtn k⟩
theorem a7:FnScope ["one","other","start","end","top","bottom","from_start","share"] ["one","other"] (aq gu):=by walk_at "sc"
inductive Cn_crossing_spot(u v:D)(M:MH)(Q:DK):Prop
 |mk (a b c d e f g h:Rat) (_:u=Ma.wll a b c d) (_:v=Ma.wll e f g h) (_:Ma.Bq 100 a) (_:Ma.Bq 100 b) (_:Ma.Bq 100 c) (_:Ma.Bq 100 d) (_:Ma.Bq 100 e) (_:Ma.Bq 100 f) (_:Ma.Bq 100 g) (_:Ma.Bq 100 h) (_:Ma.cr a b c d e f-Ma.cr a b c d g h≠0) (_:Q (Ma.spt (btw e g (Ma.cr a b c d e f/(Ma.cr a b c d e f-Ma.cr a b c d g h))) (btw f h (Ma.cr a b c d e f/(Ma.cr a b c d e f-Ma.cr a b c d g h)))) M)
theorem kH(T:Tx K mg):Cal P w K mg base 5 "crossing_spot" (sD2 Cn_crossing_spot):=by
 refine bM (k:=4) T.f_crossing_spot a7 fun f cdv A outer s H E hr=>⟨_,(ai (cI (dv 1) (bC rfl (aw (aB 2 a7.nd) (aw (aB 3 a7.nd) aX)))) (ai (cI (ak (sr T).m hr (aa (dv 0) (aa (dv 2) ae))) (bC rfl (aw (aB 4 a7.nd) (aw (aB 5 a7.nd) aX)))) (ai (ax 6 a7.nd (ak (cw T).m hr (aa (dv 4) (aa (dv 5) ae)))) (ai (cI (ak (sr T).m hr (aa (dv 0) (aa (dv 3) ae))) (bC rfl (aw (aB 4 a7.nd) (aw (aB 5 a7.nd) aX)))) (ai (ax 7 a7.nd (ak (C3 T).m hr (aa (dv 6) (aa (ak (zE T).m hr (aa (dv 6) (aa (ak (cw T).m hr (aa (dv 4) (aa (dv 5) ae))) ae))) ae)))) (aj (ay (aF (aa (ak (fq T).m hr (aa (au (dv 2) af) (aa (au (dv 3) af) (aa (dv 7) ae)))) (aa (ak (fq T).m hr (aa (au (dv 2) af) (aa (au (dv 3) af) (aa (dv 7) ae)))) ae)))))))))),fun _ _ M Q h=>?_⟩;obtain⟨a,b,c,d,e,f,g,h',rfl,rfl,h1,h2,h3,h4,h5,h6,h7,h8,h0,k⟩:=h;refine⟨_,rfl,_,rfl,rfl,_,_,rfl,_,_,rfl,rfl,?_⟩;refine⟨_,rfl,_,rfl,100,a,b,c,d,e,f,rfl,rfl,h1,h2,h3,h4,h5,h6,by decide,fun t1 e1 he1 q1 bt1 be1=>?_⟩;refine⟨_,rfl,rfl,_,_,rfl,_,_,rfl,rfl,?_⟩;refine⟨_,rfl,_,rfl,t1,e1,rfl,rfl,by omega,bt1.mono (by decide),be1.mono (by decide),?_⟩;refine⟨_,rfl,_,rfl,100,a,b,c,d,g,h',rfl,rfl,h1,h2,h3,h4,h7,h8,by decide,fun t2 e2 he2 q2 bt2 be2=>?_⟩;refine⟨_,rfl,rfl,_,_,rfl,_,_,rfl,rfl,?_⟩;have b1:Ma.Bq 803 (Ma.cr a b c d e f):=by rw[<-q1];exact .divInt (by omega) bt1 be1
 have b2:Ma.Bq 803 (Ma.cr a b c d g h'):=by rw[<-q2];exact .divInt (by omega) bt2 be2
 rw[q1];refine⟨_,rfl,_,rfl,_,rfl,_,rfl,t2,e2,rfl,rfl,by omega,bt2.mono (by decide),be2.mono (by decide),?_⟩;rw[q2];refine⟨803,_,_,rfl,rfl,b1,b2,by decide,?_⟩;refine⟨1607,_,_,rfl,rfl,b1.mono (by decide),b1.sub b2,by decide,h0,?_⟩
 have bs:Ma.Bq 3215 (Ma.cr a b c d e f/(Ma.cr a b c d e f-Ma.cr a b c d g h')):=by
  rw[<-Ma.div_eq]
  have hz:(Ma.cr a b c d e f-Ma.cr a b c d g h').num≠0:=fun z=>h0 (Rat.num_eq_zero.mp z)
  have y1:=b1.mono (show 803<=1607 by decide)
  have y2:=b1.sub b2
  exact .divInt (Int.mul_ne_zero (Ma.fg _) hz) ((y1.1.mul y2.2).mono (by decide)) ((y1.2.mul y2.1).mono (by decide))
 generalize Ma.cr a b c d e f/(Ma.cr a b c d e f-Ma.cr a b c d g h')=sh at bs k;refine⟨_,rfl,_,rfl,_,rfl,_,rfl,_,rfl,e,g,sh,rfl,rfl,rfl,h5,h7,bs,?_⟩;exact⟨_,rfl,_,rfl,_,rfl,_,rfl,_,rfl,f,h',sh,rfl,rfl,rfl,h6,h8,bs,nbL rfl,rtn k⟩
theorem lR:FnScope ["one","other","first_side","second_side"] ["one","other"] (aq oz):=by walk_at "sc"
inductive Cn_meeting(u v:D)(M:MH)(Q:DK):Prop
 |mk (a b c d e f g h:Rat) (_:u=Ma.wll a b c d) (_:v=Ma.wll e f g h) (_:Ma.Bq 100 a) (_:Ma.Bq 100 b) (_:Ma.Bq 100 c) (_:Ma.Bq 100 d) (_:Ma.Bq 100 e) (_:Ma.Bq 100 f) (_:Ma.Bq 100 g) (_:Ma.Bq 100 h) (_:Q (mD a b c d e f g h) M)
theorem xf(T:Tx K mg):Cal P w K mg base 6 "meeting" (sD2 Cn_meeting):=by
 refine bM (k:=5) T.f_meeting lR fun f cdv A outer s H E hr=>⟨_,(ai (fo 2 3 rfl lR.nd (aa (ak (iA T).m hr (aa (dv 0) (aa (au (dv 1) af) ae))) (aa (ak (iA T).m hr (aa (dv 0) (aa (au (dv 1) af) ae))) ae))) (ai (aL (dJ (df (aA (eE hr.units) (dv 2) af) (dg (aA (eE hr.units) (dv 3) af)))) (aj (ay (ak (jz T).m hr (aa (dv 0) (aa (dv 1) ae))))) aD) (ai (aL (dJ (cW (aA (fU hr.units) (ar aH (dv 2) (dv 3)) af) (de (aA (fU hr.units) (ar aH (ak (iA T).m hr (aa (dv 1) (aa (au (dv 0) af) ae))) (ak (iA T).m hr (aa (dv 1) (aa (au (dv 0) af) ae)))) af)))) (aj (ay aU)) aD) (aj (ay (aF (aa aG (aa (ak (kH T).m hr (aa (dv 0) (aa (dv 1) ae))) ae)))))))),fun _ _ M Q h=>?_⟩;obtain⟨a,b,c,d,e,f,g,h',rfl,rfl,h1,h2,h3,h4,h5,h6,h7,h8,k⟩:=h;unfold mD at k;refine⟨_,rfl,_,rfl,_,rfl,100,a,b,c,d,e,f,rfl,rfl,h1,h2,h3,h4,h5,h6,by decide,?_⟩;refine⟨_,rfl,_,rfl,_,rfl,100,a,b,c,d,g,h',rfl,rfl,h1,h2,h3,h4,h7,h8,by decide,?_⟩;refine⟨_,_,rfl,?_⟩;have sb:∀z:Rat,Bd 64 (Ma.sgn z):=sP;(try dsimp only[SD.aJ])
 (try dsimp only[SD.bK,SD.bH,SD.aJ,SD.bR,SD.bO,SD.a9,SD.bg,SD.tBD,SD.bP])
 refine kb (decide (Ma.sgn (Ma.cr a b c d e f)=0)) (decide (Ma.sgn (Ma.cr a b c d g h')=0)) (fun K hK=>⟨_,rfl,_,rfl,hK⟩) (fun _ K hK=>⟨_,rfl,_,rfl,hK⟩) ?_;rw[<-Bool.decide_and];refine bj (fun z=>?_) (fun z=>?_)
 ·have z:Ma.sgn (Ma.cr a b c d e f)=0/\Ma.sgn (Ma.cr a b c d g h')=0:=by simpa using z
  rw[if_pos z]at k;exact⟨_,rfl,_,rfl,a,b,c,d,e,f,g,h',rfl,rfl,h1,h2,h3,h4,h5,h6,h7,h8,rtn k⟩
 have z:¬(Ma.sgn (Ma.cr a b c d e f)=0/\Ma.sgn (Ma.cr a b c d g h')=0):=by simpa using z
 rw[if_neg z]at k;refine orT (decide (0<Ma.sgn (Ma.cr a b c d e f)*Ma.sgn (Ma.cr a b c d g h'))) (decide (0<Ma.sgn (Ma.cr e f g h' a b)*Ma.sgn (Ma.cr e f g h' c d))) (fun K hK=>⟨_,rfl,_,rfl,bI (sb _),trivial,_,rfl,hK⟩) (fun _ K hK=>⟨_,rfl,_,rfl,_,rfl,100,e,f,g,h',a,b,rfl,rfl,h5,h6,h7,h8,h1,h2,by decide,_,rfl,_,rfl,_,rfl,100,e,f,g,h',c,d,rfl,rfl,h5,h6,h7,h8,h3,h4,by decide,bI (sb _),trivial,_,rfl,hK⟩) ?_;rw[<-Bool.decide_or];refine bj (fun y=>?_) (fun y=>?_)
 ·rw[if_pos (by simpa using y)]at k;exact rtn k
 ·have y:¬(0<Ma.sgn (Ma.cr a b c d e f)*Ma.sgn (Ma.cr a b c d g h')\/0<Ma.sgn (Ma.cr e f g h' a b)*Ma.sgn (Ma.cr e f g h' c d)):=by simpa using y
  rw[if_neg y]at k;refine⟨_,rfl,_,rfl,a,b,c,d,e,f,g,h',rfl,rfl,h1,h2,h3,h4,h5,h6,h7,h8,?_,nbL rfl,rtn k⟩;intro hz;have hz:Ma.cr a b c d e f=Ma.cr a b c d g h':=by grind
  rw[hz]at y z;have:Ma.sgn (Ma.cr a b c d g h')≠0:=fun q=>z ⟨q,q⟩;have hs:=oj (Ma.cr a b c d g h');rcases hs with q|q|q
  ·rw[q]at y;exact y (.inl (by decide))
  ·rw[q]at y;exact y (.inl (by decide))
  ·exact this q
theorem dO:FnScope ["one","other","met"] ["one","other"] (aq eK):=by walk_at "sc"
inductive Cn_meet_as_in_plots(u v:D)(M:MH)(Q:DK):Prop
 |mk (U V:RW) (_:u=wq U) (_:v=wq V) (_:NQ 100 U) (_:NQ 100 V) (_:OwQ U) (_:OwQ V) (_:Q (.bl (cA U V)) M)
theorem iQ(T:Tx K mg):Cal P w K mg base 7 "meet_as_in_plots" (sD2 Cn_meet_as_in_plots):=by
 refine bM (k:=6) T.f_meet_as_in_plots dO fun f cdv A outer s H E hr=>⟨_,(ai (ax 2 dO.nd (ak (xf T).m hr (aa (dv 0) (aa (dv 1) ae)))) (ai (aL (aA dN (dv 2) aU) (aj (ay jo)) aD) (aj (ay (lX (bX (eE hr.units) (au (dv 2) af) aG) (lX (bX (uh (qd hr)) (au (dv 2) af) (dv 0) (by with_unfolding_all rfl)) (iW (bX (uh (qd hr)) (au (dv 2) af) (dv 1) (by with_unfolding_all rfl))))))))),fun _ _ M Q h=>?_⟩;obtain⟨U,V,rfl,rfl,HU,HV,oU,oV,k⟩:=h;refine⟨_,rfl,_,rfl,_,_,_,_,_,_,_,_,rfl,rfl,HU.a,HU.b,HU.c,HU.d,HV.a,HV.b,HV.c,HV.d,?_⟩;have m:=Dh oU oV;unfold mtQ at m;generalize mD U.1 U.2.1 U.2.2.1 U.2.2.2 V.1 V.2.1 V.2.2.1 V.2.2.2=d at m;have okS:∀{x:Str},J6 x=true->Ia (.str x)=true:=fun{x} h=>Bool.and_eq_true_iff.mpr ⟨by rw[Iw];exact h,decide_eq_true (nbL rfl)⟩;cases m with
 |non h=>
  rw[h]at k
  exact⟨_,rfl,_,rfl,_,rfl,bJ rfl (rtn k)⟩
 |str h=>
  rw[h]at k
  refine⟨_,rfl,_,rfl,_,rfl,b7 rfl ?_⟩
  (try dsimp only[SD.bK,SD.bH,SD.aJ,SD.bR,SD.bO,SD.a9,SD.bg,SD.tBD,SD.bP])
  refine wD false true (fun K hK=>?_) (fun z=>absurd z G6) (rtn k)
  exact⟨_,rfl,_,rfl,_,_,.str _,.str _,okS tq,okS qm,hK⟩
 |spot h=>
  rename_i x y
  refine⟨_,rfl,_,rfl,_,rfl,b7 rfl ?_⟩
  (try dsimp only[SD.bK,SD.bH,SD.aJ,SD.bR,SD.bO,SD.a9,SD.bg,SD.tBD,SD.bP])
  refine wD true (qt U x y&&qt V x y) (fun K hK=>?_) (fun _ K hK=>?_) (rtn (by rw[Bool.true_and,<-h];exact k))
  ·refine⟨_,rfl,_,rfl,_,_,.str _,.str _,okS qm,okS qm,?_⟩;rw[kW];exact hK
  ·exact wD _ _ (fun K hK=>⟨_,rfl,_,rfl,_,rfl,vy _ _ hK⟩) (fun _ K hK=>⟨_,rfl,_,rfl,_,rfl,vy _ _ hK⟩) hK
theorem dq:FnScope ["walls","wall","number","other"] ["walls","wall"] (aq gq):=by walk_at "sc"
inductive Cn_first_crossed(u v:D)(M:MH)(Q:DK):Prop
 |mk (a:Addr) (us:List RW) (W:RW) (_:u=.ref a) (_:v=wq W) (_:M a=some (.lst (us.map wq))) (_:NQ 100 W) (_:OwQ W) (_:(∀U∈us,NQ 100 U/\OwQ U)) (_:Q (opD (fcQ W us)) M)
theorem kA(T:Tx K mg):Cal P w K mg base 8 "first_crossed" (sD2 Cn_first_crossed):=by
 refine bM (k:=7) T.f_first_crossed dq fun f cdv A outer s H E hr=>⟨_,(ai (eG Ie rfl (ib rfl T.b_enumerate (aa (dv 0) ae)) (bC rfl (aw (aB 2 dq.nd) (aw (aB 3 dq.nd) aX))) (aj (aL (gf (cH (ak (iQ T).m hr (aa (dv 1) (aa (dv 3) ae))))) (aj (ay (dv 2))) aD))) (aj (ay aU))),fun _ _ M Q h=>?_⟩;obtain⟨a,us,W,rfl,rfl,ha,HW,oW,hU,k⟩:=h;refine⟨_,rfl,a,_,rfl,ha,?_⟩;refine⟨fun i δ M'=>M'=M/\(∃o2 o3,δ=[some (.ref a),some (wq W),o2,o3])/\∀j U',j<i->us[j]?=some U'->cA W U'=true,⟨rfl,⟨_,_,rfl⟩,fun j U' h=>by omega⟩,fun i δ M' _ z=>by obtain⟨rfl,_⟩:=z;exact ha,?_,?_⟩
 ·rintro i d δ M' hi hd ⟨rfl,⟨o2,o3,rfl⟩,kp⟩;have hd:((us.map wq)[i]?).map (fun d=>D.tup [.int (i:Int),d])=some d:=hd;rw[G9]at hd;cases eu:us[i]? with
  |none=>rw[eu]at hd;cases hd
  |some U=>
   rw[eu]at hd
   cases hd
   obtain⟨q,oU⟩:=hU U (Hh eu)
   refine⟨_,rfl,rfl,_,_,rfl,_,_,rfl,rfl,?_⟩
   refine⟨_,rfl,_,rfl,W,U,rfl,rfl,HW,q,oW,oU,_,rfl,?_⟩
   cases hf:cA W U with
   |true=>
    refine b7 rfl ⟨rfl,⟨_,_,rfl⟩,fun j U' hj e=>?_⟩
    by_cases z:j=i
    ·subst z;rw[eu]at e;cases e;exact hf
    ·exact kp j U' (by omega) e
   |false=>
    refine bJ rfl ⟨_,rfl,rtn ?_⟩
    rw[yp eu hf kp]at k
    exact k
 ·rintro δ M' ⟨rfl,⟨o2,o3,rfl⟩,kp⟩;rw[yz fun j U' e=>kp j U' (by have:=(Hj.mp e).1;show j<(us.map wq).length;simp;omega) e]at k;exact rtn k
theorem gh:FnScope ["row","walls","spots","wall"] ["row","walls"] (aq ky):=by walk_at "sc"
inductive Cn_read_wall(x y:D)(M:MH)(Q:DK):Prop
 |mk (z:Str) (a:Addr) (us:List RW) (_:x=.str z) (_:y=.ref a) (_:M a=some (.lst (us.map wq))) (_:z.cps.all (· < 128)=true) (_:z.length<=900000) (_:(∀U∈us,NQ 100 U/\OwQ U)) (_:us.length<=40) (_:∀M',SD.Sub M M'->Q (opW (rdw us z)) M')
theorem eX(T:Tx K mg):Cal P w K mg base 9 "read_wall" (sD2 Cn_read_wall):=by
 refine bM (k:=8) T.f_read_wall gh fun f cdv A outer s H E hr=>⟨_,(ai (ax 2 gh.nd (ak (fR T).m hr (aa aG (aa af (aa (dv 0) ae))))) (ai (aL (dJ (cW (aA dN (dv 2) aU) (de (gf (cH (ak (eB T).m hr (aa (aS (dv 2) af) (aa (aS (dv 2) af) ae)))))))) (aj (ay aU)) aD) (ai (ax 3 gh.nd (aF (aa (aS (dv 2) af) (aa (aS (dv 2) af) ae)))) (ai (aL (dJ (cW (aA (br hr.units) (aI b4 rfl T.b_len cz (aa (dv 1) ae)) (rT rfl T.g_MOST_WALLS)) (de (aA rM (ak (kA T).m hr (aa (dv 1) (aa (dv 3) ae))) aU)))) (aj (ay aU)) aD) (aj (ay (dv 3))))))),fun _ _ M Q h=>?_⟩;obtain⟨z,a,us,rfl,rfl,ha,asc,hl,hU,hl2,k⟩:=h;refine⟨_,rfl,_,z,2,rfl,rfl,rfl,.inr rfl,asc,hl,fun l9 hl9 h9 M1 p sb hp h1=>?_,fun h9 M1 sb=>?_⟩;rotate_left
 ·have hW:=tS h9;(try dsimp only[SD.bK,SD.bH,SD.aJ,SD.bR,SD.bO,SD.a9,SD.bg,SD.tBD,SD.bP])
  refine orT true true (fun K hK=>⟨_,rfl,_,rfl,_,rfl,hK⟩) (fun h=>nomatch h) ?_;refine bJ rfl ⟨M1,.refl,?_⟩;have:=k M1 sb;rw[pf hW]at this;exact this
 obtain⟨W,hW,eW⟩:=xY hl9 h9;rw[eW]at h1;have N:=(j7 hW).1.nq;have kn:∀M',SD.Sub M M'->¬(OwQ W/\us.length≠40/\fcQ W us=none)->Q .non M':=fun M' s c=>by have:=k M' s;rw[qf hW c]at this;exact this
 (try dsimp only[SD.aJ])
 by_cases ow:OwQ W;rotate_left
 ·(try dsimp only[SD.bK,SD.bH,SD.aJ,SD.bR,SD.bO,SD.a9,SD.bg,SD.tBD,SD.bP])
  refine orT false true (fun K hK=>⟨_,rfl,_,rfl,_,rfl,hK⟩) (fun _ K hK=>?_) ?_
  ·refine⟨_,rfl,_,_,h1,rfl,_,rfl,_,_,h1,rfl,_,_,_,_,rfl,rfl,N.a.mono (by decide),N.b.mono (by decide),N.c.mono (by decide),N.d.mono (by decide),_,rfl,?_⟩;rw[decide_eq_false (show ¬(_\/_/\_)from ow)];exact hK
  ·exact bJ rfl ⟨M1,.refl,kn M1 sb fun h=>ow h.1⟩
 refine aV (fun δ M'=>M'=M1/\δ=[some (.str z),some (.ref a),some (.ref p),none]) ?_ (fun hu=>?_);rotate_left
 ·(try dsimp only[SD.bK,SD.bH,SD.aJ,SD.bR,SD.bO,SD.a9,SD.bg,SD.tBD,SD.bP])
  refine orT false false (fun K hK=>⟨_,rfl,_,rfl,_,rfl,hK⟩) (fun _ K hK=>?_) ?_
  ·refine⟨_,rfl,_,_,h1,rfl,_,rfl,_,_,h1,rfl,_,_,_,_,rfl,rfl,N.a.mono (by decide),N.b.mono (by decide),N.c.mono (by decide),N.d.mono (by decide),_,rfl,?_⟩;rw[decide_eq_true (show _\/_/\_ from ow)];exact hK
  ·exact b7 rfl (hu _ _ ⟨rfl,rfl⟩)
 rintro δ M' ⟨rfl,rfl⟩;refine⟨_,rfl,_,_,h1,rfl,_,rfl,_,_,h1,rfl,nbL rfl,?_⟩;(try dsimp only[SD.bK,SD.bH,SD.aJ,SD.bR,SD.bO,SD.a9,SD.bg,SD.tBD,SD.bP])
 refine orT (decide ((us.length:Int)=40)) (fcQ W us).isSome (fun K hK=>⟨_,rfl,_,sb _ _ ha,_,rfl,?_⟩) (fun _ K hK=>?_) ?_
 ·rw[G4];exact hK
 ·refine⟨_,rfl,_,rfl,a,us,W,rfl,rfl,sb _ _ ha,N,ow,hU,?_⟩;cases e:fcQ W us with
  |none=>rw[e]at hK;exact⟨_,rfl,_,rfl,hK⟩
  |some j=>rw[e]at hK;exact⟨_,rfl,_,rfl,hK⟩
 refine bj (fun hc=>?_) (fun hc=>?_)
 ·refine⟨M',.refl,kn M' sb fun h=>?_⟩;rw[h.2.2,decide_eq_false (show ¬(us.length:Int)=40 by have:=h.2.1;omega)]at hc;simp at hc
 ·refine⟨_,rfl,?_⟩;have:=k M' sb;rw[ud hW ⟨ow,(by intro e;rw[e]at hc;simp at hc),(by cases e:fcQ W us with|none=>rfl|some j=>rw[e]at hc;simp at hc)⟩]at this;exact rtn this
theorem aN:FnScope ["text","walls","spots","at","row","asked","wall"] ["text"] (aq fK):=by walk_at "sc"
inductive Cn_read_questions(x:D)(M:MH)(Q:DK):Prop
 |mk (z:Str) (us:List RW) (ps:List (Rat×Rat)) (hh0:x=.str z) (hh1:z.cps.all (· < 128)=true) (hh2:z.length<=900000) (hh3:(∀r∈bF z,r.length<=900000)) (hh4:sfQ true (bF z) (bF z).length=some (us,ps)) (hh5:∀M' p,SD.Sub M M'->M' p=some (.lst (ps.map spq))->Q (.tup [.tup (us.map wq),.ref p]) M'):Cn_read_questions x M Q
def cC:SpD:=fun ds M Q=>match ds with
 |[x]=>Cn_read_questions x M Q
 |_=>False
theorem jm:∀ds M Q,cC ds M Q->ds.length=1:=fun ds M Q h=>by
 unfold cC at h;split at h
 ·rfl
 ·exact h.elim
theorem jV(T:Tx K mg):Cal P w K mg base 10 "read_questions" cC:=by
 refine sE (k:=9) T.f_read_questions aN (fun _ _ _ _ _ _ us hl=>by obtain⟨_,rfl⟩:=SD.xR hl;rfl) jm fun f cdv A outer s H E hr=>⟨_,(ai (fo 1 2 rfl aN.nd (aa (aW ae) (aa (aW ae) ae))) (ai (eG Ie rfl (ib rfl T.b_enumerate (aa (ak (g8 T).m hr (aa (dv 0) ae)) ae)) (bC rfl (aw (aB 3 aN.nd) (aw (aB 4 aN.nd) aX))) (ai (ax 5 aN.nd (ak (fR T).m hr (aa aG (aa af (aa (dv 4) ae))))) (ai (ax 6 aN.nd (iK (um (dv 2)) aU (ak (eX T).m hr (aa (dv 4) (aa (dv 1) ae))))) (ai (aL (dJ (df (aA dN (dv 5) aU) (dg (aA dN (dv 6) aU)))) (aj lK) aD) (aj (aL (aA dN (dv 5) aU) (aj (cO (bw (dv 1) (aa (dv 6) ae)))) (aj (cO (bw (dv 2) (aa (aS (dv 5) af) ae)))))))))) (aj (ay (aF (aa (aT fu rfl T.b_tuple fB (aa (dv 1) ae)) (aa (dv 2) ae))))))),fun ds M Q h=>?r⟩
 case r=>
  unfold cC at h
  split at h
  case h_2=>exact h.elim
  obtain⟨z,us,ps,rfl,asc,hl,hr,fin,k⟩:=h
  have hl:z.length<=1000000:=by omega
  refine⟨nbL rfl,fun p0 hp0=>⟨nbL rfl,fun p1 hp1=>⟨_,_,rfl,?_⟩⟩⟩
  have n01:p0≠p1:=aC ag hp1
  refine⟨_,rfl,z,rfl,hl,fun p hp=>?_⟩
  have n0p:p0≠p:=fun z=>by subst z;rw[ao n01,ag]at hp;cases hp
  have n1p:p1≠p:=aC ag hp
  refine⟨p,_,rfl,ag,?_⟩
  have rl:=(bL z).1
  have ra:=(bL z).2
  generalize bF z=rs at *
  refine⟨fun i δ M'=>(∃o3 o4 o5 o6,δ=[some (.str z),some (.ref p0),some (.ref p1),o3,o4,o5,o6])/\∃vs qs,sfQ true rs i=some (vs,qs)/\M' p0=some (.lst (vs.map wq))/\M' p1=some (.lst (qs.map spq))/\M' p=some (.lst (rs.map D.str))/\SD.Sub M M',⟨⟨_,_,_,_,rfl⟩,[],[],rfl,by rw[ao n0p,ao n01,ag];rfl,by rw[ao n1p,ag];rfl,ag,.new hp (.new hp1 (.new hp0 .refl))⟩,fun i δ M' _ z=>by obtain⟨_,_,_,_,_,_,h,_⟩:=z;exact h,?_,?_⟩
  ·rintro i d δ M' hi hd ⟨⟨o3,o4,o5,o6,rfl⟩,vs,qs,g,h0,h1,h2,sb⟩;have hd:((rs.map D.str)[i]?).map (fun d=>D.tup [.int (i:Int),d])=some d:=hd;rw[G9]at hd;cases ew:rs[i]? with
   |none=>rw[ew]at hd;cases hd
   |some w=>
    rw[ew]at hd
    cases hd
    have hil:=(Hj.mp ew).1
    have ok:=jU g
    have nx:=gC g ew
    have wasc:=b5 asc (ra w (Hh ew)).2
    have wl:=hr w (Hh ew)
    refine⟨_,rfl,rfl,_,_,rfl,_,_,rfl,rfl,?_⟩
    refine⟨_,rfl,_,w,1,rfl,rfl,rfl,.inl rfl,wasc,wl,fun l9 hl9 h9 M2 pa sb2 hpa ha=>?_,fun h9 M2 sb2=>?_⟩
    ·obtain⟨s,es,rfl⟩:=vx hl9 h9;have es':rdf true w=some s:=es;rw[kQ (f:=true) es']at nx;(try dsimp only[SD.aJ])
     refine aV (fun δ M3=>(∃o3 o4,δ=[some (.str z),some (.ref p0),some (.ref p1),o3,o4,some (.ref pa),some .non])/\SD.Sub M2 M3) ?_ (fun hu=>?_);rotate_left
     ·refine⟨_,rfl,p1,_,rfl,sb2 _ _ h1,?_⟩;refine bj (fun _=>hu _ _ ⟨⟨_,_,rfl⟩,.refl⟩) (fun _=>?_);refine⟨_,rfl,_,rfl,w,p0,vs,rfl,rfl,sb2 _ _ h0,wasc,wl,(fun U hU=>⟨(ok.mem U hU).1,(ok.mem U hU).2.1⟩),ok.few,fun M3 sb3=>?_⟩;rw[pf (by cases e:rdr w with|none=>rfl|some U=>rw[uR e]at es;cases es)];exact hu _ _ ⟨⟨_,_,rfl⟩,sb3⟩
     rintro δ M3 ⟨⟨o3,o4,rfl⟩,sb3⟩;have ha:=sb3 _ _ ha;have sb3:=sb2.trans sb3;refine⟨_,rfl,_,rfl,_,rfl,b7 rfl (b7 rfl ?_)⟩;refine⟨_,rfl,_,rfl,_,rfl,b7 rfl ?_⟩;refine⟨_,rfl,p1,_,rfl,sb3 _ _ h1,_,rfl,_,_,ha,rfl,_,_,rfl,sb3 _ _ h1,(by rw[G4];have:=ok.sum;omega),?_⟩;refine⟨⟨_,_,_,_,rfl⟩,vs,qs++[s],nx,by rw[ao n01];exact sb3 _ _ h0,by rw[ag,Ik];rfl,by rw[ao n1p.symm];exact sb3 _ _ h2,fun u o e=>?_⟩;rw[ao (aC (show(av M p0 (.lst [])) u=some o by rw[ao (aC e hp0)];exact e) hp1)];exact sb3 _ _ (sb _ _ e)
    ·have er:=nG h9;have er':rdf true w=none:=er;by_cases q0:qs=[]
     ·subst q0;rw[di (f:=true) er']at nx;refine⟨_,rfl,p1,_,rfl,sb2 _ _ h1,b7 rfl ?_⟩;refine⟨_,rfl,_,rfl,w,p0,vs,rfl,rfl,sb2 _ _ h0,wasc,wl,(fun U hU=>⟨(ok.mem U hU).1,(ok.mem U hU).2.1⟩),ok.few,fun M3 sb3=>?_⟩;have sb3:=sb2.trans sb3;cases ww:rdw vs w with
      |some W=>
       rw[ww]at nx
       refine⟨_,rfl,_,rfl,_,rfl,bJ rfl ⟨_,rfl,_,rfl,_,rfl,b7 rfl ?_⟩⟩
       refine⟨_,rfl,_,rfl,_,rfl,bJ rfl ?_⟩
       refine⟨_,rfl,p0,_,rfl,sb3 _ _ h0,_,rfl,_,_,rfl,sb3 _ _ h0,(by rw[G4];have:=ok.few;omega),?_⟩
       refine⟨⟨_,_,_,_,rfl⟩,vs++[W],[],nx,by rw[ag,Ik];rfl,by rw[ao n01.symm];exact sb3 _ _ h1,by rw[ao n0p.symm];exact sb3 _ _ h2,fun u o e=>?_⟩
       rw[ao (aC e hp0)];exact sb3 _ _ (sb _ _ e)
      |none=>
       rw[ww]at nx
       obtain⟨_,_,g9⟩:=eM fin (i+1) hil
       rw[nx]at g9
       cases g9
     ·rw[gM (f:=true) er' q0]at nx;obtain⟨_,_,g9⟩:=eM fin (i+1) hil;rw[nx]at g9;cases g9
  ·rintro δ M' ⟨⟨o3,o4,o5,o6,rfl⟩,vs,qs,g,h0,h1,h2,sb⟩;have g:sfQ true rs (rs.map D.str).length=some (vs,qs):=g;rw[G4,fin]at g;cases g;exact⟨_,rfl,_,h0,_,rfl,nbL rfl,rtn (k _ p1 sb h1)⟩
def cj(K:cc):qD:=fun ds M R=>match ds with
 |[x]=>∃(z:Str) (n:Nat) (us:List RW) (ps:List (Rat×Rat)),x=.str z/\z.cps.all (· < 128)=true/\z.length<=900000/\(∀r∈bF z,r.length<=900000)/\n<(bF z).length/\sfQ true (bF z) n=some (us,ps)/\sfQ true (bF z) (n+1)=none/\
  ∀M' dx,SD.Sub M M'->M' dx=some (sR [("row",.int (n:Int))])->R (cl K "NoText") (some dx) M'
 |_=>False
theorem iR(K:cc):∀ds M Q,cj K ds M Q->ds.length=1:=fun ds M Q h=>by
 unfold cj at h;split at h
 ·rfl
 ·exact h.elim
theorem j8(T:Tx K mg):mj P w K mg base 10 "read_questions" (cj K):=by
 refine BM (k:=9) (N:=["text","walls","spots","at","row","asked","wall"]) (ps:=["text"]) T.f_read_questions aN (fun _ _ _ _ _ _ us hl=>match us,hl with|[_],_=>rfl) (iR K) fun f cdv A outer s H E R hr hE=>⟨_,(ai (fo 1 2 rfl aN.nd (aa (aW ae) (aa (aW ae) ae)))
  (ai (eG yF rfl (ib rfl T.b_enumerate (aa (ak (g8 T).m hr (aa (dv 0) ae)) ae)) (bC rfl (aw (aB 3 aN.nd) (aw (aB 4 aN.nd) aX))) (ai (ax 5 aN.nd (ak (fR T).m hr (aa aG (aa af (aa (dv 4) ae)))))
  (ai (ax 6 aN.nd (iK (um (dv 2)) aU (ak (eX T).m hr (aa (dv 4) (aa (dv 1) ae)))))
  (ai (aL (dJ (df (aA dN (dv 5) aU) (dg (aA dN (dv 6) aU)))) (aj (nR hE ((oF T).mono (by decide)) hr (aa (dv 3) ae))) aD)
  (aj (aL (aA dN (dv 5) aU) (aj (cO (bw (dv 1) (aa (dv 6) ae)))) (aj (cO (bw (dv 2) (aa (aS (dv 5) af) ae))))))))))
  nL)),fun ds M h=>?r⟩
 case r=>
  unfold cj at h
  split at h
  case h_2=>exact h.elim
  obtain⟨z,n,us,ps,rfl,asc,hl,hr,hn,gn,gn1,k⟩:=h
  have hl:z.length<=1000000:=by omega
  refine⟨nbL rfl,fun p0 hp0=>⟨nbL rfl,fun p1 hp1=>⟨_,_,rfl,?_⟩⟩⟩
  have n01:p0≠p1:=aC ag hp1
  refine⟨_,rfl,z,rfl,hl,fun p hp=>?_⟩
  have n0p:p0≠p:=fun z=>by subst z;rw[ao n01,ag]at hp;cases hp
  have n1p:p1≠p:=aC ag hp
  refine⟨p,_,rfl,ag,?_⟩
  have rl:=(bL z).1
  have ra:=(bL z).2
  generalize bF z=rs at *
  refine⟨fun i δ M'=>i<=n/\(∃o3 o4 o5 o6,δ=[some (.str z),some (.ref p0),some (.ref p1),o3,o4,o5,o6])/\∃vs qs,sfQ true rs i=some (vs,qs)/\M' p0=some (.lst (vs.map wq))/\M' p1=some (.lst (qs.map spq))/\M' p=some (.lst (rs.map D.str))/\SD.Sub M M',⟨Jb _,⟨_,_,_,_,rfl⟩,[],[],rfl,by rw[ao n0p,ao n01,ag];rfl,by rw[ao n1p,ag];rfl,ag,.new hp (.new hp1 (.new hp0 .refl))⟩,fun i δ M' _ z=>by obtain⟨_,_,_,_,_,_,_,h,_⟩:=z;exact h,?_,?_⟩
  ·rintro i d δ M' hi hd ⟨hle,⟨o3,o4,o5,o6,rfl⟩,vs,qs,g,h0,h1,h2,sb⟩;have hd:((rs.map D.str)[i]?).map (fun d=>D.tup [.int (i:Int),d])=some d:=hd;rw[G9]at hd;cases ew:rs[i]? with
   |none=>rw[ew]at hd;cases hd
   |some w=>
    rw[ew]at hd
    cases hd
    have hil:=(Hj.mp ew).1
    have ok:=jU g
    have nx:=gC g ew
    have wasc:=b5 asc (ra w (Hh ew)).2
    have wl:=hr w (Hh ew)
    refine⟨_,rfl,rfl,_,_,rfl,_,_,rfl,rfl,?_⟩
    refine⟨_,rfl,_,w,1,rfl,rfl,rfl,.inl rfl,wasc,wl,fun l9 hl9 h9 M2 pa sb2 hpa ha=>?_,fun h9 M2 sb2=>?_⟩
    ·obtain⟨s,es,rfl⟩:=vx hl9 h9;have es':rdf true w=some s:=es;rw[kQ (f:=true) es']at nx;(try dsimp only[SD.aJ])
     refine aV (fun δ M3=>(∃o3 o4,δ=[some (.str z),some (.ref p0),some (.ref p1),o3,o4,some (.ref pa),some .non])/\SD.Sub M2 M3) ?_ (fun hu=>?_);rotate_left
     ·refine⟨_,rfl,p1,_,rfl,sb2 _ _ h1,?_⟩;refine bj (fun _=>hu _ _ ⟨⟨_,_,rfl⟩,.refl⟩) (fun _=>?_);refine⟨_,rfl,_,rfl,w,p0,vs,rfl,rfl,sb2 _ _ h0,wasc,wl,(fun U hU=>⟨(ok.mem U hU).1,(ok.mem U hU).2.1⟩),ok.few,fun M3 sb3=>?_⟩;rw[pf (by cases e:rdr w with|none=>rfl|some U=>rw[uR e]at es;cases es)];exact hu _ _ ⟨⟨_,_,rfl⟩,sb3⟩
     rintro δ M3 ⟨⟨o3,o4,rfl⟩,sb3⟩;have ha:=sb3 _ _ ha;have sb3:=sb2.trans sb3;refine⟨_,rfl,_,rfl,_,rfl,b7 rfl (b7 rfl ?_)⟩;refine⟨_,rfl,_,rfl,_,rfl,b7 rfl ?_⟩;refine⟨_,rfl,p1,_,rfl,sb3 _ _ h1,_,rfl,_,_,ha,rfl,_,_,rfl,sb3 _ _ h1,(by rw[G4];have:=ok.sum;omega),?_⟩;refine⟨mO hle nx gn1,⟨_,_,_,_,rfl⟩,vs,qs++[s],nx,by rw[ao n01];exact sb3 _ _ h0,by rw[ag,Ik];rfl,by rw[ao n1p.symm];exact sb3 _ _ h2,fun u o e=>?_⟩;rw[ao (aC (show(av M p0 (.lst [])) u=some o by rw[ao (aC e hp0)];exact e) hp1)];exact sb3 _ _ (sb _ _ e)
    ·have er:=nG h9;have er':rdf true w=none:=er;by_cases q0:qs=[]
     ·subst q0;rw[di (f:=true) er']at nx;refine⟨_,rfl,p1,_,rfl,sb2 _ _ h1,b7 rfl ?_⟩;refine⟨_,rfl,_,rfl,w,p0,vs,rfl,rfl,sb2 _ _ h0,wasc,wl,(fun U hU=>⟨(ok.mem U hU).1,(ok.mem U hU).2.1⟩),ok.few,fun M3 sb3=>?_⟩;have sb3:=sb2.trans sb3;cases ww:rdw vs w with
      |some W=>
       rw[ww]at nx
       refine⟨_,rfl,_,rfl,_,rfl,bJ rfl ⟨_,rfl,_,rfl,_,rfl,b7 rfl ?_⟩⟩
       refine⟨_,rfl,_,rfl,_,rfl,bJ rfl ?_⟩
       refine⟨_,rfl,p0,_,rfl,sb3 _ _ h0,_,rfl,_,_,rfl,sb3 _ _ h0,(by rw[G4];have:=ok.few;omega),?_⟩
       refine⟨mO hle nx gn1,⟨_,_,_,_,rfl⟩,vs++[W],[],nx,by rw[ag,Ik];rfl,by rw[ao n01.symm];exact sb3 _ _ h1,by rw[ao n0p.symm];exact sb3 _ _ h2,fun u o e=>?_⟩
       rw[ao (aC e hp0)];exact sb3 _ _ (sb _ _ e)
      |none=>
       rw[ww]at nx
       have hi':i=n:=by
        by_cases e9:i<n
        ·obtain⟨_,_,g9⟩:=eM gn (i+1) e9;rw[nx]at g9;cases g9
        ·omega
       subst hi'
       refine⟨_,rfl,_,rfl,_,rfl,bJ rfl ⟨_,rfl,_,rfl,_,rfl,bJ rfl ?_⟩⟩
       refine⟨_,rfl,rfl,(show 1<=1000 by decide),fun d hd=>?_,fun dx hdx=>?_⟩
       ·rw[Hu.mp hd];exact .int (by omega) (by omega)
       ·exact k _ dx (.new hdx (sb.trans sb3)) ag
     ·rw[gM (f:=true) er' q0]at nx
      have hi':i=n:=by
       by_cases e9:i<n
       ·obtain⟨_,_,g9⟩:=eM gn (i+1) e9;rw[nx]at g9;cases g9
       ·omega
      subst hi';refine⟨_,rfl,p1,_,rfl,sb2 _ _ h1,bJ (by cases qs with|nil=>exact absurd rfl q0|cons a b=>rfl) ?_⟩;refine⟨_,rfl,_,rfl,_,rfl,bJ rfl ⟨_,rfl,_,rfl,_,rfl,bJ rfl ?_⟩⟩;refine⟨_,rfl,rfl,(show 1<=1000 by decide),fun d hd=>?_,fun dx hdx=>?_⟩
      ·rw[Hu.mp hd];exact .int (by omega) (by omega)
      ·exact k _ dx (.new hdx (sb.trans sb2)) ag
  ·rintro δ M' ⟨hle,_⟩;have hle:(rs.map D.str).length<=n:=hle;rw[G4]at hle;omega
theorem bz:FnScope ["text","walls","at","row","wall"] ["text"] (aq ko):=by walk_at "sc"
inductive Cn_read_plot(x:D)(M:MH)(Q:DK):Prop
 |mk (z:Str) (us:List RW) (ps:List (Rat×Rat)) (hh0:x=.str z) (hh1:z.cps.all (· < 128)=true) (hh2:z.length<=900000) (hh3:(∀r∈bF z,r.length<=900000)) (hh4:sfQ false (bF z) (bF z).length=some (us,ps)) (hh5:∀M',SD.Sub M M'->Q (.tup (us.map wq)) M'):Cn_read_plot x M Q
def dS:SpD:=fun ds M Q=>match ds with
 |[x]=>Cn_read_plot x M Q
 |_=>False
theorem pL:∀ds M Q,dS ds M Q->ds.length=1:=fun ds M Q h=>by
 unfold dS at h;split at h
 ·rfl
 ·exact h.elim
theorem qB(T:Tx K mg):Cal P w K mg base 10 "read_plot" dS:=by
 refine sE (k:=9) T.f_read_plot bz (fun _ _ _ _ _ _ us hl=>by obtain⟨_,rfl⟩:=SD.xR hl;rfl) pL fun f cdv A outer s H E hr=>⟨_,(ai (ax 1 bz.nd (aW ae)) (ai (eG Ie rfl (ib rfl T.b_enumerate (aa (ak (g8 T).m hr (aa (dv 0) ae)) ae)) (bC rfl (aw (aB 2 bz.nd) (aw (aB 3 bz.nd) aX))) (ai (ax 4 bz.nd (ak (eX T).m hr (aa (dv 3) (aa (dv 1) ae)))) (ai (aL (aA dN (dv 4) aU) (aj lK) aD) (aj (cO (bw (dv 1) (aa (dv 4) ae))))))) (aj (ay (aT fu rfl T.b_tuple fB (aa (dv 1) ae)))))),fun ds M Q h=>?r⟩
 case r=>
  unfold dS at h
  split at h
  case h_2=>exact h.elim
  obtain⟨z,us,ps,rfl,asc,hl,hr,fin,k⟩:=h
  refine⟨nbL rfl,fun l hl0=>?_⟩
  refine⟨_,rfl,z,rfl,by omega,fun p hp=>?_⟩
  have nlp:l≠p:=aC ag hp
  refine⟨p,_,rfl,ag,?_⟩
  have rl:=(bL z).1
  have ra:=(bL z).2
  generalize bF z=rs at *
  refine⟨fun i δ M'=>(∃o2 o3 o4,δ=[some (.str z),some (.ref l),o2,o3,o4])/\∃vs,sfQ false rs i=some (vs,[])/\M' l=some (.lst (vs.map wq))/\M' p=some (.lst (rs.map D.str))/\SD.Sub M M',⟨⟨_,_,_,rfl⟩,[],rfl,by rw[ao nlp,ag];rfl,ag,.new hp (.new hl0 .refl)⟩,fun i δ M' _ z=>by obtain⟨_,_,_,_,h,_⟩:=z;exact h,?_,?_⟩
  ·rintro i d δ M' hi hd ⟨⟨o2,o3,o4,rfl⟩,vs,g,h1,h2,sb⟩;have hd:((rs.map D.str)[i]?).map (fun d=>D.tup [.int (i:Int),d])=some d:=hd;rw[G9]at hd;cases ew:rs[i]? with
   |none=>rw[ew]at hd;cases hd
   |some w=>
    rw[ew]at hd
    cases hd
    have hil:=(Hj.mp ew).1
    have ok:=jU g
    have nx:=gC g ew
    rw[di (Bz w)]at nx
    refine⟨_,rfl,rfl,_,_,rfl,_,_,rfl,rfl,?_⟩
    refine⟨_,rfl,_,rfl,w,l,vs,rfl,rfl,h1,b5 asc (ra w (Hh ew)).2,hr w (Hh ew),(fun U hU=>⟨(ok.mem U hU).1,(ok.mem U hU).2.1⟩),ok.few,fun M2 sb2=>?_⟩
    cases ww:rdw vs w with
    |some W=>
     rw[ww]at nx
     refine⟨_,rfl,_,rfl,_,rfl,b7 rfl ?_⟩
     refine⟨_,rfl,l,_,rfl,sb2 _ _ h1,_,rfl,_,_,rfl,sb2 _ _ h1,(by rw[G4];have:=ok.few;omega),?_⟩
     refine⟨⟨_,_,_,rfl⟩,vs++[W],nx,by rw[ag,Ik];rfl,by rw[ao nlp.symm];exact sb2 _ _ h2,fun u o e=>?_⟩
     rw[ao (aC e hl0)];exact sb2 _ _ (sb _ _ e)
    |none=>
     rw[ww]at nx
     obtain⟨_,_,g9⟩:=eM fin (i+1) hil
     rw[nx]at g9
     cases g9
  ·rintro δ M' ⟨⟨o2,o3,o4,rfl⟩,vs,g,h1,h2,sb⟩;have g:sfQ false rs (rs.map D.str).length=some (vs,[]):=g;rw[G4,fin]at g;cases g;exact⟨_,rfl,_,h1,rtn (k _ sb)⟩
def dB(K:cc):qD:=fun ds M R=>match ds with
 |[x]=>∃(z:Str) (n:Nat) (us:List RW) (ps:List (Rat×Rat)),x=.str z/\z.cps.all (· < 128)=true/\z.length<=900000/\(∀r∈bF z,r.length<=900000)/\n<(bF z).length/\sfQ false (bF z) n=some (us,ps)/\sfQ false (bF z) (n+1)=none/\
  ∀M' dx,SD.Sub M M'->M' dx=some (sR [("row",.int (n:Int))])->R (cl K "NoText") (some dx) M'
 |_=>False
theorem nu(K:cc):∀ds M Q,dB K ds M Q->ds.length=1:=fun ds M Q h=>by
 unfold dB at h;split at h
 ·rfl
 ·exact h.elim
theorem qz(T:Tx K mg):mj P w K mg base 10 "read_plot" (dB K):=by
 refine BM (k:=9) (N:=["text","walls","at","row","wall"]) (ps:=["text"]) T.f_read_plot bz (fun _ _ _ _ _ _ us hl=>match us,hl with|[_],_=>rfl) (nu K) fun f cdv A outer s H E R hr hE=>⟨_,(ai (ax 1 bz.nd (aW ae))
  (ai (eG yF rfl (ib rfl T.b_enumerate (aa (ak (g8 T).m hr (aa (dv 0) ae)) ae)) (bC rfl (aw (aB 2 bz.nd) (aw (aB 3 bz.nd) aX))) (ai (ax 4 bz.nd (ak (eX T).m hr (aa (dv 3) (aa (dv 1) ae))))
  (ai (aL (aA dN (dv 4) aU) (aj (nR hE ((oF T).mono (by decide)) hr (aa (dv 2) ae))) aD)
  (aj (cO (bw (dv 1) (aa (dv 4) ae)))))))
  nL)),fun ds M h=>?r⟩
 case r=>
  unfold dB at h
  split at h
  case h_2=>exact h.elim
  obtain⟨z,n,us,ps,rfl,asc,hl,hr,hn,gn,gn1,k⟩:=h
  refine⟨nbL rfl,fun l hl0=>?_⟩
  refine⟨_,rfl,z,rfl,by omega,fun p hp=>?_⟩
  have nlp:l≠p:=aC ag hp
  refine⟨p,_,rfl,ag,?_⟩
  have rl:=(bL z).1
  have ra:=(bL z).2
  generalize bF z=rs at *
  refine⟨fun i δ M'=>i<=n/\(∃o2 o3 o4,δ=[some (.str z),some (.ref l),o2,o3,o4])/\∃vs,sfQ false rs i=some (vs,[])/\M' l=some (.lst (vs.map wq))/\M' p=some (.lst (rs.map D.str))/\SD.Sub M M',⟨Jb _,⟨_,_,_,rfl⟩,[],rfl,by rw[ao nlp,ag];rfl,ag,.new hp (.new hl0 .refl)⟩,fun i δ M' _ z=>by obtain⟨_,_,_,_,_,h,_⟩:=z;exact h,?_,?_⟩
  ·rintro i d δ M' hi hd ⟨hle,⟨o2,o3,o4,rfl⟩,vs,g,h1,h2,sb⟩;have hd:((rs.map D.str)[i]?).map (fun d=>D.tup [.int (i:Int),d])=some d:=hd;rw[G9]at hd;cases ew:rs[i]? with
   |none=>rw[ew]at hd;cases hd
   |some w=>
    rw[ew]at hd
    cases hd
    have hil:=(Hj.mp ew).1
    have ok:=jU g
    have nx:=gC g ew
    rw[di (Bz w)]at nx
    refine⟨_,rfl,rfl,_,_,rfl,_,_,rfl,rfl,?_⟩
    refine⟨_,rfl,_,rfl,w,l,vs,rfl,rfl,h1,b5 asc (ra w (Hh ew)).2,hr w (Hh ew),(fun U hU=>⟨(ok.mem U hU).1,(ok.mem U hU).2.1⟩),ok.few,fun M2 sb2=>?_⟩
    cases ww:rdw vs w with
    |some W=>
     rw[ww]at nx
     refine⟨_,rfl,_,rfl,_,rfl,b7 rfl ?_⟩
     refine⟨_,rfl,l,_,rfl,sb2 _ _ h1,_,rfl,_,_,rfl,sb2 _ _ h1,(by rw[G4];have:=ok.few;omega),?_⟩
     refine⟨mO hle nx gn1,⟨_,_,_,rfl⟩,vs++[W],nx,by rw[ag,Ik];rfl,by rw[ao nlp.symm];exact sb2 _ _ h2,fun u o e=>?_⟩
     rw[ao (aC e hl0)];exact sb2 _ _ (sb _ _ e)
    |none=>
     rw[ww]at nx
     have hi':i=n:=by
      by_cases e9:i<n
      ·obtain⟨_,_,g9⟩:=eM gn (i+1) e9;rw[nx]at g9;cases g9
      ·omega
     subst hi'
     refine⟨_,rfl,_,rfl,_,rfl,bJ rfl ?_⟩
     refine⟨_,rfl,rfl,(show 1<=1000 by decide),fun d hd=>?_,fun dx hdx=>?_⟩
     ·rw[Hu.mp hd];exact .int (by omega) (by omega)
     ·exact k _ dx (.new hdx (sb.trans sb2)) ag
  ·rintro δ M' ⟨hle,_⟩;have hle:(rs.map D.str).length<=n:=hle;rw[G4]at hle;omega
theorem fZ:FnScope ["_law_heard_here","_law_place","_law_kinds"] ["_law_heard_here","_law_place"] (aq kh):=by walk_at "sc"
def dU(K:cc):SpD:=fun ds M Q=>match ds with
 |[x,y]=>∃(a:Addr) (dd:Option Addr),x=.ref a/\y=.int 4/\M a=some (iD (cl K "NoText") dd)/\Q (.bl true) M
 |_=>False
theorem pM(K:cc):∀ds M Q,(dU K) ds M Q->ds.length=2:=fun ds M Q h=>by
 unfold dU at h;split at h
 ·rfl
 ·exact h.elim
theorem rD(T:Tx K mg):Cal P w K mg base 1 "_law_alone" (dU K):=by
 refine sE (k:=0) T.f_law_alone fZ (fun _ _ _ _ _ _ us hl=>by obtain⟨_,_,rfl⟩:=SD.zR hl;rfl) (pM K) fun f cdv A outer s H E hr=>⟨_,(ai (ax 2 fZ.nd (aW (aa (aI (cu (K:=K) rfl) rfl T.b_isinstance bB (aa (dv 0) (aa (gN rfl T.r_Absent) ae))) (aa (aI (cu (K:=K) rfl) rfl T.b_isinstance bB (aa (dv 0) (aa (gN rfl T.r_Crossing) ae))) (aa (aI (cu (K:=K) rfl) rfl T.b_isinstance bB (aa (dv 0) (aa (gN rfl T.r_NoFraction) ae))) ae))))) (ai (ax 2 fZ.nd (ar ck (dv 2) (aW (aa (aI (cu (K:=K) rfl) rfl T.b_isinstance bB (aa (dv 0) (aa (gN rfl T.r_NoRow) ae))) (aa (aI (cu (K:=K) rfl) rfl T.b_isinstance bB (aa (dv 0) (aa (gN rfl T.r_NoText) ae))) (aa (aI (cu (K:=K) rfl) rfl T.b_isinstance bB (aa (dv 0) (aa (gN rfl T.r_NoWall) ae))) ae)))))) (ai (cO (bw (dv 2) (aa (aI (cu (K:=K) rfl) rfl T.b_isinstance bB (aa (dv 0) (aa (gN rfl T.r_TooMany) ae))) ae))) (aj (ay (lX (aI (cu (K:=K) rfl) rfl T.b_isinstance bB (aa (dv 0) (aa (Fm rfl T.b_ValueError nv) ae))) (lX (bX (eE hr.units) (tH (dv 2) (aa jo ae)) af) (iW (au (dv 2) (dv 1)))))))))),fun ds M Q h=>?r⟩
 case r=>
  unfold dU at h
  split at h
  case h_2=>exact h.elim
  obtain⟨a,dd,rfl,rfl,hM,q⟩:=h
  have ek:=T.ek_NoText
  refine⟨_,rfl,.inr ⟨a,_,_,_,_,_,rfl,hM,ek,rfl,T.ki_NoText_Absent,?_⟩⟩
  refine⟨_,rfl,.inr ⟨a,_,_,_,_,_,rfl,hM,ek,rfl,T.ki_NoText_Crossing,?_⟩⟩
  refine⟨_,rfl,.inr ⟨a,_,_,_,_,_,rfl,hM,ek,rfl,T.ki_NoText_NoFraction,?_⟩⟩
  refine⟨nbL rfl,fun l hl=>?_⟩
  have nal:a≠l:=aC hM hl
  have hM1:(av M l (.lst [.bl false,.bl false,.bl false])) a=some (iD (cl K "NoText") dd):=by rw[ao nal];exact hM
  refine⟨_,rfl,_,rfl,.inr ⟨a,_,_,_,_,_,rfl,hM1,ek,rfl,T.ki_NoText_NoRow,?_⟩⟩
  refine⟨_,rfl,.inr ⟨a,_,_,_,_,_,rfl,hM1,ek,rfl,T.ki_NoText_NoText,?_⟩⟩
  refine⟨_,rfl,.inr ⟨a,_,_,_,_,_,rfl,hM1,ek,rfl,T.ki_NoText_NoWall,?_⟩⟩
  refine⟨nbL rfl,fun l2 hl2=>?_⟩
  have n12:l≠l2:=fun e=>by subst e;rw[ag]at hl2;cases hl2
  refine⟨_,_,(by rw[ao n12,ag]),ag,nbL rfl,fun l3 hl3=>?_⟩
  have na2:a≠l2:=aC hM1 hl2
  have hM1b:(av (av M l (.lst [.bl false,.bl false,.bl false])) l2 (.lst [.bl false,.bl true,.bl false])) a=some (iD (cl K "NoText") dd):=by rw[ao na2];exact hM1
  have na3:a≠l3:=aC hM1b hl3
  have hM2:(av (av (av M l (.lst [.bl false,.bl false,.bl false])) l2 (.lst [.bl false,.bl true,.bl false])) l3 (.lst ([.bl false,.bl false,.bl false]++[.bl false,.bl true,.bl false]))) a=some (iD (cl K "NoText") dd):=by rw[ao na3];exact hM1b
  refine⟨_,rfl,_,_,rfl,ag,?_⟩
  refine⟨_,rfl,.inr ⟨a,_,_,_,_,_,rfl,hM2,ek,rfl,T.ki_NoText_TooMany,?_⟩⟩
  refine⟨_,_,rfl,ag,nbL rfl,?_⟩
  rw[cS]
  generalize hMM:av (av (av M l (.lst [.bl false,.bl false,.bl false])) l2 (.lst [.bl false,.bl true,.bl false])) l3 _=M5
  have hl5:M5 l3=some (.lst (Ir D.bl [false,false,false,false,true,false,false])):=by rw[<-hMM,ag];rfl
  have hM5:M5 a=some (iD (cl K "NoText") dd):=by rw[<-hMM,ao na3];exact hM1b
  have hS5:Sub M M5:=by rw[<-hMM];exact .new hl3 (.new hl2 (.new hl .refl))
  (try dsimp only[SD.bK,SD.bH,SD.aJ,SD.bR,SD.bO,SD.a9,SD.bg,SD.tBD,SD.bP])
  refine wD true true (fun K' hK=>⟨_,rfl,.inr ⟨a,_,_,_,_,_,rfl,hM5,ek,rfl,T.kv_NoText,hK⟩⟩) (fun _ K' hK=>?_) ⟨_,hS5,q⟩
  refine wD true true (fun K' hK=>⟨_,rfl,l3,_,rfl,hl5,_,rfl,hl5,?_⟩) (fun _ K' hK=>⟨_,rfl,_,rfl,_,_,hl5,rfl,hK⟩) hK
  exact hK
theorem cg:FnScope ["_law_asks","_law_text","_law_heard_here","_law_found","_law_e"] ["_law_asks","_law_text"] (aq ki):=by walk_at "sc"
def dW(K:cc):SpD:=fun ds M Q=>match ds with
 |[y,x]=>∃(f:Bool) (z:Str),y=.int (if f=true then 1 else 0)/\x=.str z/\z.cps.all (· < 128)=true/\z.length<=900000/\(∀r∈bF z,r.length<=900000)/\∀M' d,SD.Sub M M'->pF f (bF z) d M'->Q d M'
 |_=>False
theorem pO(K:cc):∀ds M Q,(dW K) ds M Q->ds.length=2:=fun ds M Q h=>by
 unfold dW at h;split at h
 ·rfl
 ·exact h.elim
theorem rP(T:Tx K mg):Cal P w K mg base 11 "_law_heard" (dW K):=by
 refine sE (k:=10) T.f_law_heard cg (fun _ _ _ _ _ _ us hl=>by obtain⟨_,_,rfl⟩:=SD.zR hl;rfl) (pO K) fun f cdv A outer s H E hr=>⟨_,(ai (ax 2 cg.nd aU) (ai (ax 3 cg.nd aU) (ai (Bl 4 cg.nd T.e_SpotError T.r_SpotError T.eb_SpotError (aj (aL (aA (eE hr.units) (dv 0) af) (aj (ax 3 cg.nd (ak (jV T).m hr (aa (dv 1) ae)))) (aj (ax 3 cg.nd (ak (qB T).m hr (aa (dv 1) ae)))))) (CM (aA (eE hr.units) (dv 0) af) (uK (nU ((j8 T).mono (by decide)) hr (aa (dv 1) ae)) rfl) (uK (nU ((qz T).mono (by decide)) hr (aa (dv 1) ae)) rfl)) (fun _=>(aj (ax 2 cg.nd (dv 4))))) (ai (aL (aA dN (dv 2) aU) (aj (ay (aF (aa aG (aa (dv 3) ae))))) aD) (ai (aL (dJ (df (cH (aI (cu (K:=K) rfl) rfl T.b_isinstance bB (aa (dv 2) (aa (gN rfl T.r_NoText) ae)))) (dg (cH (ak (rD T).m hr (aa (dv 2) (aa af ae))))))) (aj (ay (aF (aa aG (aa (A3 (dv 2)) ae))))) aD) (aj (ay (aF (aa aG (aa af ae)))))))))),fun ds M Q h=>?r⟩
 case r=>
  unfold dW at h
  split at h
  case h_2=>exact h.elim
  obtain⟨f,z,rfl,rfl,asc,hl,hr,k⟩:=h
  (try dsimp only[SD.aJ])
  cases c:sfQ f (bF z) (bF z).length with
  |some q=>
   obtain⟨us,ps⟩:=q
   cases f with
   |true=>
    refine .inl ⟨_,rfl,_,rfl,bJ rfl ⟨_,rfl,z,us,ps,rfl,asc,hl,hr,c,fun M' p sb hp=>?_⟩⟩
    (try dsimp only[SD.aJ])
    refine⟨_,rfl,_,rfl,_,rfl,bJ rfl ?_⟩
    exact⟨_,rfl,nbL rfl,rtn (k M' _ sb (.inl ⟨us,ps,p,c,rfl,fun _=>hp⟩))⟩
   |false=>
    refine .inl ⟨_,rfl,_,rfl,b7 rfl ⟨_,rfl,z,us,ps,rfl,asc,hl,hr,c,fun M' sb=>?_⟩⟩
    (try dsimp only[SD.aJ])
    refine⟨_,rfl,_,rfl,_,rfl,bJ rfl ?_⟩
    exact⟨_,rfl,nbL rfl,rtn (k M' _ sb (.inl ⟨us,ps,0,c,rfl,fun h=>nomatch h⟩))⟩
  |none=>
   obtain⟨n,us,ps,hn,g,g1⟩:=oH c
   have rl:=(bL z).1
   have fin:∀M' dx,SD.Sub M M'->M' dx=some (sR [("row",.int (n:Int))])->∀e,M' e=none->SD.Sub M (av M' e (iD (cl K "NoText") (some dx)))/\(av M' e (iD (cl K "NoText") (some dx))) e=some (iD (cl K "NoText") (some dx))/\(av M' e (iD (cl K "NoText") (some dx))) dx=some (sR [("row",.int (n:Int))]):=fun M' dx sb hf e he=>⟨.new he sb,ag,by rw[ao (aC hf he)];exact hf⟩
   cases f with
   |true=>
    refine .inr ⟨_,rfl,_,rfl,bJ rfl ⟨_,rfl,z,n,us,ps,rfl,asc,hl,hr,hn,g,g1,fun M' dx sb hf=>⟨T.es_NoText_SpotError,fun e he=>?_⟩⟩⟩
    obtain⟨sb2,hE,hF⟩:=fin M' dx sb hf e he
    generalize av M' e (iD (cl K "NoText") (some dx))=M2 at hE hF sb2 ⊢
    refine⟨_,rfl,?_⟩
    (try dsimp only[SD.aJ])
    refine⟨_,rfl,_,rfl,_,rfl,b7 rfl ?_⟩
    (try dsimp only[SD.bK,SD.bH,SD.aJ,SD.bR,SD.bO,SD.a9,SD.bg,SD.tBD,SD.bP])
    refine kb true true (fun K' hK=>⟨_,rfl,.inr ⟨e,_,_,_,_,_,rfl,hE,T.ek_NoText,rfl,T.ki_NoText_NoText,_,rfl,hK⟩⟩) (fun _ K' hK=>⟨_,rfl,e,_,rfl,rfl,hE,_,rfl,hK⟩) ?_
    refine bJ rfl ?_
    exact⟨_,rfl,e,_,dx,_,_,rfl,hE,hF,⟨T.ek_NoText.c,T.hd_NoText,T.fn_NoText_row⟩,rfl,.int (by omega) (by omega),nbL rfl,rtn (k M2 _ sb2 (.inr ⟨n,us,ps,hn,g,g1,rfl⟩))⟩
   |false=>
    refine .inr ⟨_,rfl,_,rfl,b7 rfl ⟨_,rfl,z,n,us,ps,rfl,asc,hl,hr,hn,g,g1,fun M' dx sb hf=>⟨T.es_NoText_SpotError,fun e he=>?_⟩⟩⟩
    obtain⟨sb2,hE,hF⟩:=fin M' dx sb hf e he
    generalize av M' e (iD (cl K "NoText") (some dx))=M2 at hE hF sb2 ⊢
    refine⟨_,rfl,?_⟩
    (try dsimp only[SD.aJ])
    refine⟨_,rfl,_,rfl,_,rfl,b7 rfl ?_⟩
    (try dsimp only[SD.bK,SD.bH,SD.aJ,SD.bR,SD.bO,SD.a9,SD.bg,SD.tBD,SD.bP])
    refine kb true true (fun K' hK=>⟨_,rfl,.inr ⟨e,_,_,_,_,_,rfl,hE,T.ek_NoText,rfl,T.ki_NoText_NoText,_,rfl,hK⟩⟩) (fun _ K' hK=>⟨_,rfl,e,_,rfl,rfl,hE,_,rfl,hK⟩) ?_
    refine bJ rfl ?_
    exact⟨_,rfl,e,_,dx,_,_,rfl,hE,hF,⟨T.ek_NoText.c,T.hd_NoText,T.fn_NoText_row⟩,rfl,.int (by omega) (by omega),nbL rfl,rtn (k M2 _ sb2 (.inr ⟨n,us,ps,hn,g,g1,rfl⟩))⟩
theorem c9:FnScope ["_law_script","_law_k","_law_row","_law_scale_here","_law_lines","_law_many","_law_asks","_law_again","_law_due_here"] ["_law_script"] (aq BN):=by walk_at "sc"
def g7(ns:List Int)(i:Int)(row:Addr)(t b sx sy:Int)(p:Addr)(o5 o6 o7 o8:Option D):DS:=[some (.rol (Ir D.int ns)),some (.int i),some (.ref row),some (scl t b sx sy),some (.ref p),o5,o6,o7,o8]
structure Lns(p row:Addr)(rs:List Str)(x c:Int)(n:Nat)(M:MH):Prop where
 p:M p=some (.lst (rs.map D.str))
 r:M row=some (.lst [.int x,.int c])
 c0:0<=c
 ok:∀r∈rs,Asc r/\10∉r.cps.toList
 wt:wt rs<=n
theorem Lns.ne{p row:Addr}{rs:List Str}{x c:Int}{n:Nat}{M:MH}(h:Lns p row rs x c n M):p≠row:=fW h.p h.r
theorem Lns.sub{p row:Addr}{rs:List Str}{x c:Int}{n:Nat}{M M':MH}(h:Lns p row rs x c n M)(s:SD.Sub M M'):Lns p row rs x c n M':=⟨s _ _ h.p,s _ _ h.r,h.c0,h.ok,h.wt⟩
theorem Lns.take{p row:Addr}{rs:List Str}{x c:Int}{n:Nat}{M:MH}(h:Lns p row rs x c n M)(x':Int):Lns p row rs x' (c+1) n (av M row (.lst [.int x',.int (c+1)])):=⟨by rw[ao h.ne];exact h.p,ag,by have:=h.c0;omega,h.ok,h.wt⟩
inductive Cn_law(x:D)(M:MH)(Q:DK):Prop
 |mk (ns:_) (hh0:x=.rol (Ir D.int ns)) (hh1:ns.length<=63) (hh2:∀M',Q (.bl true) M'):Cn_law x M Q
def jY:SpD:=fun ds M Q=>match ds with
 |[x]=>Cn_law x M Q
 |_=>False
theorem D0:∀ds M Q,jY ds M Q->ds.length=1:=fun ds M Q h=>by
 unfold jY at h;split at h
 ·rfl
 ·exact h.elim
theorem FQ{P:Hi}{w:HL}{K:cc}{mg:Str->Option G0}{fa:Addr}(T:Tx K mg)(hfa:mg "law"=some (.ref fa)):∃fd,(∀(s:G3) (u:G0),BindsTo s fd ⟨[u],[]⟩ [("_law_script",u)])/\∀base:Heap,FnOk P w K mg base CX0 12 fa fd ["_law_script"] (iV K jY):=by
 refine Ga (k:=11) (N:=["_law_script","_law_k","_law_row","_law_scale_here","_law_lines","_law_many","_law_asks","_law_again","_law_due_here"]) T.f_law hfa c9 (fun _ _ _ _ _ _ us hl=>by obtain⟨_,rfl⟩:=SD.xR hl;rfl) D0 fun base f cdv A outer s H E hr=>⟨_,(ai (jC Ie rfl rfl T.b_range (aa (aI (uz rfl hr.units) rfl T.b_max yM (aa af (aa (aI (uL rfl hr.units) rfl T.b_min yJ (aa af (aa (aI b4 rfl T.b_len cz (aa (dv 0) ae)) ae))) ae))) ae) (aB 1 c9.nd) (ai (ax 2 c9.nd (aW (aa (ak (nj T).m hr (aa (dv 0) (aa (dv 1) ae))) (aa af ae)))) (ai (ax 3 c9.nd (ak (rq T).m hr (aa (dv 2) ae))) (ai (ax 4 c9.nd (ak (iZ T).m hr (aa (ak (tW T).m hr (aa (dv 3) (aa (ak (jJ T).m hr (aa (dv 2) (aa af (aa af ae)))) ae))) ae))) (@ai _ _ _ _ _ (@ax _ _ 5 _ _ _ _ c9.nd (@aS _ _ _ _ _ _ (@aW _ _ _ _ (@aa _ _ _ _ _ af (@aa _ _ _ _ _ af (@aa _ _ _ _ _ af (@aa _ _ _ _ _ af (@aa _ _ _ _ _ af (@aa _ _ _ _ _ af (@aa _ _ _ _ _ af (@aa _ _ _ _ _ af ae (by rfl)) (by rfl)) (by rfl)) (by rfl)) (by rfl)) (by rfl)) (by rfl)) (by rfl))) (ak (aE T).m hr (aa (dv 2) (aa af ae))) (by exact fun _ _=>rfl)) (by rfl) (by first|exact Or.inl rfl|exact Or.inr rfl) (by rfl) (by first|exact .inl rfl|exact .inr rfl)) (ai (aL (aA (fU hr.units) (dv 5) af) (aj (ax 4 c9.nd (ak (iZ T).m hr (aa (c8 (CScope.of (xs:=["_law_at"]) (js:=[]) rfl) rfl (nZ rfl T.b_range (aa (dv 5) ae)) (fun _ _ _ _=>bZ) (fun _ _ _ _=>(aF (aa (aF (aa (aF (aa (dv 0) (aa af ae))) (aa (aF (aa af (aa af ae))) ae))) (aa (aF (aa (aF (aa (dv 0) (aa af ae))) (aa (aF (aa af (aa af ae))) ae))) ae))))) ae)))) aD) (ai (ax 6 c9.nd (ak (aE T).m hr (aa (dv 2) (aa af ae)))) (ai (jC Ie rfl rfl T.b_range (aa (ar aH (dv 6) (ak (aE T).m hr (aa (dv 2) (aa af ae)))) ae) (aB 7 c9.nd) (aj (cO (bw (dv 4) (aa (cR aG (aa (aW (aa aG (aa (ak (gY T).m hr (aa (ak (jh T).m hr (aa (dv 2) ae)) ae)) (aa (ak (gY T).m hr (aa (ak (jh T).m hr (aa (dv 2) ae)) ae)) ae)))) ae)) ae))))) (ai (aL (aA (br hr.units) (dv 4) (aW ae)) (aj (ax 4 c9.nd (aW (aa aG ae)))) aD) (ai (jC Ie rfl rfl T.b_range (aa (ar aM af (ak (aE T).m hr (aa (dv 2) (aa af ae)))) ae) (aB 7 c9.nd) (aj (ax 4 c9.nd (ak (vY T).m hr (aa (dv 2) (aa (dv 4) ae)))))) (ai (ax 8 c9.nd (ak (vM T).m hr (aa (dv 6) (aa (dv 4) ae)))) (ai (aL (aA (br hr.units) (dv 4) (aW (aa aG ae))) (@aj _ _ _ (@ax _ _ 8 _ _ _ _ c9.nd (@aF _ _ _ _ _ (@aa _ _ _ _ _ aG (@aa _ _ _ _ _ (@aS _ _ _ _ _ _ (@aW _ _ _ _ (@aa _ _ _ _ _ (aF ae) (@aa _ _ _ _ _ (@aF _ _ _ _ _ (@aa _ _ _ _ _ (aF ae) (@aa _ _ _ _ _ (aW ae) ae (by rfl)) (by rfl))) ae (by rfl)) (by rfl))) (dv 6) (by exact fun _ _=>rfl)) ae (by rfl)) (by rfl))) (by rfl) (by first|exact Or.inl rfl|exact Or.inr rfl) (by rfl) (by first|exact .inl rfl|exact .inr rfl))) aD) (aj (aL (aA (d9 hr.units) (ak (rP T).m hr (aa (dv 6) (aa (cR aG (aa (dv 4) ae)) ae))) (dv 8)) (aj (ay jo)) aD)))))))))))))) (aj (ay jo))),fun ds M Q h=>?r⟩
 case r=>
  unfold jY at h
  split at h
  case h_2=>exact h.elim
  obtain⟨ns,rfl,hl,k⟩:=h
  refine⟨_,rfl,(max 1 (min 4 (((Ir D.int ns).length:Nat):Int))).toNat,?_,by omega,fun i δ M=>∃o1 o2 o3 o4 o5 o6 o7 o8,δ=[some (.rol (Ir D.int ns)),o1,o2,o3,o4,o5,o6,o7,o8],⟨_,_,_,_,_,_,_,_,rfl⟩,?_,fun _ _ _=>rtn (k _)⟩
  ·rw[Int.toNat_of_nonneg (by omega)]
  rintro i δ M hi ⟨o1,o2,o3,o4,o5,o6,o7,o8,rfl⟩
  refine⟨_,rfl,_,rfl,ns,i,rfl,rfl,by omega,fun z=>⟨nbL rfl,fun row hrow=>?_⟩⟩
  refine⟨_,rfl,row,z,0,rfl,ag,by decide,by decide,fun x1 c1 t b sx sy S h1 h2=>?_⟩
  refine⟨_,rfl,_,rfl,row,x1,c1,6,rfl,rfl,by decide,rfl,ag,h1,by omega,fun M2 x2 c2 l ws nrl hr2 hl2 g0 g1 g2 g3 g4=>?_⟩
  have hW:∀w∈ws,Uok (10^6) w:=fun w hw=>by
   have h:=g3 w hw
   have U:∀z:Int,(0<=z/\z<=20)->(-(10^6)<=z/\z<=10^6):=fun z h=>by omega
   exact⟨U _ h.a,U _ h.b,U _ h.c,U _ h.d⟩
  have bq:∀w∈ws,∀q∈wQ t b sx sy w,Ma.Bq 60 q:=fun w hw q hq=>by
   have HW:=g3 w hw
   have B6:∀z:Int,0<=z/\z<=20->Bd 6 z:=fun z h=>by show z.natAbs<2^6;omega
   simp only[wQ,Hr,Jw,or_false]at hq
   rcases hq with rfl|rfl|rfl|rfl
   ·exact(S.b60 (B6 _ HW.a)).1
   ·exact(S.b60 (B6 _ HW.b)).2
   ·exact(S.b60 (B6 _ HW.c)).1
   ·exact(S.b60 (B6 _ HW.d)).2
  refine⟨t,b,sx,sy,l,ws,rfl,rfl,hl2,S,by omega,hW,?_⟩
  refine⟨ws.map (tR t b sx sy),(by rw[Bt];rfl),by rw[G4];omega,By bq,fun p hp=>?_⟩
  rw[xU]
  obtain⟨rf,rw'⟩:=mB bq
  have I3:Lns p row (ws.map (jA t b sx sy)) x2 c2 7093 (av M2 p (.lst ((ws.map (jA t b sx sy)).map D.str))):=⟨ag,by rw[ao (aC hr2 hp)];exact hr2,g0,rf,by omega⟩
  generalize av M2 p (.lst ((ws.map (jA t b sx sy)).map D.str))=M3 at I3 ⊢
  generalize ws.map (jA t b sx sy)=qs at I3
  clear rf rw' bq hW g3 g4 hl2 hr2 hp
  refine⟨nbL rfl,fun pm fm=>⟨_,rfl,?_⟩⟩
  have hm3:(av M3 pm (.lst [.int 0,.int 0,.int 0,.int 0,.int 38,.int 39,.int 40,.int 41])) pm=some (.lst [.int 0,.int 0,.int 0,.int 0,.int 38,.int 39,.int 40,.int 41]):=ag
  replace I3:=I3.sub (SD.Sub.new (o:=.lst [.int 0,.int 0,.int 0,.int 0,.int 38,.int 39,.int 40,.int 41]) fm .refl)
  generalize av M3 pm (.lst [.int 0,.int 0,.int 0,.int 0,.int 38,.int 39,.int 40,.int 41])=M4 at I3 hm3 ⊢
  have nm:pm≠row:=fun e=>by
   rw[e,I3.r]at hm3
   have:=congrArg List.length (MO.lst.inj (Option.some.inj hm3))
   cases this
  refine⟨row,8,x2,c2,rfl,rfl,I3.r,g0,by omega,by decide,cD (by decide),fun x4 v4 v40 v41=>?_⟩
  obtain⟨m,em,hm⟩:=Ma.pick (xs:=[0,0,0,0,38,39,40,41]) (P:=fun m=>0<=m/\m<=41) v40 (by simpa using v41) (by decide)
  refine⟨_,_,by rw[ao nm];exact hm3,em,?_⟩
  replace I3:=I3.take x4
  generalize av M4 row (.lst [.int x4,.int (c2+1)])=M5 at I3 ⊢
  clear hm3 nm
  (try dsimp only[SD.aJ])
  refine aV (fun δ M'=>∃p rs x c,δ=g7 ns i row t b sx sy p (some (.int m)) o6 o7 o8/\Lns p row rs x c 7093 M'/\c<=200) ?_ (fun hu=>?_)
  rotate_left
  ·refine⟨_,rfl,trivial,_,rfl,?_⟩;refine bj (fun e=>?_) (fun e=>hu _ _ ⟨p,qs,x4,c2+1,rfl,I3,by omega⟩);refine⟨_,rfl,m.toNat,?_,by omega,comp_map (fun j=>rwl 1 1 0 0 ((j:Int),0,(j:Int),1)) (by show m.toNat<=_;omega) (fun _ _ _=>trivial) ?_ (fun pa ha=>?_)⟩
   ·rw[Int.toNat_of_nonneg (by omega)]
   ·intro j e' M8 hj he' _;cases he';refine⟨_,rfl,fun K hK=>?_⟩;have hK':=hK M8 .refl;rw[Gz]at hK';have L:∀{a b:D},[a,b].length<=GX:=fun{a b}=>nbL rfl;exact⟨_,rfl,L,L,L,_,rfl,L,L,L,L,hK'⟩
   ·have hb:∀w∈(HF m.toNat).map (fun j:Nat=>((j:Int),(0:Int),(j:Int),(1:Int))),∀q∈wQ 1 1 0 0 w,Ma.Bq 60 q:=fun w hw=>by obtain⟨j,hj,rfl⟩:=IB.mp hw;rw[List.mem_range]at hj;exact Fl (by omega)
    obtain⟨u1,u2⟩:=mB hb;have ll:((HF m.toNat).map (fun j:Nat=>((j:Int),(0:Int),(j:Int),(1:Int)))).length=m.toNat:=by simp
    refine⟨((HF m.toNat).map (fun j:Nat=>((j:Int),(0:Int),(j:Int),(1:Int)))).map (tR 1 1 0 0),?_,by rw[G4,ll];omega,By hb,fun pb fb=>?_⟩
    ·show _=_;rw[ag,<-Bt,Jr];rfl
    rw[xU];have I4:=I3.sub (SD.Sub.new (o:=.lst ((HF m.toNat).map (fun j:Nat=>rwl 1 1 0 0 ((j:Int),0,(j:Int),1)))) ha .refl);refine hu _ _ ⟨pb,_,x4,c2+1,rfl,⟨ag,by rw[ao (aC I4.r fb)];exact I4.r,I4.c0,u1,by rw[ll]at u2;omega⟩,by omega⟩
  clear I3 qs
  rintro δ M6 ⟨p,qs,x5,c5,rfl,I3,hc5⟩
  have c50:=I3.c0
  refine⟨_,rfl,row,2,x5,c5,rfl,rfl,I3.r,I3.c0,by omega,by decide,cD (by decide),fun x6 as a0 a1=>?_⟩
  replace I3:=I3.take x6
  generalize av M6 row (.lst [.int x6,.int (c5+1)])=M7 at I3 ⊢
  obtain⟨f,rfl⟩:∃f:Bool,as=(if f=true then 1 else 0):=by
   rcases(show as=0\/as=1 by omega)with rfl|rfl
   ·exact⟨false,rfl⟩
   ·exact⟨true,rfl⟩
  (try dsimp only[SD.aJ])
  refine aV (fun δ M'=>∃rs x c o7,δ=g7 ns i row t b sx sy p (some (.int m)) (some (.int (if f=true then 1 else 0))) o7 o8/\Lns p row rs x c 7537 M'/\c<=300) ?_ (fun hu=>?_)
  rotate_left
  ·refine⟨_,rfl,_,rfl,row,4,x6,c5+1,rfl,rfl,I3.r,I3.c0,by omega,by decide,cD (by decide),fun x3 v3 h30 h31=>?_⟩;have fv:0<=(if f=true then(1:Int)else 0)*v3/\(if f=true then(1:Int)else 0)*v3<=3:=by cases f<;>simp<;>omega
   refine⟨bI (by cases f<;>decide),((if f=true then(1:Int)else 0)*v3).toNat,?_,by omega,fun j δ M'=>∃rs x c o7,δ=g7 ns i row t b sx sy p (some (.int m)) (some (.int (if f=true then 1 else 0))) o7 o8/\Lns p row rs x c (7093+148*j) M'/\c<=c5+2+6*j,?_,?_,?_⟩
   ·rw[Int.toNat_of_nonneg fv.1]
   ·exact⟨qs,x3,c5+1+1,_,rfl,I3.take x3,by omega⟩
   ·rintro j δ M' hj ⟨rs,x,c,o7,rfl,I,hc⟩;have j5:j<3:=by omega
    have ic:=I.c0;refine⟨_,rfl,p,_,rfl,I.p,_,rfl,_,rfl,row,x,c,rfl,I.r,I.c0,by omega,fun x4 q1 b1'=>?_⟩;have b1:Ma.Bq 110 q1:=⟨G8 b1'.1 (by decide),by show((q1.den:Nat):Int).natAbs<2^110;exact G8 b1'.2 (by decide)⟩;have I4:Lns p row rs x4 (c+3) (7093+148*j) (av M' row (.lst [.int x4,.int (c+3)])):=⟨by rw[ao I.ne];exact I.p,ag,by omega,I.ok,I.wt⟩;generalize av M' row (.lst [.int x4,.int (c+3)])=M4 at I4 ⊢;refine⟨_,_,rfl,b1.1.mono (by decide),b1.2.mono (by decide),_,rfl,row,x4,c+3,rfl,I4.r,I4.c0,by omega,fun x5 q2 b2'=>?_⟩;have b2:Ma.Bq 110 q2:=⟨G8 b2'.1 (by decide),by show((q2.den:Nat):Int).natAbs<2^110;exact G8 b2'.2 (by decide)⟩;have I5:Lns p row rs x5 (c+3+3) (7093+148*j) (av M4 row (.lst [.int x5,.int (c+3+3)])):=⟨by rw[ao I4.ne];exact I4.p,ag,by omega,I4.ok,I4.wt⟩;generalize av M4 row (.lst [.int x5,.int (c+3+3)])=M5 at I5 ⊢;obtain⟨ra,rb,rc,rd⟩:=Bf b1.1 b1.2 b2.1 b2.2;refine⟨_,_,rfl,b2.1.mono (by decide),b2.2.mono (by decide),nbL rfl,fun pl fl=>⟨pl,[G1 "ask",sF q1.num q1.den,sF q2.num q2.den],rfl,ag,?_,?_⟩⟩
    ·rw[dG];exact d4 (by omega)
    rw[dG];have I6:=I5.sub (SD.Sub.new (o:=.lst [.str "ask",.str (sF q1.num q1.den),.str (sF q2.num q2.den)]) fl (.refl (M:=M5)));generalize av M5 pl _=M6 at I6 ⊢;have wl:=iY rs;have w6:=I6.wt;have szl:rs.length<1000000:=by omega
    refine⟨_,_,rfl,I6.p,by rw[G4];exact szl,?_⟩;refine⟨rs++[_],x5,c+3+3,_,rfl,⟨by rw[ag,Ik];rfl,by rw[ao I6.ne.symm];exact I6.r,I6.c0,fun r hr=>?_,?_⟩,by omega⟩
    ·rcases Hv.mp hr with h|h
     ·exact I6.ok r h
     ·rw[Hu.mp h];exact⟨ra,rb⟩
    ·rw[bV];show wt rs+(_+1+0)<=_;omega
   ·rintro δ M' ⟨rs,x,c,o7,rfl,I,hc⟩;exact hu _ _ ⟨rs,x,c,o7,rfl,⟨I.p,I.r,I.c0,I.ok,by have:=I.wt;omega⟩,by omega⟩
  clear I3
  rintro δ M8 ⟨rs,x7,c7,o7,rfl,I4,hc7⟩
  have c70:=I4.c0
  refine aV (fun δ M'=>∃p rs,δ=g7 ns i row t b sx sy p (some (.int m)) (some (.int (if f=true then 1 else 0))) o7 o8/\Lns p row rs x7 c7 7537 M'/\rs≠[]) ?_ (fun hu=>?_)
  rotate_left
  ·have rfa:∀z∈rs,Asc z:=fun z hz=>(I4.ok z hz).1;refine⟨_,rfl,nbL rfl,fun pe fe=>uG (r:=[]) ((SD.Sub.new fe .refl) _ _ I4.p) ag rfa (fun z hz=>nomatch hz) ⟨_,rfl,?_⟩⟩;have I5:=I4.sub (SD.Sub.new (o:=.lst []) fe (.refl (M:=M8)));generalize av M8 pe (.lst [])=M9 at I5 ⊢;refine bj (fun e2=>?_) (fun e2=>hu _ _ ⟨p,rs,rfl,I5,fun h=>e2 (decide_eq_true h)⟩);refine⟨nbL rfl,fun pn fn=>hu _ _ ⟨pn,[G1 "wall 0 0 1 1"],rfl,⟨ag,by rw[ao (aC I5.r fn)];exact I5.r,I5.c0,fun r hr=>?_,nbL rfl⟩,by simp⟩⟩;rw[Hu.mp hr];exact⟨by decide +kernel,by decide +kernel⟩
  clear I4 rs
  clear p
  rintro δ M9 ⟨p,rs,rfl,I4,n4⟩
  refine aV (fun δ M'=>∃p rs o7,δ=g7 ns i row t b sx sy p (some (.int m)) (some (.int (if f=true then 1 else 0))) o7 o8/\M' p=some (.lst (rs.map D.str))/\(∀r∈rs,Asc r/\10∉r.cps.toList)/\wt rs<=500000/\rs≠[]) ?_ (fun hu=>?_)
  rotate_left
  ·refine⟨_,rfl,row,2,x7,c7,rfl,rfl,I4.r,I4.c0,by omega,by decide,cD (by decide),fun x8 v8 v80 v81=>?_⟩;refine⟨(2+v8).toNat,?_,by omega,fun j δ M'=>∃p rs x c o7,δ=g7 ns i row t b sx sy p (some (.int m)) (some (.int (if f=true then 1 else 0))) o7 o8/\Lns p row rs x c (7737*4^j-200) M'/\rs≠[]/\c<=400+15*j,?_,?_,?_⟩
   ·rw[Int.toNat_of_nonneg (by omega)]
   ·exact⟨p,rs,x8,c7+1,_,rfl,I4.take x8,n4,by omega⟩
   ·rintro j δ M' hj ⟨p,rs,x,c,o7,rfl,I,n,hc⟩;have iw:=I.wt;have p4:7737*4^j<=123792:=by rcases(show j=0\/j=1\/j=2 by omega)with rfl|rfl|rfl<;>decide
    refine⟨_,rfl,_,rfl,row,p,x,c,rs,rfl,rfl,I.r,I.c0,by omega,I.p,n,I.ok,by omega,fun p' rs' M'' x' c' n' ok' wt' hp' hr' e0 e1=>?_⟩;refine⟨p',rs',x',c',_,rfl,⟨hp',hr',e0,ok',?_⟩,n',by omega⟩;have:4^(j+1)=4^j*4:=Nat.pow_succ ..;have:1<=4^j:=Nat.pow_pos (by decide);omega
   ·rintro δ M' ⟨p,rs,x,c,o7,rfl,I,n,hc⟩;refine hu _ _ ⟨p,rs,o7,rfl,I.p,I.ok,?_,n⟩;have iw:=I.wt;have p4:7737*4^(2+v8).toNat<=495168:=by rcases(show(2+v8).toNat=2\/(2+v8).toNat=3 by omega)with e|e<;>rw[e]<;>decide
    omega
  clear I4 n4 rs
  clear p
  rintro δ M5 ⟨pa,rs,o7,rfl,h5,f5,w5,n5⟩
  have asc5:∀r∈rs,Asc r:=fun r hr=>(f5 r hr).1
  have len5:∀r∈rs,r.cps.all (· < 128)=true/\r.length<=900000:=fun r hr=>⟨(f5 r hr).1,by have:=pd hr;omega⟩
  have ll5:=iY rs
  refine aV (fun δ M'=>∃dv,δ=g7 ns i row t b sx sy pa (some (.int m)) (some (.int (if f=true then 1 else 0))) o7 (some dv)/\M' pa=some (.lst (rs.map D.str))/\pF f rs dv M') ?_ (fun hu=>?_)
  rotate_left
  ·exact⟨_,rfl,_,rfl,f,pa,rs,rfl,rfl,h5,len5,by omega,fun M' d s' D'=>hu _ _ ⟨_,rfl,s' _ _ h5,D'⟩⟩
  rintro δ M6 ⟨dv,rfl,h6,D6⟩
  refine aV (fun δ M'=>∃dv,δ=g7 ns i row t b sx sy pa (some (.int m)) (some (.int (if f=true then 1 else 0))) o7 (some dv)/\M' pa=some (.lst (rs.map D.str))/\pF f (bF (HP ⟨#[10]⟩ rs)) dv M') ?_ (fun hu=>?_)
  rotate_left
  ·refine⟨_,rfl,nbL rfl,fun pe fe=>uG (r:=[IL]) ((SD.Sub.new fe .refl) _ _ h6) (by rw[ag,jR];rfl) asc5 (fun z hz=>by rw[Hu.mp hz];decide +kernel) ⟨_,rfl,?_⟩⟩;have s7:=SD.Sub.new (o:=.lst [.str ""]) fe (.refl (M:=M6));have h7:=s7 _ _ h6;have D7:=D6.mono s7;generalize av M6 pe (.lst [.str ""])=M7 at h7 D7 ⊢;refine bj (fun e=>?_) (fun e=>?_)
   ·have e:rs=[IL]:=of_decide_eq_true e;subst e;refine⟨nbL rfl,nbL rfl,nbL rfl,fun pn fn=>⟨nbL rfl,nbL rfl,fun pz fz=>⟨_,rfl,?_⟩⟩⟩;have s8:=SD.Sub.new (o:=.lst []) fn (.refl (M:=M7));have s9:=SD.Sub.new (o:=.lst [.tup [],.tup [.tup [],.ref pn]]) fz (.refl (M:=av M7 pn (.lst [])));cases f with
    |true=>
     refine⟨_,_,ag,rfl,nbL rfl,hu _ _ ⟨_,rfl,s9 _ _ (s8 _ _ h7),.inl ⟨[],[],pn,?_,rfl,fun _=>s9 _ _ ag⟩⟩⟩
     rw[oE];rfl
    |false=>
     refine⟨_,_,ag,rfl,nbL rfl,hu _ _ ⟨_,rfl,s9 _ _ (s8 _ _ h7),.inl ⟨[],[],pn,?_,rfl,fun h=>nomatch h⟩⟩⟩
     rw[oE];rfl
   have e:rs≠[IL]:=fun h=>e (decide_eq_true h);refine hu _ _ ⟨dv,rfl,h7,?_⟩;rw[vK n5 (fun r hr=>(f5 r hr).2) e];exact D7
  clear D6 h6 dv
  rintro δ M7 ⟨dv,rfl,h7,D7⟩
  rw[Bg]
  have rj:∀r∈bF (HP ⟨#[10]⟩ rs),r.length<=900000:=fun r hr=>by
   have h1:=((bL _).2 r hr).1
   have h2:=fP 10 rs n5
   omega
  have jl:=join_le 10 rs
  refine⟨_,rfl,_,rfl,_,rfl,pa,rs,rfl,h7,d4 (by omega),f,_,rfl,rfl,eL (by decide) asc5,by omega,rj,fun M8 d8 s8 D8=>⟨_,rfl,?_⟩⟩
  exact Bo D8 (D7.mono s8) ⟨_,rfl,b7 rfl ⟨_,_,_,_,_,_,_,_,rfl⟩⟩
theorem CY(ns:List Int)(M:MH)(h:ns.length<=63):jY [.rol (ns.map D.int)] M (fun d _=>d=.bl true):=⟨ns,rfl,h,fun _=>rfl⟩
def kE(P:GW)(n:String)(k:Nat)(v:G0):Iz:={ hash:=PyData.keyHash P (G1 n),key:=.str (G1 n) k,val:=v }
def kF(i:Nat)(n m:String)(k c:Nat):Obj:={ cls:=.type "function",data:=.func { name:=G1 n,qualname:=G1 n,params:=cb (top i),body:=.stmts (bo (top i)),scope:=aq (top i),globals:=↑3,closure:=[],defaults:=.none,kwdefaults:=.none,pyModule:=.str (G1 m) k,code:=.ref c } }
def kD0(P:GW):List Iz:=[kE P "__name__" ↑165 (.str "law_spotlook_k75_wrong_rows_together" 636),kE P "__doc__" ↑166 (.none),kE P "__package__" ↑167 (.none),kE P "__loader__" ↑168 (.builtin "__main__.__loader__#opaque"),kE P "__spec__" ↑169 (.none),kE P "__annotations__" ↑170 (.ref ↑6),kE P "__builtins__" ↑171 (.ref ↑4),kE P "__file__" ↑173 (.str "/claim/cut.py" 172)]
def kD1(P:GW):List Iz:=[kE P "__cached__" ↑174 (.none),kE P "SpotError" ↑206 (.ref ↑24),kE P "NoFraction" ↑222 (.ref ↑37),kE P "NoWall" ↑238 (.ref ↑49),kE P "TooMany" ↑263 (.ref ↑68),kE P "Crossing" ↑290 (.ref ↑87),kE P "Absent" ↑315 (.ref ↑106),kE P "NoText" ↑340 (.ref ↑125)]
def kD2(P:GW):List Iz:=[kE P "NoRow" ↑356 (.ref ↑137),kE P "greatest_divisor" ↑366 (.ref ↑146),kE P "fraction" ↑375 (.ref ↑153),kE P "plus" ↑383 (.ref ↑160),kE P "less" ↑391 (.ref ↑167),kE P "times" ↑399 (.ref ↑174),kE P "over" ↑407 (.ref ↑181),kE P "is_less" ↑415 (.ref ↑188)]
def kD3(P:GW):List Iz:=[kE P "is_ahead" ↑425 (.ref ↑195),kE P "later_of" ↑433 (.ref ↑202),kE P "earlier_of" ↑441 (.ref ↑209),kE P "own_spot" ↑450 (.ref ↑216),kE P "own_wall" ↑457 (.ref ↑223),kE P "gap" ↑465 (.ref ↑230),kE P "lean" ↑483 (.ref ↑237),kE P "side_of" ↑492 (.ref ↑244)]
def kD4(P:GW):List Iz:=[kE P "MOST_WALLS" ↑496 (.int 40 495),kE P "meeting" ↑506 (.ref ↑251),kE P "meeting_in_line" ↑516 (.ref ↑258),kE P "crossing_spot" ↑530 (.ref ↑265),kE P "number_between" ↑539 (.ref ↑272),kE P "meet_as_in_plots" ↑548 (.ref ↑279),kE P "first_crossed" ↑558 (.ref ↑286),kE P "MOST_FIGURES" ↑562 (.int 30 561)]
def kD5(P:GW):List Iz:=[kE P "read_number" ↑568 (.ref ↑291),kE P "read_top" ↑576 (.ref ↑298),kE P "read_fraction" ↑588 (.ref ↑305),kE P "read_spots" ↑594 (.ref ↑310),kE P "read_wall" ↑604 (.ref ↑317),kE P "rows_of" ↑611 (.ref ↑324),kE P "read_plot" ↑622 (.ref ↑331),kE P "read_questions" ↑635 (.ref ↑338)]
def kD6(P:GW):List Iz:=[kE P "_law_cell_at" ↑645 (.ref ↑345),kE P "_law_take" ↑655 (.ref ↑352),kE P "_law_low" ↑665 (.ref ↑359),kE P "_law_number" ↑676 (.ref ↑366),kE P "_law_scale" ↑686 (.ref ↑373),kE P "_law_spot" ↑698 (.ref ↑380),kE P "_law_made" ↑704 (.ref ↑385),kE P "_law_turn" ↑716 (.ref ↑392)]
def kD7(P:GW):List Iz:=[kE P "_law_on" ↑724 (.ref ↑399),kE P "_law_fair" ↑730 (.ref ↑404),kE P "_law_shuts_here" ↑736 (.ref ↑409),kE P "_law_shown" ↑743 (.ref ↑416),kE P "_law_rows" ↑749 (.ref ↑421),kE P "_law_is_whole" ↑755 (.ref ↑426),kE P "_law_fraction" ↑765 (.ref ↑433),kE P "_law_shut_in" ↑771 (.ref ↑438)]
def kD8(P:GW):List Iz:=[kE P "_law_bent" ↑788 (.ref ↑445),kE P "_law_cross" ↑809 (.ref ↑452),kE P "_law_before" ↑817 (.ref ↑459),kE P "_law_fits" ↑823 (.ref ↑464),kE P "_law_beyond" ↑831 (.ref ↑471),kE P "_law_odd" ↑837 (.ref ↑476),kE P "_law_alone" ↑846 (.ref ↑483),kE P "_law_heard" ↑857 (.ref ↑490)]
def kD9(P:GW):List Iz:=[kE P "_law_due" ↑863 (.ref ↑495),kE P "law" ↑869 (.ref ↑500)]
def kG(P:GW):Obj:={ cls:=.type "dict",data:=.dict (Ha (kD0 P++(kD1 P++(kD2 P++(kD3 P++(kD4 P++(kD5 P++(kD6 P++(kD7 P++(kD8 P++(kD9 P))))))))))) 74 }
def kCo(n:String)(a0:Nat)(a1:Nat)(a2:Nat)(a3:Nat)(a4:Nat)(a8:Nat)(a11:Nat)(a13:Nat)(a14:Nat)(a15:Nat)(a16:Nat)(a17:Nat)(a18:Nat):Obj:={ cls:=.type "code",data:=.fields #[.str (G1 n) a0,.str (G1 n) a1,.str "/claim/cut.py" a2,.int (JP a3) 0,.int (JP a4) 0,.int 0 0,.int 0 0,.int 3 0,.ref a8,.bool true,.int 181 0,.ref a11,.none,.ref a13,.ref a14,.ref a15,.int (JP a16) 0,.int (JP a17) 0,.str "/claim/cut.py" a18] }
def kM(i j:Nat)(n q m:String)(k c:Nat):Obj:={ cls:=.type "function",data:=.func { name:=G1 n,qualname:=G1 q,params:=cb (SD.vh (top i) j),body:=.stmts (bo (SD.vh (top i) j)),scope:=aq (SD.vh (top i) j),globals:=↑3,closure:=[],defaults:=.none,kwdefaults:=.none,pyModule:=.str (G1 m) k,code:=.ref c } }
def Gn(P:GW):Obj:={ cls:=.type "dict",data:=.dict (Ha [kE P "__module__" ↑196 (.str "spotlook.errors" 187),kE P "__firstlineno__" ↑200 (.int 2 199),kE P "__static_attributes__" ↑201 (.ref ↑22),kE P "__weakref__" ↑203 (.ref ↑25),kE P "__doc__" ↑204 (.none)]) 3 }
def Gr(P:GW):Obj:={ cls:=.type "dict",data:=.dict (Ha [kE P "__module__" ↑214 (.str "spotlook.errors" 187),kE P "__firstlineno__" ↑218 (.int 4 217),kE P "__static_attributes__" ↑219 (.ref ↑35),kE P "__doc__" ↑220 (.none)]) 2 }
def F7(P:GW):Obj:={ cls:=.type "dict",data:=.dict (Ha [kE P "__module__" ↑230 (.str "spotlook.errors" 187),kE P "__firstlineno__" ↑234 (.int 6 233),kE P "__static_attributes__" ↑235 (.ref ↑47),kE P "__doc__" ↑236 (.none)]) 2 }
def GQ(P:GW):Obj:={ cls:=.type "dict",data:=.dict (Ha [kE P "__module__" ↑246 (.str "spotlook.errors" 187),kE P "__firstlineno__" ↑250 (.int 8 249),kE P "__init__" ↑258 (.ref ↑65),kE P "__static_attributes__" ↑260 (.ref ↑66),kE P "__doc__" ↑261 (.none)]) 2 }
def GU(P:GW):Obj:={ cls:=.type "dict",data:=.dict (Ha [kE P "__module__" ↑271 (.str "spotlook.errors" 187),kE P "__firstlineno__" ↑275 (.int 13 274),kE P "__init__" ↑284 (.ref ↑84),kE P "__static_attributes__" ↑287 (.ref ↑85),kE P "__doc__" ↑288 (.none)]) 2 }
def FO(P:GW):Obj:={ cls:=.type "dict",data:=.dict (Ha [kE P "__module__" ↑298 (.str "spotlook.errors" 187),kE P "__firstlineno__" ↑302 (.int 19 301),kE P "__init__" ↑310 (.ref ↑103),kE P "__static_attributes__" ↑312 (.ref ↑104),kE P "__doc__" ↑313 (.none)]) 2 }
def E4(P:GW):Obj:={ cls:=.type "dict",data:=.dict (Ha [kE P "__module__" ↑323 (.str "spotlook.errors" 187),kE P "__firstlineno__" ↑327 (.int 24 326),kE P "__init__" ↑335 (.ref ↑122),kE P "__static_attributes__" ↑337 (.ref ↑123),kE P "__doc__" ↑338 (.none)]) 2 }
def EO(P:GW):Obj:={ cls:=.type "dict",data:=.dict (Ha [kE P "__module__" ↑348 (.str "spotlook.errors" 187),kE P "__firstlineno__" ↑352 (.int 29 351),kE P "__static_attributes__" ↑353 (.ref ↑135),kE P "__doc__" ↑354 (.none)]) 2 }
def kN(l:List Obj)(i:Nat):Obj:=l.getD i { cls:=.none,data:=.dict #[] }
def zzD(n q:Str)(a b c l k f r:Nat)(t:Bool)(s:Nat)(x y z:G0)(d e:Nat):Obj:={ cls:=.type "code",data:=.fields #[.str n a,.str q b,.str "/claim/cut.py" c,.int l 0,.int k 0,.int 0 0,.int 0 0,.int f 0,.ref r,.bool t,.int 181 0,.ref s,.none,x,y,z,.int d 0,.int l 0,.str "/claim/cut.py" e] }
def zzK(n:Str)(s g a i j:Nat):Obj:={ cls:=.type "type",data:=.cls { name:=n,bases:=[.ref 24],mro:=[.ref s,.ref 24,.type "ValueError",.type "Exception",.type "BaseException",.type "object"],ns:=g,qualname:=n,hasDict:=true,slotNames:=[],subclasses:=[],abstract:=false,collection:=none,hasDel:=false },slots:=#[some (.ref a),none,some (.str n i),some (.str n j),some (.builtin "ValueError.__new__"),some (.bool true)] }
def zzR(n:Str)(s g a i j:Nat):Obj:={ cls:=.type "type",data:=.cls { name:=n,bases:=[.ref ↑24],mro:=[.ref s,.ref ↑24,.type "ValueError",.type "Exception",.type "BaseException",.type "object"],ns:=g,qualname:=n,hasDict:=true,slotNames:=[],subclasses:=[],abstract:=false,collection:=none,hasDel:=false },slots:=#[some (.ref a),none,some (.str n i),some (.str n j),some (.builtin "ValueError.__new__"),some (.bool true)] }
def zzN:G0:=.str "law_spotlook_k75_wrong_rows_together" 636
def zzF(i:Nat)(n:String)(c:Nat):Obj:=kF i n "law_spotlook_k75_wrong_rows_together" ↑636 c
def kL0:List Obj:=[{ cls:=.none,data:=.dict #[] 0 },{ cls:=.type "type",data:=.cls { name:="SpotError",bases:=[(.type "ValueError")],mro:=[(.ref ↑24),(.type "ValueError"),(.type "Exception"),(.type "BaseException"),(.type "object")],ns:=23,qualname:="SpotError",hasDict:=true,slotNames:=[],subclasses:=[(.ref ↑37),(.ref ↑49),(.ref ↑68),(.ref ↑87),(.ref ↑106),(.ref ↑125),(.ref ↑137)],abstract:=false,collection:=none,hasDel:=false },slots:=#[(some (.ref ↑15)),none,(some (.str "SpotError" 189)),(some (.str "SpotError" 197)),(some (.builtin "ValueError.__new__")),(some (.bool true))] },(zzR "NoFraction" ↑37 36 ↑28 207 215),(zzR "NoWall" ↑49 48 ↑40 223 231),(zzD "__init__" "TooMany.__init__" 251 252 253 10 2 3 59 true 60 (.ref 61) (.ref 62) (.ref 63) 256 257),kM ↑4 ↑0 "__init__" "TooMany.__init__" "spotlook.errors" ↑187 ↑64,(zzR "TooMany" ↑68 67 ↑52 239 247),(zzD "__init__" "Crossing.__init__" 276 277 278 15 3 3 78 true 79 (.ref 80) (.ref 81) (.ref 82) 282 283)]
def kL1:List Obj:=[kM ↑5 ↑0 "__init__" "Crossing.__init__" "spotlook.errors" ↑187 ↑83,(zzR "Crossing" ↑87 86 ↑71 264 272),(zzD "__init__" "Absent.__init__" 303 304 305 21 2 3 97 true 98 (.ref 99) (.ref 100) (.ref 101) 308 309),kM ↑6 ↑0 "__init__" "Absent.__init__" "spotlook.errors" ↑187 ↑102,(zzR "Absent" ↑106 105 ↑90 291 299),(zzD "__init__" "NoText.__init__" 328 329 330 26 2 3 116 true 117 (.ref 118) (.ref 119) (.ref 120) 333 334),kM ↑7 ↑0 "__init__" "NoText.__init__" "spotlook.errors" ↑187 ↑121,(zzR "NoText" ↑125 124 ↑109 316 324)]
def kL2:List Obj:=[(zzR "NoRow" ↑137 136 ↑128 341 349),kCo "greatest_divisor" ↑359 ↑360 ↑361 ↑32 ↑2 ↑140 ↑141 ↑142 ↑143 ↑144 ↑364 ↑32 ↑365,kF ↑10 "greatest_divisor" "spotlook.fractions" ↑357 ↑145,kCo "fraction" ↑367 ↑368 ↑369 ↑36 ↑2 ↑147 ↑148 ↑149 ↑150 ↑151 ↑373 ↑36 ↑374,kF ↑11 "fraction" "spotlook.fractions" ↑357 ↑152,kCo "plus" ↑376 ↑377 ↑378 ↑43 ↑2 ↑154 ↑155 ↑156 ↑157 ↑158 ↑381 ↑43 ↑382,kF ↑12 "plus" "spotlook.fractions" ↑357 ↑159,kCo "less" ↑384 ↑385 ↑386 ↑45 ↑2 ↑161 ↑162 ↑163 ↑164 ↑165 ↑389 ↑45 ↑390]
def kL3:List Obj:=[kF ↑13 "less" "spotlook.fractions" ↑357 ↑166,kCo "times" ↑392 ↑393 ↑394 ↑47 ↑2 ↑168 ↑169 ↑170 ↑171 ↑172 ↑397 ↑47 ↑398,kF ↑14 "times" "spotlook.fractions" ↑357 ↑173,kCo "over" ↑400 ↑401 ↑402 ↑49 ↑2 ↑175 ↑176 ↑177 ↑178 ↑179 ↑405 ↑49 ↑406,kF ↑15 "over" "spotlook.fractions" ↑357 ↑180,kCo "is_less" ↑408 ↑409 ↑410 ↑51 ↑2 ↑182 ↑183 ↑184 ↑185 ↑186 ↑413 ↑51 ↑414,kF ↑16 "is_less" "spotlook.fractions" ↑357 ↑187,kCo "is_ahead" ↑418 ↑419 ↑420 ↑54 ↑2 ↑189 ↑190 ↑191 ↑192 ↑193 ↑423 ↑54 ↑424]
def kL4:List Obj:=[kF ↑18 "is_ahead" "spotlook.spots" ↑416 ↑194,kCo "later_of" ↑426 ↑427 ↑428 ↑58 ↑2 ↑196 ↑197 ↑198 ↑199 ↑200 ↑431 ↑58 ↑432,kF ↑19 "later_of" "spotlook.spots" ↑416 ↑201,kCo "earlier_of" ↑434 ↑435 ↑436 ↑60 ↑2 ↑203 ↑204 ↑205 ↑206 ↑207 ↑439 ↑60 ↑440,kF ↑20 "earlier_of" "spotlook.spots" ↑416 ↑208,kCo "own_spot" ↑442 ↑443 ↑444 ↑62 ↑1 ↑210 ↑211 ↑212 ↑213 ↑214 ↑448 ↑62 ↑449,kF ↑21 "own_spot" "spotlook.spots" ↑416 ↑215,kCo "own_wall" ↑451 ↑452 ↑453 ↑65 ↑1 ↑217 ↑218 ↑219 ↑220 ↑221 ↑455 ↑65 ↑456]
def kL5:List Obj:=[kF ↑22 "own_wall" "spotlook.spots" ↑416 ↑222,kCo "gap" ↑458 ↑459 ↑460 ↑67 ↑2 ↑224 ↑225 ↑226 ↑227 ↑228 ↑463 ↑67 ↑464,kF ↑23 "gap" "spotlook.spots" ↑416 ↑229,kCo "lean" ↑466 ↑467 ↑468 ↑69 ↑2 ↑231 ↑232 ↑233 ↑234 ↑235 ↑481 ↑69 ↑482,kF ↑24 "lean" "spotlook.spots" ↑416 ↑236,kCo "side_of" ↑484 ↑485 ↑486 ↑75 ↑2 ↑238 ↑239 ↑240 ↑241 ↑242 ↑490 ↑75 ↑491,kF ↑25 "side_of" "spotlook.spots" ↑416 ↑243,kCo "meeting" ↑497 ↑498 ↑499 ↑84 ↑2 ↑245 ↑246 ↑247 ↑248 ↑249 ↑504 ↑84 ↑505]
def kL6:List Obj:=[kF ↑28 "meeting" "spotlook.plots" ↑493 ↑250,kCo "meeting_in_line" ↑507 ↑508 ↑509 ↑91 ↑2 ↑252 ↑253 ↑254 ↑255 ↑256 ↑514 ↑91 ↑515,kF ↑29 "meeting_in_line" "spotlook.plots" ↑493 ↑257,kCo "crossing_spot" ↑517 ↑518 ↑519 ↑99 ↑2 ↑259 ↑260 ↑261 ↑262 ↑263 ↑528 ↑99 ↑529,kF ↑30 "crossing_spot" "spotlook.plots" ↑493 ↑264,kCo "number_between" ↑531 ↑532 ↑533 ↑106 ↑3 ↑266 ↑267 ↑268 ↑269 ↑270 ↑537 ↑106 ↑538,kF ↑31 "number_between" "spotlook.plots" ↑493 ↑271,kCo "meet_as_in_plots" ↑540 ↑541 ↑542 ↑108 ↑2 ↑273 ↑274 ↑275 ↑276 ↑277 ↑546 ↑108 ↑547]
def kL7:List Obj:=[kF ↑32 "meet_as_in_plots" "spotlook.plots" ↑493 ↑278,kCo "first_crossed" ↑549 ↑550 ↑551 ↑113 ↑2 ↑280 ↑281 ↑282 ↑283 ↑284 ↑556 ↑113 ↑557,kF ↑33 "first_crossed" "spotlook.plots" ↑493 ↑285,(zzD "read_number" "read_number" 563 564 565 120 1 3 287 true 288 .none .none (.ref 289) 566 567),kF ↑36 "read_number" "spotlook.texts" ↑559 ↑290,kCo "read_top" ↑569 ↑570 ↑571 ↑126 ↑1 ↑292 ↑293 ↑294 ↑295 ↑296 ↑574 ↑126 ↑575,kF ↑37 "read_top" "spotlook.texts" ↑559 ↑297,kCo "read_fraction" ↑577 ↑578 ↑579 ↑131 ↑1 ↑299 ↑300 ↑301 ↑302 ↑303 ↑586 ↑131 ↑587]
def kL8:List Obj:=[kF ↑38 "read_fraction" "spotlook.texts" ↑559 ↑304,(zzD "read_spots" "read_spots" 589 590 591 140 3 3 306 true 307 .none .none (.ref 308) 592 593),kF ↑39 "read_spots" "spotlook.texts" ↑559 ↑309,kCo "read_wall" ↑595 ↑596 ↑597 ↑146 ↑2 ↑311 ↑312 ↑313 ↑314 ↑315 ↑602 ↑146 ↑603,kF ↑40 "read_wall" "spotlook.texts" ↑559 ↑316,kCo "rows_of" ↑605 ↑606 ↑607 ↑154 ↑1 ↑318 ↑319 ↑320 ↑321 ↑322 ↑609 ↑154 ↑610,kF ↑41 "rows_of" "spotlook.texts" ↑559 ↑323,kCo "read_plot" ↑612 ↑613 ↑614 ↑156 ↑1 ↑325 ↑326 ↑327 ↑328 ↑329 ↑620 ↑156 ↑621]
def kL9:List Obj:=[kF ↑42 "read_plot" "spotlook.texts" ↑559 ↑330,kCo "read_questions" ↑623 ↑624 ↑625 ↑164 ↑1 ↑332 ↑333 ↑334 ↑335 ↑336 ↑633 ↑164 ↑634,kF ↑43 "read_questions" "spotlook.texts" ↑559 ↑337,kCo "_law_cell_at" ↑638 ↑639 ↑640 ↑177 ↑2 ↑339 ↑340 ↑341 ↑342 ↑343 ↑643 ↑177 ↑644,zzF ↑45 "_law_cell_at" ↑344,kCo "_law_take" ↑646 ↑647 ↑648 ↑181 ↑2 ↑346 ↑347 ↑348 ↑349 ↑350 ↑653 ↑181 ↑654,zzF ↑46 "_law_take" ↑351,kCo "_law_low" ↑656 ↑657 ↑658 ↑191 ↑2 ↑353 ↑354 ↑355 ↑356 ↑357 ↑663 ↑191 ↑664]
def kL10:List Obj:=[zzF ↑47 "_law_low" ↑358,kCo "_law_number" ↑666 ↑667 ↑668 ↑199 ↑1 ↑360 ↑361 ↑362 ↑363 ↑364 ↑674 ↑199 ↑675,zzF ↑48 "_law_number" ↑365,kCo "_law_scale" ↑677 ↑678 ↑679 ↑205 ↑1 ↑367 ↑368 ↑369 ↑370 ↑371 ↑684 ↑205 ↑685,zzF ↑49 "_law_scale" ↑372,kCo "_law_spot" ↑687 ↑688 ↑689 ↑211 ↑2 ↑374 ↑375 ↑376 ↑377 ↑378 ↑696 ↑211 ↑697,zzF ↑50 "_law_spot" ↑379,(zzD "_law_made" "_law_made" 699 700 701 214 2 3 381 true 382 .none .none (.ref 383) 702 703)]
def kL11:List Obj:=[zzF ↑51 "_law_made" ↑384,kCo "_law_turn" ↑705 ↑706 ↑707 ↑216 ↑3 ↑386 ↑387 ↑388 ↑389 ↑390 ↑714 ↑216 ↑715,zzF ↑52 "_law_turn" ↑391,kCo "_law_on" ↑717 ↑718 ↑719 ↑221 ↑2 ↑393 ↑394 ↑395 ↑396 ↑397 ↑722 ↑221 ↑723,zzF ↑53 "_law_on" ↑398,(zzD "_law_fair" "_law_fair" 725 726 727 223 2 3 400 true 401 .none .none (.ref 402) 728 729),zzF ↑54 "_law_fair" ↑403,(zzD "_law_shuts_here" "_law_shuts_here" 731 732 733 233 3 3 405 true 406 .none .none (.ref 407) 734 735)]
def kL12:List Obj:=[zzF ↑55 "_law_shuts_here" ↑408,kCo "_law_shown" ↑737 ↑738 ↑739 ↑244 ↑1 ↑410 ↑411 ↑412 ↑413 ↑414 ↑741 ↑244 ↑742,zzF ↑56 "_law_shown" ↑415,(zzD "_law_rows" "_law_rows" 744 745 746 246 1 3 417 true 418 .none .none (.ref 419) 747 748),zzF ↑57 "_law_rows" ↑420,(zzD "_law_is_whole" "_law_is_whole" 750 751 752 248 1 3 422 true 423 .none .none (.ref 424) 753 754),zzF ↑58 "_law_is_whole" ↑425,kCo "_law_fraction" ↑756 ↑757 ↑758 ↑252 ↑1 ↑427 ↑428 ↑429 ↑430 ↑431 ↑763 ↑252 ↑764]
def kL13:List Obj:=[zzF ↑59 "_law_fraction" ↑432,(zzD "_law_shut_in" "_law_shut_in" 766 767 768 265 1 3 434 true 435 .none .none (.ref 436) 769 770),zzF ↑60 "_law_shut_in" ↑437,kCo "_law_bent" ↑772 ↑773 ↑774 ↑276 ↑2 ↑439 ↑440 ↑441 ↑442 ↑443 ↑786 ↑276 ↑787,zzF ↑61 "_law_bent" ↑444,kCo "_law_cross" ↑789 ↑790 ↑791 ↑307 ↑3 ↑446 ↑447 ↑448 ↑449 ↑450 ↑807 ↑307 ↑808,zzF ↑62 "_law_cross" ↑451,kCo "_law_before" ↑810 ↑811 ↑812 ↑316 ↑2 ↑453 ↑454 ↑455 ↑456 ↑457 ↑815 ↑316 ↑816]
def kL14:List Obj:=[zzF ↑63 "_law_before" ↑458,(zzD "_law_fits" "_law_fits" 818 819 820 320 2 3 460 true 461 .none .none (.ref 462) 821 822),zzF ↑64 "_law_fits" ↑463,kCo "_law_beyond" ↑824 ↑825 ↑826 ↑331 ↑2 ↑465 ↑466 ↑467 ↑468 ↑469 ↑829 ↑331 ↑830,zzF ↑65 "_law_beyond" ↑470,(zzD "_law_odd" "_law_odd" 832 833 834 333 2 3 472 true 473 .none .none (.ref 474) 835 836),zzF ↑66 "_law_odd" ↑475,kCo "_law_alone" ↑838 ↑839 ↑840 ↑341 ↑2 ↑477 ↑478 ↑479 ↑480 ↑481 ↑844 ↑341 ↑845]
def kL15:List Obj:=[zzF ↑67 "_law_alone" ↑482,kCo "_law_heard" ↑847 ↑848 ↑849 ↑346 ↑2 ↑484 ↑485 ↑486 ↑487 ↑488 ↑855 ↑346 ↑856,zzF ↑68 "_law_heard" ↑489,(zzD "_law_due" "_law_due" 858 859 860 361 2 3 491 true 492 .none .none (.ref 493) 861 862),zzF ↑69 "_law_due" ↑494,(zzD "law" "law" 864 865 866 377 1 3 496 true 497 .none .none (.ref 498) 867 868),zzF ↑70 "law" ↑499]
def kK:GW->cc:=fun P=>(↑2,kN kL0 ↑0)::(↑3,kG P)::(↑23,Gn P)::(↑24,kN kL0 ↑1)::(↑36,Gr P)::(↑37,kN kL0 ↑2)::(↑48,F7 P)::(↑49,kN kL0 ↑3)::(↑64,kN kL0 ↑4)::(↑65,kN kL0 ↑5)::(↑67,GQ P)::(↑68,kN kL0 ↑6)::(↑83,kN kL0 ↑7)::(↑84,kN kL1 ↑0)::(↑86,GU P)::(↑87,kN kL1 ↑1)::(↑102,kN kL1 ↑2)::(↑103,kN kL1 ↑3)::(↑105,FO P)::(↑106,kN kL1 ↑4)::(↑121,kN kL1 ↑5)::(↑122,kN kL1 ↑6)::(↑124,E4 P)::(↑125,kN kL1 ↑7)::(↑136,EO P)::(↑137,kN kL2 ↑0)::(↑145,kN kL2 ↑1)::(↑146,kN kL2 ↑2)::(↑152,kN kL2 ↑3)::(↑153,kN kL2 ↑4)::(↑159,kN kL2 ↑5)::(↑160,kN kL2 ↑6)::(↑166,kN kL2 ↑7)::(↑167,kN kL3 ↑0)::(↑173,kN kL3 ↑1)::(↑174,kN kL3 ↑2)::(↑180,kN kL3 ↑3)::(↑181,kN kL3 ↑4)::(↑187,kN kL3 ↑5)::(↑188,kN kL3 ↑6)::(↑194,kN kL3 ↑7)::(↑195,kN kL4 ↑0)::(↑201,kN kL4 ↑1)::(↑202,kN kL4 ↑2)::(↑208,kN kL4 ↑3)::(↑209,kN kL4 ↑4)::(↑215,kN kL4 ↑5)::(↑216,kN kL4 ↑6)::(↑222,kN kL4 ↑7)::(↑223,kN kL5 ↑0)::(↑229,kN kL5 ↑1)::(↑230,kN kL5 ↑2)::(↑236,kN kL5 ↑3)::(↑237,kN kL5 ↑4)::(↑243,kN kL5 ↑5)::(↑244,kN kL5 ↑6)::(↑250,kN kL5 ↑7)::(↑251,kN kL6 ↑0)::(↑257,kN kL6 ↑1)::(↑258,kN kL6 ↑2)::(↑264,kN kL6 ↑3)::(↑265,kN kL6 ↑4)::(↑271,kN kL6 ↑5)::(↑272,kN kL6 ↑6)::(↑278,kN kL6 ↑7)::(↑279,kN kL7 ↑0)::(↑285,kN kL7 ↑1)::(↑286,kN kL7 ↑2)::(↑290,kN kL7 ↑3)::(↑291,kN kL7 ↑4)::(↑297,kN kL7 ↑5)::(↑298,kN kL7 ↑6)::(↑304,kN kL7 ↑7)::(↑305,kN kL8 ↑0)::(↑309,kN kL8 ↑1)::(↑310,kN kL8 ↑2)::(↑316,kN kL8 ↑3)::(↑317,kN kL8 ↑4)::(↑323,kN kL8 ↑5)::(↑324,kN kL8 ↑6)::(↑330,kN kL8 ↑7)::(↑331,kN kL9 ↑0)::(↑337,kN kL9 ↑1)::(↑338,kN kL9 ↑2)::(↑344,kN kL9 ↑3)::(↑345,kN kL9 ↑4)::(↑351,kN kL9 ↑5)::(↑352,kN kL9 ↑6)::(↑358,kN kL9 ↑7)::(↑359,kN kL10 ↑0)::(↑365,kN kL10 ↑1)::(↑366,kN kL10 ↑2)::(↑372,kN kL10 ↑3)::(↑373,kN kL10 ↑4)::(↑379,kN kL10 ↑5)::(↑380,kN kL10 ↑6)::(↑384,kN kL10 ↑7)::(↑385,kN kL11 ↑0)::(↑391,kN kL11 ↑1)::(↑392,kN kL11 ↑2)::(↑398,kN kL11 ↑3)::(↑399,kN kL11 ↑4)::(↑403,kN kL11 ↑5)::(↑404,kN kL11 ↑6)::(↑408,kN kL11 ↑7)::(↑409,kN kL12 ↑0)::(↑415,kN kL12 ↑1)::(↑416,kN kL12 ↑2)::(↑420,kN kL12 ↑3)::(↑421,kN kL12 ↑4)::(↑425,kN kL12 ↑5)::(↑426,kN kL12 ↑6)::(↑432,kN kL12 ↑7)::(↑433,kN kL13 ↑0)::(↑437,kN kL13 ↑1)::(↑438,kN kL13 ↑2)::(↑444,kN kL13 ↑3)::(↑445,kN kL13 ↑4)::(↑451,kN kL13 ↑5)::(↑452,kN kL13 ↑6)::(↑458,kN kL13 ↑7)::(↑459,kN kL14 ↑0)::(↑463,kN kL14 ↑1)::(↑464,kN kL14 ↑2)::(↑470,kN kL14 ↑3)::(↑471,kN kL14 ↑4)::(↑475,kN kL14 ↑5)::(↑476,kN kL14 ↑6)::(↑482,kN kL14 ↑7)::(↑483,kN kL15 ↑0)::(↑489,kN kL15 ↑1)::(↑490,kN kL15 ↑2)::(↑494,kN kL15 ↑3)::(↑495,kN kL15 ↑4)::(↑499,kN kL15 ↑5)::(↑500,kN kL15 ↑6)::[]
end QQ
namespace QQ
open PySem L2
inductive Tg{A:Type}(a:A):Type where|mk:Tg a
noncomputable def pk{A:Type}{a:A}(_:Tg a):A:=a
noncomputable def hE(P:GW)(n:Str)(k:Nat)(v:G0):Iz:={ hash:=PyData.keyHash P n,key:=.str n k,val:=v }
noncomputable def zzM(k:Nat)(l:List Iz):Obj:={ cls:=.type "dict",data:=.dict (Ha l) k }
noncomputable def zzE:G0:=.str "spotlook.errors" 187
noncomputable def kU(s:Stmt)(n q:Str)(g:Nat)(m c:G0):Jc:={ name:=n,qualname:=q,params:=cb s,body:=.stmts (bo s),scope:=aq s,globals:=g,closure:=[],defaults:=.none,kwdefaults:=.none,pyModule:=m,code:=c }
noncomputable def kC(s:Stmt)(i:Nat):Stmt:=match s with
 |.ClassDef (body:=b) ..=>b.getD i (.Pass ⟨0,0,0,0⟩)
 |s=>s
noncomputable def kTu(l:List G0):Obj:={ cls:=.type "tuple",data:=.seq l.toArray 0 }
noncomputable def kFd(l:List G0):Obj:={ cls:=.none,data:=.fields l.toArray }
local macro_rules | `(tactic| walk_at "st") => `(tactic| (intro t; (conv at t => (arg 1; whnf)); exact pk (.mk : type_of% t)))
local macro_rules | `(⇑$n:num) => `((by refine' (?_ : Tg (top $n) → Stmt) .mk; walk_at "st" : Stmt))
noncomputable def st0:Stmt:=⇑0
noncomputable def st1:Stmt:=⇑1
noncomputable def st2:Stmt:=⇑2
noncomputable def st3:Stmt:=⇑3
noncomputable def st4:Stmt:=⇑4
noncomputable def st5:Stmt:=⇑5
noncomputable def st6:Stmt:=⇑6
noncomputable def st7:Stmt:=⇑7
noncomputable def st8:Stmt:=⇑8
noncomputable def st9:Stmt:=⇑9
noncomputable def st10:Stmt:=⇑10
noncomputable def st11:Stmt:=⇑11
noncomputable def st12:Stmt:=⇑12
noncomputable def st13:Stmt:=⇑13
noncomputable def st14:Stmt:=⇑14
noncomputable def st15:Stmt:=⇑15
noncomputable def st16:Stmt:=⇑16
noncomputable def st17:Stmt:=⇑17
noncomputable def st18:Stmt:=⇑18
noncomputable def st19:Stmt:=⇑19
noncomputable def st20:Stmt:=⇑20
noncomputable def st21:Stmt:=⇑21
noncomputable def st22:Stmt:=⇑22
noncomputable def st23:Stmt:=⇑23
noncomputable def st24:Stmt:=⇑24
noncomputable def st25:Stmt:=⇑25
noncomputable def st26:Stmt:=⇑26
noncomputable def st27:Stmt:=⇑27
noncomputable def st28:Stmt:=⇑28
noncomputable def st29:Stmt:=⇑29
noncomputable def st30:Stmt:=⇑30
noncomputable def st31:Stmt:=⇑31
noncomputable def st32:Stmt:=⇑32
noncomputable def st33:Stmt:=⇑33
noncomputable def st34:Stmt:=⇑34
noncomputable def st35:Stmt:=⇑35
noncomputable def st36:Stmt:=⇑36
noncomputable def st37:Stmt:=⇑37
noncomputable def st38:Stmt:=⇑38
noncomputable def st39:Stmt:=⇑39
noncomputable def st40:Stmt:=⇑40
noncomputable def st41:Stmt:=⇑41
noncomputable def st42:Stmt:=⇑42
noncomputable def st43:Stmt:=⇑43
noncomputable def st44:Stmt:=⇑44
noncomputable def st45:Stmt:=⇑45
noncomputable def st46:Stmt:=⇑46
noncomputable def st47:Stmt:=⇑47
noncomputable def st48:Stmt:=⇑48
noncomputable def st49:Stmt:=⇑49
noncomputable def st50:Stmt:=⇑50
noncomputable def st51:Stmt:=⇑51
noncomputable def st52:Stmt:=⇑52
noncomputable def st53:Stmt:=⇑53
noncomputable def st54:Stmt:=⇑54
noncomputable def st55:Stmt:=⇑55
noncomputable def st56:Stmt:=⇑56
noncomputable def st57:Stmt:=⇑57
noncomputable def st58:Stmt:=⇑58
noncomputable def st59:Stmt:=⇑59
noncomputable def st60:Stmt:=⇑60
noncomputable def st61:Stmt:=⇑61
noncomputable def st62:Stmt:=⇑62
noncomputable def st63:Stmt:=⇑63
noncomputable def st64:Stmt:=⇑64
noncomputable def st65:Stmt:=⇑65
noncomputable def st66:Stmt:=⇑66
noncomputable def st67:Stmt:=⇑67
noncomputable def st68:Stmt:=⇑68
noncomputable def st69:Stmt:=⇑69
noncomputable def st70:Stmt:=⇑70
noncomputable def scp:JH:=by refine'(?_:Tg (HE.main.scope)->JH) .mk;walk_at "st"
noncomputable def fil:Str:=by refine'(?_:Tg (HE.main.file)->Str) .mk;walk_at "st"
noncomputable def giv:Given:=by refine'(?_:Tg (HE.given)->Given) .mk;walk_at "st"
noncomputable def pw2:Hi:={ main:={ body:=[st0,st1,st2,st3,st4,st5,st6,st7,st8,st9,st10,st11,st12,st13,st14,st15,st16,st17,st18,st19,st20,st21,st22,st23,st24,st25,st26,st27,st28,st29,st30,st31,st32,st33,st34,st35,st36,st37,st38,st39,st40,st41,st42,st43,st44,st45,st46,st47,st48,st49,st50,st51,st52,st53,st54,st55,st56,st57,st58,st59,st60,st61,st62,st63,st64,st65,st66,st67,st68,st69,st70],scope:=scp,futureAnnotations:=false,file:=fil,more:=[] },modules:=[],parses:=[],absent:=[],harvested:=[],given:=giv }
noncomputable def vw:Hi:={ pw2 with main:={ pw2.main with body:=[st1,st2,st3,st4,st5,st6,st7,st8,st10,st11,st12,st13,st14,st15,st16,st18,st19,st20,st21,st22,st23,st24,st25,st27,st28,st29,st30,st31,st32,st33,st35,st36,st37,st38,st39,st40,st41,st42,st43,st45,st46,st47,st48,st49,st50,st51,st52,st53,st54,st55,st56,st57,st58,st59,st60,st61,st62,st63,st64,st65,st66,st67,st68,st69,st70] } }
noncomputable def sx0:List Stmt:=[st0,st1]
noncomputable def sx1:List Stmt:=[st2]
noncomputable def sx2:List Stmt:=[st3]
noncomputable def sx3:List Stmt:=[st4]
noncomputable def sx4:List Stmt:=[st5]
noncomputable def sx5:List Stmt:=[st6]
noncomputable def sx6:List Stmt:=[st7]
noncomputable def sx7:List Stmt:=[st8,st9,st10,st11,st12,st13,st14]
noncomputable def sx8:List Stmt:=[st15,st16,st17,st18,st19,st20,st21,st22,st23,st24,st25,st26,st27,st28]
noncomputable def sx9:List Stmt:=[st29,st30,st31,st32,st33,st34,st35,st36,st37,st38,st39,st40,st41,st42]
noncomputable def sx10:List Stmt:=[st43,st44,st45,st46,st47,st48,st49,st50,st51,st52,st53,st54,st55]
noncomputable def sx11:List Stmt:=[st56,st57,st58,st59,st60,st61,st62,st63,st64,st65,st66,st67,st68]
noncomputable def sx12:List Stmt:=[st69,st70]
noncomputable def en3_0(P:GW):List Iz:=[hE P "__doc__" 166 .none,hE P "__package__" 167 .none,hE P "__loader__" 168 (.builtin "__main__.__loader__#opaque"),hE P "__spec__" 169 .none,hE P "__annotations__" 170 (.ref 6),hE P "__builtins__" 171 (.ref 4),hE P "__file__" 173 (.str "/claim/cut.py" 172),hE P "__cached__" 174 .none]
noncomputable def en3_1(P:GW):List Iz:=[hE P "SpotError" 206 (.ref 24),hE P "NoFraction" 222 (.ref 37),hE P "NoWall" 238 (.ref 49),hE P "TooMany" 263 (.ref 68),hE P "Crossing" 290 (.ref 87),hE P "Absent" 315 (.ref 106),hE P "NoText" 340 (.ref 125),hE P "NoRow" 356 (.ref 137)]
noncomputable def en3_2(P:GW):List Iz:=[hE P "greatest_divisor" 366 (.ref 146),hE P "fraction" 375 (.ref 153),hE P "plus" 383 (.ref 160),hE P "less" 391 (.ref 167),hE P "times" 399 (.ref 174),hE P "over" 407 (.ref 181),hE P "is_less" 415 (.ref 188),hE P "is_ahead" 425 (.ref 195)]
noncomputable def en3_3(P:GW):List Iz:=[hE P "later_of" 433 (.ref 202),hE P "earlier_of" 441 (.ref 209),hE P "own_spot" 450 (.ref 216),hE P "own_wall" 457 (.ref 223),hE P "gap" 465 (.ref 230),hE P "lean" 483 (.ref 237),hE P "side_of" 492 (.ref 244),hE P "MOST_WALLS" 496 (.int 40 495)]
noncomputable def en3_4(P:GW):List Iz:=[hE P "meeting" 506 (.ref 251),hE P "meeting_in_line" 516 (.ref 258),hE P "crossing_spot" 530 (.ref 265),hE P "number_between" 539 (.ref 272),hE P "meet_as_in_plots" 548 (.ref 279),hE P "first_crossed" 558 (.ref 286),hE P "MOST_FIGURES" 562 (.int 30 561),hE P "read_number" 568 (.ref 291)]
noncomputable def en3_5(P:GW):List Iz:=[hE P "read_top" 576 (.ref 298),hE P "read_fraction" 588 (.ref 305),hE P "read_spots" 594 (.ref 310),hE P "read_wall" 604 (.ref 317),hE P "rows_of" 611 (.ref 324),hE P "read_plot" 622 (.ref 331),hE P "read_questions" 635 (.ref 338),hE P "_law_cell_at" 645 (.ref 345)]
noncomputable def en3_6(P:GW):List Iz:=[hE P "_law_take" 655 (.ref 352),hE P "_law_low" 665 (.ref 359),hE P "_law_number" 676 (.ref 366),hE P "_law_scale" 686 (.ref 373),hE P "_law_spot" 698 (.ref 380),hE P "_law_made" 704 (.ref 385),hE P "_law_turn" 716 (.ref 392),hE P "_law_on" 724 (.ref 399)]
noncomputable def en3_7(P:GW):List Iz:=[hE P "_law_fair" 730 (.ref 404),hE P "_law_shuts_here" 736 (.ref 409),hE P "_law_shown" 743 (.ref 416),hE P "_law_rows" 749 (.ref 421),hE P "_law_is_whole" 755 (.ref 426),hE P "_law_fraction" 765 (.ref 433),hE P "_law_shut_in" 771 (.ref 438),hE P "_law_bent" 788 (.ref 445)]
noncomputable def en3_8(P:GW):List Iz:=[hE P "_law_cross" 809 (.ref 452),hE P "_law_before" 817 (.ref 459),hE P "_law_fits" 823 (.ref 464),hE P "_law_beyond" 831 (.ref 471),hE P "_law_odd" 837 (.ref 476),hE P "_law_alone" 846 (.ref 483),hE P "_law_heard" 857 (.ref 490),hE P "_law_due" 863 (.ref 495)]
noncomputable def en3_9(P:GW):List Iz:=[hE P "law" 869 (.ref 500)]
noncomputable def en3(P:GW):List Iz:=en3_0 P++(en3_1 P++(en3_2 P++(en3_3 P++(en3_4 P++(en3_5 P++(en3_6 P++(en3_7 P++(en3_8 P++(en3_9 P)))))))))
noncomputable def fl12:List G0:=[(.int 2 0),(.int 0 0),(.ref 20),(.int 4 0),(.int 0 0),(.ref 33),(.int 6 0),(.int 0 0),(.ref 45),(.int 8 0),(.int 0 0),(.ref 57),(.int 13 0),(.int 0 0),(.ref 76),(.int 19 0),(.int 0 0),(.ref 95),(.int 24 0),(.int 0 0),(.ref 114),(.int 29 0),(.int 0 0),(.ref 133),(.int 32 0),(.int 0 0),(.ref 145),(.int 36 0),(.int 0 0),(.ref 152),(.int 43 0),(.int 0 0),(.ref 159),(.int 45 0),(.int 0 0),(.ref 166),(.int 47 0),(.int 0 0),(.ref 173),(.int 49 0),(.int 0 0),(.ref 180),(.int 51 0),(.int 0 0),(.ref 187),(.int 54 0),(.int 0 0),(.ref 194),(.int 58 0),(.int 0 0),(.ref 201),(.int 60 0),(.int 0 0),(.ref 208),(.int 62 0),(.int 0 0),(.ref 215),(.int 65 0),(.int 0 0),(.ref 222),(.int 67 0),(.int 0 0),(.ref 229),(.int 69 0),(.int 0 0),(.ref 236),(.int 75 0),(.int 0 0),(.ref 243),(.int 84 0),(.int 0 0),(.ref 250),(.int 91 0),(.int 0 0),(.ref 257),(.int 99 0),(.int 0 0),(.ref 264),(.int 106 0),(.int 0 0),(.ref 271),(.int 108 0),(.int 0 0),(.ref 278),(.int 113 0),(.int 0 0),(.ref 285),(.int 120 0),(.int 0 0),(.ref 290),(.int 126 0),(.int 0 0),(.ref 297),(.int 131 0),(.int 0 0),(.ref 304),(.int 140 0),(.int 0 0),(.ref 309),(.int 146 0),(.int 0 0),(.ref 316),(.int 154 0),(.int 0 0),(.ref 323),(.int 156 0),(.int 0 0),(.ref 330),(.int 164 0),(.int 0 0),(.ref 337),(.int 177 0),(.int 0 0),(.ref 344),(.int 181 0),(.int 0 0),(.ref 351),(.int 191 0),(.int 0 0),(.ref 358),(.int 199 0),(.int 0 0),(.ref 365),(.int 205 0),(.int 0 0),(.ref 372),(.int 211 0),(.int 0 0),(.ref 379),(.int 214 0),(.int 0 0),(.ref 384),(.int 216 0),(.int 0 0),(.ref 391),(.int 221 0),(.int 0 0),(.ref 398),(.int 223 0),(.int 0 0),(.ref 403),(.int 233 0),(.int 0 0),(.ref 408),(.int 244 0),(.int 0 0),(.ref 415),(.int 246 0),(.int 0 0),(.ref 420),(.int 248 0),(.int 0 0),(.ref 425),(.int 252 0),(.int 0 0),(.ref 432),(.int 265 0),(.int 0 0),(.ref 437),(.int 276 0),(.int 0 0),(.ref 444),(.int 307 0),(.int 0 0),(.ref 451),(.int 316 0),(.int 0 0),(.ref 458),(.int 320 0),(.int 0 0),(.ref 463),(.int 331 0),(.int 0 0),(.ref 470),(.int 333 0),(.int 0 0),(.ref 475),(.int 341 0),(.int 0 0),(.ref 482),(.int 346 0),(.int 0 0),(.ref 489),(.int 361 0),(.int 0 0),(.ref 494),(.int 377 0),(.int 0 0),(.ref 499)]
noncomputable def hC(n:Str)(s0 s1 s2 s18 r8 r11 r13 r14 r15 i3 i4 i5 i6 i7 i10 i16 i17:Nat)(b9:Bool):Obj:={ cls:=.type "code",data:=.fields #[.str n s0,.str n s1,.str "/claim/cut.py" s2,.int (JP i3) 0,.int (JP i4) 0,.int (JP i5) 0,.int (JP i6) 0,.int (JP i7) 0,.ref r8,.bool b9,.int (JP i10) 0,.ref r11,.none,.ref r13,.ref r14,.ref r15,.int (JP i16) 0,.int (JP i17) 0,.str "/claim/cut.py" s18] }
noncomputable def hF(t:G0)(s:Stmt)(n:Str)(g:Nat)(m c:G0):Obj:={ cls:=t,data:=.func (kU s n n g m c) }
noncomputable def zzH(s:Stmt)(n:Str)(m:G0)(r:Nat):Obj:=hF (.type "function") s n 3 m (.ref r)
noncomputable def ob11:Obj:=kTu []
noncomputable def ob12:Obj:={ cls:=.none,data:=.fields (Ha (fl12.take 0)) }
noncomputable def ob13:Obj:=zzD "<module>" "<module>" 182 183 184 1 0 0 11 false 12 .none .none .none 185 186
noncomputable def ob14:Obj:={ cls:=(.type "frame"),slots:=#[(some (.ref 13)),(some (.ref 3)),(some (.ref 3)),none,(some (.str "__main__" 164)),none,(some (.ref 0))] }
noncomputable def ob15(P:GW):Obj:=zzM 10 (hE P "__name__" 165 zzE::(en3 P).take 9)
noncomputable def ob16:Obj:={ cls:=.none,data:=.fields (Ha (fl12.take 3)) }
noncomputable def ob17:Obj:=kTu [(.type "ValueError")]
noncomputable def ob18:Obj:={ cls:=(.type "builtin_function_or_method"),data:=(.fields #[(.builtin "type.__prepare__"),(.type "type")]) }
noncomputable def ob19(P:GW):Obj:=zzM 4 [hE P "__module__" 196 zzE,hE P "__qualname__" 198 (.str "SpotError" 197),hE P "__firstlineno__" 200 (.int 2 199),hE P "__static_attributes__" 201 (.ref 22)]
noncomputable def ob20:Obj:=zzD "SpotError" "SpotError" 191 192 193 2 0 0 18 false 19 .none .none .none 194 195
noncomputable def ob21:Obj:={ cls:=(.type "frame"),slots:=#[(some (.ref 20)),(some (.ref 3)),(some (.ref 17)),none,(some zzE),none,(some (.ref 0))] }
noncomputable def ob22(P:GW):Obj:=zzM 3 [hE P "__module__" 196 zzE,hE P "__firstlineno__" 200 (.int 2 199),hE P "__static_attributes__" 201 (.ref 22),hE P "__weakref__" 203 (.ref 25),hE P "__doc__" 204 .none]
noncomputable def ob23:Obj:={ cls:=(.type "type"),data:=(.cls { name:="SpotError",bases:=[(.type "ValueError")],mro:=[(.ref 24),(.type "ValueError"),(.type "Exception"),(.type "BaseException"),(.type "object")],ns:=23,qualname:="SpotError",hasDict:=true,slotNames:=[],subclasses:=[],abstract:=false,collection:=none,hasDel:=false }),slots:=#[(some (.ref 15)),none,(some (.str "SpotError" 189)),(some (.str "SpotError" 197)),(some (.builtin "ValueError.__new__")),(some (.bool true))] }
noncomputable def ob24:Obj:={ cls:=(.type "getset_descriptor"),data:=(.fields #[(.str "__weakref__" 202),(.ref 24),(.builtin "ExceptionGroup.__weakref__"),.none]) }
noncomputable def ob25:Obj:={ cls:=(.type "super"),data:=(.fields #[(.ref 24),(.ref 24),(.ref 24)]) }
noncomputable def ob26:Obj:={ cls:=(.type "builtin_function_or_method"),data:=(.fields #[(.builtin "object.__init_subclass__"),(.ref 24)]) }
noncomputable def ob27(P:GW):Obj:=zzM 11 (hE P "__name__" 165 zzE::(en3 P).take 10)
noncomputable def ob28:Obj:={ cls:=.none,data:=.fields (Ha (fl12.take 6)) }
noncomputable def ob29:Obj:={ cls:=(.type "type"),data:=(.cls { name:="SpotError",bases:=[(.type "ValueError")],mro:=[(.ref 24),(.type "ValueError"),(.type "Exception"),(.type "BaseException"),(.type "object")],ns:=23,qualname:="SpotError",hasDict:=true,slotNames:=[],subclasses:=[(.ref 37)],abstract:=false,collection:=none,hasDel:=false }),slots:=#[(some (.ref 15)),none,(some (.str "SpotError" 189)),(some (.str "SpotError" 197)),(some (.builtin "ValueError.__new__")),(some (.bool true))] }
noncomputable def ob30:Obj:=kTu [(.ref 24)]
noncomputable def ob31(P:GW):Obj:=zzM 4 [hE P "__module__" 214 zzE,hE P "__qualname__" 216 (.str "NoFraction" 215),hE P "__firstlineno__" 218 (.int 4 217),hE P "__static_attributes__" 219 (.ref 35)]
noncomputable def ob32:Obj:=zzD "NoFraction" "NoFraction" 209 210 211 4 0 0 31 false 32 .none .none .none 212 213
noncomputable def ob33:Obj:={ cls:=(.type "frame"),slots:=#[(some (.ref 33)),(some (.ref 3)),(some (.ref 30)),none,(some zzE),none,(some (.ref 0))] }
noncomputable def ob34(P:GW):Obj:=zzM 2 [hE P "__module__" 214 zzE,hE P "__firstlineno__" 218 (.int 4 217),hE P "__static_attributes__" 219 (.ref 35),hE P "__doc__" 220 .none]
noncomputable def ob35:Obj:=zzK "NoFraction" 37 36 28 207 215
noncomputable def ob36:Obj:={ cls:=(.type "super"),data:=(.fields #[(.ref 37),(.ref 37),(.ref 37)]) }
noncomputable def ob37:Obj:={ cls:=(.type "builtin_function_or_method"),data:=(.fields #[(.builtin "object.__init_subclass__"),(.ref 37)]) }
noncomputable def ob38(P:GW):Obj:=zzM 12 (hE P "__name__" 165 zzE::(en3 P).take 11)
noncomputable def ob39:Obj:={ cls:=.none,data:=.fields (Ha (fl12.take 9)) }
noncomputable def ob40:Obj:={ cls:=(.type "type"),data:=(.cls { name:="SpotError",bases:=[(.type "ValueError")],mro:=[(.ref 24),(.type "ValueError"),(.type "Exception"),(.type "BaseException"),(.type "object")],ns:=23,qualname:="SpotError",hasDict:=true,slotNames:=[],subclasses:=[(.ref 37),(.ref 49)],abstract:=false,collection:=none,hasDel:=false }),slots:=#[(some (.ref 15)),none,(some (.str "SpotError" 189)),(some (.str "SpotError" 197)),(some (.builtin "ValueError.__new__")),(some (.bool true))] }
noncomputable def ob41(P:GW):Obj:=zzM 4 [hE P "__module__" 230 zzE,hE P "__qualname__" 232 (.str "NoWall" 231),hE P "__firstlineno__" 234 (.int 6 233),hE P "__static_attributes__" 235 (.ref 47)]
noncomputable def ob42:Obj:=zzD "NoWall" "NoWall" 225 226 227 6 0 0 43 false 44 .none .none .none 228 229
noncomputable def ob43:Obj:={ cls:=(.type "frame"),slots:=#[(some (.ref 45)),(some (.ref 3)),(some (.ref 42)),none,(some zzE),none,(some (.ref 0))] }
noncomputable def ob44(P:GW):Obj:=zzM 2 [hE P "__module__" 230 zzE,hE P "__firstlineno__" 234 (.int 6 233),hE P "__static_attributes__" 235 (.ref 47),hE P "__doc__" 236 .none]
noncomputable def ob45:Obj:=zzK "NoWall" 49 48 40 223 231
noncomputable def ob46:Obj:={ cls:=(.type "super"),data:=(.fields #[(.ref 49),(.ref 49),(.ref 49)]) }
noncomputable def ob47:Obj:={ cls:=(.type "builtin_function_or_method"),data:=(.fields #[(.builtin "object.__init_subclass__"),(.ref 49)]) }
noncomputable def ob48(P:GW):Obj:=zzM 13 (hE P "__name__" 165 zzE::(en3 P).take 12)
noncomputable def ob49:Obj:={ cls:=.none,data:=.fields (Ha (fl12.take 12)) }
noncomputable def ob50:Obj:={ cls:=(.type "type"),data:=(.cls { name:="SpotError",bases:=[(.type "ValueError")],mro:=[(.ref 24),(.type "ValueError"),(.type "Exception"),(.type "BaseException"),(.type "object")],ns:=23,qualname:="SpotError",hasDict:=true,slotNames:=[],subclasses:=[(.ref 37),(.ref 49),(.ref 68)],abstract:=false,collection:=none,hasDel:=false }),slots:=#[(some (.ref 15)),none,(some (.str "SpotError" 189)),(some (.str "SpotError" 197)),(some (.builtin "ValueError.__new__")),(some (.bool true))] }
noncomputable def ob51(P:GW):Obj:=zzM 5 [hE P "__module__" 246 zzE,hE P "__qualname__" 248 (.str "TooMany" 247),hE P "__firstlineno__" 250 (.int 8 249),hE P "__init__" 258 (.ref 65),hE P "__static_attributes__" 260 (.ref 66)]
noncomputable def ob52:Obj:=kFd [(.int 10 0),(.int 4 0),(.ref 64)]
noncomputable def ob53:Obj:=zzD "TooMany" "TooMany" 241 242 243 8 0 0 55 false 56 .none .none .none 244 245
noncomputable def ob54:Obj:={ cls:=(.type "frame"),slots:=#[(some (.ref 57)),(some (.ref 3)),(some (.ref 54)),none,(some zzE),none,(some (.ref 0))] }
noncomputable def ob55:Obj:=kTu [(.str "self" 254),(.str "count" 255)]
noncomputable def ob56:Obj:={ cls:=.none,data:=(.func (kU (kC st4 0) "__init__" "TooMany.__init__" 0 .none .none)) }
noncomputable def ob57:Obj:=zzD "__init__" "TooMany.__init__" 251 252 253 10 2 3 59 true 60 (.ref 61) (.ref 62) (.ref 63) 256 257
noncomputable def ob58:Obj:={ cls:=(.type "function"),data:=(.func (kU (kC st4 0) "__init__" "TooMany.__init__" 3 zzE (.ref 64))) }
noncomputable def ob59:Obj:=kTu [(.str "count" 259)]
noncomputable def ob60(P:GW):Obj:=zzM 2 [hE P "__module__" 246 zzE,hE P "__firstlineno__" 250 (.int 8 249),hE P "__init__" 258 (.ref 65),hE P "__static_attributes__" 260 (.ref 66),hE P "__doc__" 261 .none]
noncomputable def ob61:Obj:=zzK "TooMany" 68 67 52 239 247
noncomputable def ob62:Obj:={ cls:=(.type "super"),data:=(.fields #[(.ref 68),(.ref 68),(.ref 68)]) }
noncomputable def ob63:Obj:={ cls:=(.type "builtin_function_or_method"),data:=(.fields #[(.builtin "object.__init_subclass__"),(.ref 68)]) }
noncomputable def ob64(P:GW):Obj:=zzM 14 (hE P "__name__" 165 zzE::(en3 P).take 13)
noncomputable def ob65:Obj:={ cls:=.none,data:=.fields (Ha (fl12.take 15)) }
noncomputable def ob66:Obj:={ cls:=(.type "type"),data:=(.cls { name:="SpotError",bases:=[(.type "ValueError")],mro:=[(.ref 24),(.type "ValueError"),(.type "Exception"),(.type "BaseException"),(.type "object")],ns:=23,qualname:="SpotError",hasDict:=true,slotNames:=[],subclasses:=[(.ref 37),(.ref 49),(.ref 68),(.ref 87)],abstract:=false,collection:=none,hasDel:=false }),slots:=#[(some (.ref 15)),none,(some (.str "SpotError" 189)),(some (.str "SpotError" 197)),(some (.builtin "ValueError.__new__")),(some (.bool true))] }
noncomputable def ob67(P:GW):Obj:=zzM 5 [hE P "__module__" 271 zzE,hE P "__qualname__" 273 (.str "Crossing" 272),hE P "__firstlineno__" 275 (.int 13 274),hE P "__init__" 284 (.ref 84),hE P "__static_attributes__" 287 (.ref 85)]
noncomputable def ob68:Obj:=kFd [(.int 15 0),(.int 4 0),(.ref 83)]
noncomputable def ob69:Obj:=zzD "Crossing" "Crossing" 266 267 268 13 0 0 74 false 75 .none .none .none 269 270
noncomputable def ob70:Obj:={ cls:=(.type "frame"),slots:=#[(some (.ref 76)),(some (.ref 3)),(some (.ref 73)),none,(some zzE),none,(some (.ref 0))] }
noncomputable def ob71:Obj:=kTu [(.str "self" 279),(.str "wall" 280),(.str "other" 281)]
noncomputable def ob72:Obj:={ cls:=.none,data:=(.func (kU (kC st5 0) "__init__" "Crossing.__init__" 0 .none .none)) }
noncomputable def ob73:Obj:=zzD "__init__" "Crossing.__init__" 276 277 278 15 3 3 78 true 79 (.ref 80) (.ref 81) (.ref 82) 282 283
noncomputable def ob74:Obj:={ cls:=(.type "function"),data:=(.func (kU (kC st5 0) "__init__" "Crossing.__init__" 3 zzE (.ref 83))) }
noncomputable def ob75:Obj:=kTu [(.str "other" 285),(.str "wall" 286)]
noncomputable def ob76(P:GW):Obj:=zzM 2 [hE P "__module__" 271 zzE,hE P "__firstlineno__" 275 (.int 13 274),hE P "__init__" 284 (.ref 84),hE P "__static_attributes__" 287 (.ref 85),hE P "__doc__" 288 .none]
noncomputable def ob77:Obj:=zzK "Crossing" 87 86 71 264 272
noncomputable def ob78:Obj:={ cls:=(.type "super"),data:=(.fields #[(.ref 87),(.ref 87),(.ref 87)]) }
noncomputable def ob79:Obj:={ cls:=(.type "builtin_function_or_method"),data:=(.fields #[(.builtin "object.__init_subclass__"),(.ref 87)]) }
noncomputable def ob80(P:GW):Obj:=zzM 15 (hE P "__name__" 165 zzE::(en3 P).take 14)
noncomputable def ob81:Obj:={ cls:=.none,data:=.fields (Ha (fl12.take 18)) }
noncomputable def ob82:Obj:={ cls:=(.type "type"),data:=(.cls { name:="SpotError",bases:=[(.type "ValueError")],mro:=[(.ref 24),(.type "ValueError"),(.type "Exception"),(.type "BaseException"),(.type "object")],ns:=23,qualname:="SpotError",hasDict:=true,slotNames:=[],subclasses:=[(.ref 37),(.ref 49),(.ref 68),(.ref 87),(.ref 106)],abstract:=false,collection:=none,hasDel:=false }),slots:=#[(some (.ref 15)),none,(some (.str "SpotError" 189)),(some (.str "SpotError" 197)),(some (.builtin "ValueError.__new__")),(some (.bool true))] }
noncomputable def ob83(P:GW):Obj:=zzM 5 [hE P "__module__" 298 zzE,hE P "__qualname__" 300 (.str "Absent" 299),hE P "__firstlineno__" 302 (.int 19 301),hE P "__init__" 310 (.ref 103),hE P "__static_attributes__" 312 (.ref 104)]
noncomputable def ob84:Obj:=kFd [(.int 21 0),(.int 4 0),(.ref 102)]
noncomputable def ob85:Obj:=zzD "Absent" "Absent" 293 294 295 19 0 0 93 false 94 .none .none .none 296 297
noncomputable def ob86:Obj:={ cls:=(.type "frame"),slots:=#[(some (.ref 95)),(some (.ref 3)),(some (.ref 92)),none,(some zzE),none,(some (.ref 0))] }
noncomputable def ob87:Obj:=kTu [(.str "self" 306),(.str "number" 307)]
noncomputable def ob88:Obj:={ cls:=.none,data:=(.func (kU (kC st6 0) "__init__" "Absent.__init__" 0 .none .none)) }
noncomputable def ob89:Obj:=zzD "__init__" "Absent.__init__" 303 304 305 21 2 3 97 true 98 (.ref 99) (.ref 100) (.ref 101) 308 309
noncomputable def ob90:Obj:={ cls:=(.type "function"),data:=(.func (kU (kC st6 0) "__init__" "Absent.__init__" 3 zzE (.ref 102))) }
noncomputable def ob91:Obj:=kTu [(.str "number" 311)]
noncomputable def ob92(P:GW):Obj:=zzM 2 [hE P "__module__" 298 zzE,hE P "__firstlineno__" 302 (.int 19 301),hE P "__init__" 310 (.ref 103),hE P "__static_attributes__" 312 (.ref 104),hE P "__doc__" 313 .none]
noncomputable def ob93:Obj:=zzK "Absent" 106 105 90 291 299
noncomputable def ob94:Obj:={ cls:=(.type "super"),data:=(.fields #[(.ref 106),(.ref 106),(.ref 106)]) }
noncomputable def ob95:Obj:={ cls:=(.type "builtin_function_or_method"),data:=(.fields #[(.builtin "object.__init_subclass__"),(.ref 106)]) }
noncomputable def ob96(P:GW):Obj:=zzM 16 (hE P "__name__" 165 zzE::(en3 P).take 15)
noncomputable def ob97:Obj:={ cls:=.none,data:=.fields (Ha (fl12.take 21)) }
noncomputable def ob98:Obj:={ cls:=(.type "type"),data:=(.cls { name:="SpotError",bases:=[(.type "ValueError")],mro:=[(.ref 24),(.type "ValueError"),(.type "Exception"),(.type "BaseException"),(.type "object")],ns:=23,qualname:="SpotError",hasDict:=true,slotNames:=[],subclasses:=[(.ref 37),(.ref 49),(.ref 68),(.ref 87),(.ref 106),(.ref 125)],abstract:=false,collection:=none,hasDel:=false }),slots:=#[(some (.ref 15)),none,(some (.str "SpotError" 189)),(some (.str "SpotError" 197)),(some (.builtin "ValueError.__new__")),(some (.bool true))] }
noncomputable def ob99(P:GW):Obj:=zzM 5 [hE P "__module__" 323 zzE,hE P "__qualname__" 325 (.str "NoText" 324),hE P "__firstlineno__" 327 (.int 24 326),hE P "__init__" 335 (.ref 122),hE P "__static_attributes__" 337 (.ref 123)]
noncomputable def ob100:Obj:=kFd [(.int 26 0),(.int 4 0),(.ref 121)]
noncomputable def ob101:Obj:=zzD "NoText" "NoText" 318 319 320 24 0 0 112 false 113 .none .none .none 321 322
noncomputable def ob102:Obj:={ cls:=(.type "frame"),slots:=#[(some (.ref 114)),(some (.ref 3)),(some (.ref 111)),none,(some zzE),none,(some (.ref 0))] }
noncomputable def ob103:Obj:=kTu [(.str "self" 331),(.str "row" 332)]
noncomputable def ob104:Obj:={ cls:=.none,data:=(.func (kU (kC st7 0) "__init__" "NoText.__init__" 0 .none .none)) }
noncomputable def ob105:Obj:=zzD "__init__" "NoText.__init__" 328 329 330 26 2 3 116 true 117 (.ref 118) (.ref 119) (.ref 120) 333 334
noncomputable def ob106:Obj:={ cls:=(.type "function"),data:=(.func (kU (kC st7 0) "__init__" "NoText.__init__" 3 zzE (.ref 121))) }
noncomputable def ob107:Obj:=kTu [(.str "row" 336)]
noncomputable def ob108(P:GW):Obj:=zzM 2 [hE P "__module__" 323 zzE,hE P "__firstlineno__" 327 (.int 24 326),hE P "__init__" 335 (.ref 122),hE P "__static_attributes__" 337 (.ref 123),hE P "__doc__" 338 .none]
noncomputable def ob109:Obj:=zzK "NoText" 125 124 109 316 324
noncomputable def ob110:Obj:={ cls:=(.type "super"),data:=(.fields #[(.ref 125),(.ref 125),(.ref 125)]) }
noncomputable def ob111:Obj:={ cls:=(.type "builtin_function_or_method"),data:=(.fields #[(.builtin "object.__init_subclass__"),(.ref 125)]) }
noncomputable def ob112(P:GW):Obj:=zzM 22 (hE P "__name__" 165 (.str "spotlook.fractions" 357)::(en3 P).take 21)
noncomputable def ob113:Obj:={ cls:=.none,data:=.fields (Ha (fl12.take 39)) }
noncomputable def ob114:Obj:={ cls:=(.type "type"),data:=(.cls { name:="SpotError",bases:=[(.type "ValueError")],mro:=[(.ref 24),(.type "ValueError"),(.type "Exception"),(.type "BaseException"),(.type "object")],ns:=23,qualname:="SpotError",hasDict:=true,slotNames:=[],subclasses:=[(.ref 37),(.ref 49),(.ref 68),(.ref 87),(.ref 106),(.ref 125),(.ref 137)],abstract:=false,collection:=none,hasDel:=false }),slots:=#[(some (.ref 15)),none,(some (.str "SpotError" 189)),(some (.str "SpotError" 197)),(some (.builtin "ValueError.__new__")),(some (.bool true))] }
noncomputable def ob115(P:GW):Obj:=zzM 4 [hE P "__module__" 348 zzE,hE P "__qualname__" 350 (.str "NoRow" 349),hE P "__firstlineno__" 352 (.int 29 351),hE P "__static_attributes__" 353 (.ref 135)]
noncomputable def ob116:Obj:=zzD "NoRow" "NoRow" 343 344 345 29 0 0 131 false 132 .none .none .none 346 347
noncomputable def ob117:Obj:={ cls:=(.type "frame"),slots:=#[(some (.ref 133)),(some (.ref 3)),(some (.ref 130)),none,(some zzE),none,(some (.ref 0))] }
noncomputable def ob118(P:GW):Obj:=zzM 2 [hE P "__module__" 348 zzE,hE P "__firstlineno__" 352 (.int 29 351),hE P "__static_attributes__" 353 (.ref 135),hE P "__doc__" 354 .none]
noncomputable def ob119:Obj:=zzK "NoRow" 137 136 128 341 349
noncomputable def ob120:Obj:={ cls:=(.type "super"),data:=(.fields #[(.ref 137),(.ref 137),(.ref 137)]) }
noncomputable def ob121:Obj:={ cls:=(.type "builtin_function_or_method"),data:=(.fields #[(.builtin "object.__init_subclass__"),(.ref 137)]) }
noncomputable def ob122:Obj:=kTu [(.str "one" 362),(.str "other" 363)]
noncomputable def ob123:Obj:=hF .none st10 "greatest_divisor" 0 .none .none
noncomputable def ob124:Obj:=hC "greatest_divisor" 359 360 361 365 140 141 142 143 144 32 2 0 0 3 181 364 32 true
noncomputable def ob125:Obj:=zzH st10 "greatest_divisor" (.str "spotlook.fractions" 357) 145
noncomputable def ob126:Obj:=kTu [(.str "top" 370),(.str "bottom" 371),(.str "divisor" 372)]
noncomputable def ob127:Obj:=hF .none st11 "fraction" 0 .none .none
noncomputable def ob128:Obj:=hC "fraction" 367 368 369 374 147 148 149 150 151 36 2 0 0 3 181 373 36 true
noncomputable def ob129:Obj:=zzH st11 "fraction" (.str "spotlook.fractions" 357) 152
noncomputable def ob130:Obj:=kTu [(.str "one" 379),(.str "other" 380)]
noncomputable def ob131:Obj:=hF .none st12 "plus" 0 .none .none
noncomputable def ob132:Obj:=hC "plus" 376 377 378 382 154 155 156 157 158 43 2 0 0 3 181 381 43 true
noncomputable def ob133:Obj:=zzH st12 "plus" (.str "spotlook.fractions" 357) 159
noncomputable def ob134:Obj:=kTu [(.str "one" 387),(.str "other" 388)]
noncomputable def ob135:Obj:=hF .none st13 "less" 0 .none .none
noncomputable def ob136:Obj:=hC "less" 384 385 386 390 161 162 163 164 165 45 2 0 0 3 181 389 45 true
noncomputable def ob137:Obj:=zzH st13 "less" (.str "spotlook.fractions" 357) 166
noncomputable def ob138:Obj:=kTu [(.str "one" 395),(.str "other" 396)]
noncomputable def ob139:Obj:=hF .none st14 "times" 0 .none .none
noncomputable def ob140:Obj:=hC "times" 392 393 394 398 168 169 170 171 172 47 2 0 0 3 181 397 47 true
noncomputable def ob141:Obj:=zzH st14 "times" (.str "spotlook.fractions" 357) 173
noncomputable def ob142(P:GW):Obj:=zzM 34 (hE P "__name__" 165 (.str "spotlook.plots" 493)::(en3 P).take 33)
noncomputable def ob143:Obj:={ cls:=.none,data:=.fields (Ha (fl12.take 72)) }
noncomputable def ob144:Obj:=kTu [(.str "one" 403),(.str "other" 404)]
noncomputable def ob145:Obj:=hF .none st15 "over" 0 .none .none
noncomputable def ob146:Obj:=hC "over" 400 401 402 406 175 176 177 178 179 49 2 0 0 3 181 405 49 true
noncomputable def ob147:Obj:=zzH st15 "over" (.str "spotlook.fractions" 357) 180
noncomputable def ob148:Obj:=kTu [(.str "one" 411),(.str "other" 412)]
noncomputable def ob149:Obj:=hF .none st16 "is_less" 0 .none .none
noncomputable def ob150:Obj:=hC "is_less" 408 409 410 414 182 183 184 185 186 51 2 0 0 3 181 413 51 true
noncomputable def ob151:Obj:=zzH st16 "is_less" (.str "spotlook.fractions" 357) 187
noncomputable def ob152:Obj:=kTu [(.str "one" 421),(.str "other" 422)]
noncomputable def ob153:Obj:=hF .none st18 "is_ahead" 0 .none .none
noncomputable def ob154:Obj:=hC "is_ahead" 418 419 420 424 189 190 191 192 193 54 2 0 0 3 181 423 54 true
noncomputable def ob155:Obj:=zzH st18 "is_ahead" (.str "spotlook.spots" 416) 194
noncomputable def ob156:Obj:=kTu [(.str "one" 429),(.str "other" 430)]
noncomputable def ob157:Obj:=hF .none st19 "later_of" 0 .none .none
noncomputable def ob158:Obj:=hC "later_of" 426 427 428 432 196 197 198 199 200 58 2 0 0 3 181 431 58 true
noncomputable def ob159:Obj:=zzH st19 "later_of" (.str "spotlook.spots" 416) 201
noncomputable def ob160:Obj:=kTu [(.str "one" 437),(.str "other" 438)]
noncomputable def ob161:Obj:=hF .none st20 "earlier_of" 0 .none .none
noncomputable def ob162:Obj:=hC "earlier_of" 434 435 436 440 203 204 205 206 207 60 2 0 0 3 181 439 60 true
noncomputable def ob163:Obj:=zzH st20 "earlier_of" (.str "spotlook.spots" 416) 208
noncomputable def ob164:Obj:=kTu [(.str "spot" 445),(.str "x" 446),(.str "y" 447)]
noncomputable def ob165:Obj:=hF .none st21 "own_spot" 0 .none .none
noncomputable def ob166:Obj:=hC "own_spot" 442 443 444 449 210 211 212 213 214 62 1 0 0 3 181 448 62 true
noncomputable def ob167:Obj:=zzH st21 "own_spot" (.str "spotlook.spots" 416) 215
noncomputable def ob168:Obj:=kTu [(.str "wall" 454)]
noncomputable def ob169:Obj:=hF .none st22 "own_wall" 0 .none .none
noncomputable def ob170:Obj:=hC "own_wall" 451 452 453 456 217 218 219 220 221 65 1 0 0 3 181 455 65 true
noncomputable def ob171:Obj:=zzH st22 "own_wall" (.str "spotlook.spots" 416) 222
noncomputable def ob172:Obj:=kTu [(.str "one" 461),(.str "other" 462)]
noncomputable def ob173:Obj:=hF .none st23 "gap" 0 .none .none
noncomputable def ob174:Obj:=hC "gap" 458 459 460 464 224 225 226 227 228 67 2 0 0 3 181 463 67 true
noncomputable def ob175:Obj:=zzH st23 "gap" (.str "spotlook.spots" 416) 229
noncomputable def ob176:Obj:=kTu [(.str "wall" 469),(.str "spot" 470),(.str "a" 471),(.str "b" 472),(.str "c" 473),(.str "d" 474),(.str "x" 475),(.str "y" 476),(.str "across" 477),(.str "up" 478),(.str "along" 479),(.str "high" 480)]
noncomputable def ob177:Obj:=hF .none st24 "lean" 0 .none .none
noncomputable def ob178:Obj:=hC "lean" 466 467 468 482 231 232 233 234 235 69 2 0 0 3 181 481 69 true
noncomputable def ob179:Obj:=zzH st24 "lean" (.str "spotlook.spots" 416) 236
noncomputable def ob180:Obj:=kTu [(.str "wall" 487),(.str "spot" 488),(.str "top" 489)]
noncomputable def ob181:Obj:=hF .none st25 "side_of" 0 .none .none
noncomputable def ob182:Obj:=hC "side_of" 484 485 486 491 238 239 240 241 242 75 2 0 0 3 181 490 75 true
noncomputable def ob183:Obj:=zzH st25 "side_of" (.str "spotlook.spots" 416) 243
noncomputable def ob184:Obj:=kTu [(.str "one" 500),(.str "other" 501),(.str "first_side" 502),(.str "second_side" 503)]
noncomputable def ob185:Obj:=hF .none st28 "meeting" 0 .none .none
noncomputable def ob186:Obj:=hC "meeting" 497 498 499 505 245 246 247 248 249 84 2 0 0 3 181 504 84 true
noncomputable def ob187:Obj:=zzH st28 "meeting" (.str "spotlook.plots" 493) 250
noncomputable def ob188(P:GW):Obj:=zzM 47 (hE P "__name__" 165 (.str "spotlook.texts" 559)::(en3 P).take 46)
noncomputable def ob189:Obj:={ cls:=.none,data:=.fields (Ha (fl12.take 108)) }
noncomputable def ob190:Obj:=kTu [(.str "one" 510),(.str "other" 511),(.str "start" 512),(.str "end" 513)]
noncomputable def ob191:Obj:=hF .none st29 "meeting_in_line" 0 .none .none
noncomputable def ob192:Obj:=hC "meeting_in_line" 507 508 509 515 252 253 254 255 256 91 2 0 0 3 181 514 91 true
noncomputable def ob193:Obj:=zzH st29 "meeting_in_line" (.str "spotlook.plots" 493) 257
noncomputable def ob194:Obj:=kTu [(.str "one" 520),(.str "other" 521),(.str "start" 522),(.str "end" 523),(.str "top" 524),(.str "bottom" 525),(.str "from_start" 526),(.str "share" 527)]
noncomputable def ob195:Obj:=hF .none st30 "crossing_spot" 0 .none .none
noncomputable def ob196:Obj:=hC "crossing_spot" 517 518 519 529 259 260 261 262 263 99 2 0 0 3 181 528 99 true
noncomputable def ob197:Obj:=zzH st30 "crossing_spot" (.str "spotlook.plots" 493) 264
noncomputable def ob198:Obj:=kTu [(.str "start" 534),(.str "end" 535),(.str "share" 536)]
noncomputable def ob199:Obj:=hF .none st31 "number_between" 0 .none .none
noncomputable def ob200:Obj:=hC "number_between" 531 532 533 538 266 267 268 269 270 106 3 0 0 3 181 537 106 true
noncomputable def ob201:Obj:=zzH st31 "number_between" (.str "spotlook.plots" 493) 271
noncomputable def ob202:Obj:=kTu [(.str "one" 543),(.str "other" 544),(.str "met" 545)]
noncomputable def ob203:Obj:=hF .none st32 "meet_as_in_plots" 0 .none .none
noncomputable def ob204:Obj:=hC "meet_as_in_plots" 540 541 542 547 273 274 275 276 277 108 2 0 0 3 181 546 108 true
noncomputable def ob205:Obj:=zzH st32 "meet_as_in_plots" (.str "spotlook.plots" 493) 278
noncomputable def ob206:Obj:=kTu [(.str "walls" 552),(.str "wall" 553),(.str "number" 554),(.str "other" 555)]
noncomputable def ob207:Obj:=hF .none st33 "first_crossed" 0 .none .none
noncomputable def ob208:Obj:=hC "first_crossed" 549 550 551 557 280 281 282 283 284 113 2 0 0 3 181 556 113 true
noncomputable def ob209:Obj:=zzH st33 "first_crossed" (.str "spotlook.plots" 493) 285
noncomputable def ob210:Obj:=hF .none st36 "read_number" 0 .none .none
noncomputable def ob211:Obj:=zzD "read_number" "read_number" 563 564 565 120 1 3 287 true 288 .none .none (.ref 289) 566 567
noncomputable def ob212:Obj:=zzH st36 "read_number" (.str "spotlook.texts" 559) 290
noncomputable def ob213:Obj:=kTu [(.str "text" 572),(.str "number" 573)]
noncomputable def ob214:Obj:=hF .none st37 "read_top" 0 .none .none
noncomputable def ob215:Obj:=hC "read_top" 569 570 571 575 292 293 294 295 296 126 1 0 0 3 181 574 126 true
noncomputable def ob216:Obj:=zzH st37 "read_top" (.str "spotlook.texts" 559) 297
noncomputable def ob217:Obj:=kTu [(.str "text" 580),(.str "top_text" 581),(.str "stroke" 582),(.str "bottom_text" 583),(.str "top" 584),(.str "bottom" 585)]
noncomputable def ob218:Obj:=hF .none st38 "read_fraction" 0 .none .none
noncomputable def ob219:Obj:=hC "read_fraction" 577 578 579 587 299 300 301 302 303 131 1 0 0 3 181 586 131 true
noncomputable def ob220:Obj:=zzH st38 "read_fraction" (.str "spotlook.texts" 559) 304
noncomputable def ob221:Obj:=hF .none st39 "read_spots" 0 .none .none
noncomputable def ob222:Obj:=zzD "read_spots" "read_spots" 589 590 591 140 3 3 306 true 307 .none .none (.ref 308) 592 593
noncomputable def ob223:Obj:=zzH st39 "read_spots" (.str "spotlook.texts" 559) 309
noncomputable def ob224:Obj:=kTu [(.str "row" 598),(.str "walls" 599),(.str "spots" 600),(.str "wall" 601)]
noncomputable def ob225:Obj:=hF .none st40 "read_wall" 0 .none .none
noncomputable def ob226:Obj:=hC "read_wall" 595 596 597 603 311 312 313 314 315 146 2 0 0 3 181 602 146 true
noncomputable def ob227:Obj:=zzH st40 "read_wall" (.str "spotlook.texts" 559) 316
noncomputable def ob228:Obj:=kTu [(.str "text" 608)]
noncomputable def ob229:Obj:=hF .none st41 "rows_of" 0 .none .none
noncomputable def ob230:Obj:=hC "rows_of" 605 606 607 610 318 319 320 321 322 154 1 0 0 3 181 609 154 true
noncomputable def ob231:Obj:=zzH st41 "rows_of" (.str "spotlook.texts" 559) 323
noncomputable def ob232:Obj:=kTu [(.str "text" 615),(.str "walls" 616),(.str "at" 617),(.str "row" 618),(.str "wall" 619)]
noncomputable def ob233:Obj:=hF .none st42 "read_plot" 0 .none .none
noncomputable def ob234:Obj:=hC "read_plot" 612 613 614 621 325 326 327 328 329 156 1 0 0 3 181 620 156 true
noncomputable def ob235:Obj:=zzH st42 "read_plot" (.str "spotlook.texts" 559) 330
noncomputable def ob236(P:GW):Obj:=zzM 59 (hE P "__name__" 165 zzN::(en3 P).take 58)
noncomputable def ob237:Obj:={ cls:=.none,data:=.fields (Ha (fl12.take 144)) }
noncomputable def ob238:Obj:=kTu [(.str "text" 626),(.str "walls" 627),(.str "spots" 628),(.str "at" 629),(.str "row" 630),(.str "asked" 631),(.str "wall" 632)]
noncomputable def ob239:Obj:=hF .none st43 "read_questions" 0 .none .none
noncomputable def ob240:Obj:=hC "read_questions" 623 624 625 634 332 333 334 335 336 164 1 0 0 3 181 633 164 true
noncomputable def ob241:Obj:=zzH st43 "read_questions" (.str "spotlook.texts" 559) 337
noncomputable def ob242:Obj:=kTu [(.str "_law_script" 641),(.str "_law_k" 642)]
noncomputable def ob243:Obj:=hF .none st45 "_law_cell_at" 0 .none .none
noncomputable def ob244:Obj:=hC "_law_cell_at" 638 639 640 644 339 340 341 342 343 177 2 0 0 3 181 643 177 true
noncomputable def ob245:Obj:=zzH st45 "_law_cell_at" zzN 344
noncomputable def ob246:Obj:=kTu [(.str "_law_row" 649),(.str "_law_base" 650),(.str "_law_rest" 651),(.str "_law_number_here" 652)]
noncomputable def ob247:Obj:=hF .none st46 "_law_take" 0 .none .none
noncomputable def ob248:Obj:=hC "_law_take" 646 647 648 654 346 347 348 349 350 181 2 0 0 3 181 653 181 true
noncomputable def ob249:Obj:=zzH st46 "_law_take" zzN 351
noncomputable def ob250:Obj:=kTu [(.str "_law_top" 659),(.str "_law_bottom" 660),(.str "_law_one" 661),(.str "_law_other" 662)]
noncomputable def ob251:Obj:=hF .none st47 "_law_low" 0 .none .none
noncomputable def ob252:Obj:=hC "_law_low" 656 657 658 664 353 354 355 356 357 191 2 0 0 3 181 663 191 true
noncomputable def ob253:Obj:=zzH st47 "_law_low" zzN 358
noncomputable def ob254:Obj:=kTu [(.str "_law_row" 669),(.str "_law_kind" 670),(.str "_law_most" 671),(.str "_law_bottom" 672),(.str "_law_top" 673)]
noncomputable def ob255:Obj:=hF .none st48 "_law_number" 0 .none .none
noncomputable def ob256:Obj:=hC "_law_number" 666 667 668 675 360 361 362 363 364 199 1 0 0 3 181 674 199 true
noncomputable def ob257:Obj:=zzH st48 "_law_number" zzN 365
noncomputable def ob258:Obj:=kTu [(.str "_law_row" 680),(.str "_law_top" 681),(.str "_law_bottom" 682),(.str "_law_far" 683)]
noncomputable def ob259:Obj:=hF .none st49 "_law_scale" 0 .none .none
noncomputable def ob260:Obj:=hC "_law_scale" 677 678 679 685 367 368 369 370 371 205 1 0 0 3 181 684 205 true
noncomputable def ob261:Obj:=zzH st49 "_law_scale" zzN 372
noncomputable def ob262:Obj:=kTu [(.str "_law_scale_here" 690),(.str "_law_unit" 691),(.str "_law_top" 692),(.str "_law_bottom" 693),(.str "_law_x" 694),(.str "_law_y" 695)]
noncomputable def ob263:Obj:=hF .none st50 "_law_spot" 0 .none .none
noncomputable def ob264:Obj:=hC "_law_spot" 687 688 689 697 374 375 376 377 378 211 2 0 0 3 181 696 211 true
noncomputable def ob265:Obj:=zzH st50 "_law_spot" zzN 379
noncomputable def ob266:Obj:=hF .none st51 "_law_made" 0 .none .none
noncomputable def ob267:Obj:=zzD "_law_made" "_law_made" 699 700 701 214 2 3 381 true 382 .none .none (.ref 383) 702 703
noncomputable def ob268:Obj:=zzH st51 "_law_made" zzN 384
noncomputable def ob269:Obj:=kTu [(.str "_law_one" 708),(.str "_law_two" 709),(.str "_law_three" 710),(.str "_law_far" 711),(.str "_law_beside" 712),(.str "_law_found" 713)]
noncomputable def ob270:Obj:=hF .none st52 "_law_turn" 0 .none .none
noncomputable def ob271:Obj:=hC "_law_turn" 705 706 707 715 386 387 388 389 390 216 3 0 0 3 181 714 216 true
noncomputable def ob272:Obj:=zzH st52 "_law_turn" zzN 391
noncomputable def ob273:Obj:=kTu [(.str "_law_shut" 720),(.str "_law_spot_here" 721)]
noncomputable def ob274:Obj:=hF .none st53 "_law_on" 0 .none .none
noncomputable def ob275:Obj:=hC "_law_on" 717 718 719 723 393 394 395 396 397 221 2 0 0 3 181 722 221 true
noncomputable def ob276:Obj:=zzH st53 "_law_on" zzN 398
noncomputable def ob277:Obj:=hF .none st54 "_law_fair" 0 .none .none
noncomputable def ob278:Obj:=zzD "_law_fair" "_law_fair" 725 726 727 223 2 3 400 true 401 .none .none (.ref 402) 728 729
noncomputable def ob279:Obj:=zzH st54 "_law_fair" zzN 403
noncomputable def ob280:Obj:=hF .none st55 "_law_shuts_here" 0 .none .none
noncomputable def ob281:Obj:=zzD "_law_shuts_here" "_law_shuts_here" 731 732 733 233 3 3 405 true 406 .none .none (.ref 407) 734 735
noncomputable def ob282:Obj:=zzH st55 "_law_shuts_here" zzN 408
noncomputable def ob283(P:GW):Obj:=zzM 72 (hE P "__name__" 165 zzN::(en3 P).take 71)
noncomputable def ob284:Obj:={ cls:=.none,data:=.fields (Ha (fl12.take 183)) }
noncomputable def ob285:Obj:=kTu [(.str "_law_one" 740)]
noncomputable def ob286:Obj:=hF .none st56 "_law_shown" 0 .none .none
noncomputable def ob287:Obj:=hC "_law_shown" 737 738 739 742 410 411 412 413 414 244 1 0 0 3 181 741 244 true
noncomputable def ob288:Obj:=zzH st56 "_law_shown" zzN 415
noncomputable def ob289:Obj:=hF .none st57 "_law_rows" 0 .none .none
noncomputable def ob290:Obj:=zzD "_law_rows" "_law_rows" 744 745 746 246 1 3 417 true 418 .none .none (.ref 419) 747 748
noncomputable def ob291:Obj:=zzH st57 "_law_rows" zzN 420
noncomputable def ob292:Obj:=hF .none st58 "_law_is_whole" 0 .none .none
noncomputable def ob293:Obj:=zzD "_law_is_whole" "_law_is_whole" 750 751 752 248 1 3 422 true 423 .none .none (.ref 424) 753 754
noncomputable def ob294:Obj:=zzH st58 "_law_is_whole" zzN 425
noncomputable def ob295:Obj:=kTu [(.str "_law_word" 759),(.str "_law_parts" 760),(.str "_law_top" 761),(.str "_law_bottom" 762)]
noncomputable def ob296:Obj:=hF .none st59 "_law_fraction" 0 .none .none
noncomputable def ob297:Obj:=hC "_law_fraction" 756 757 758 764 427 428 429 430 431 252 1 0 0 3 181 763 252 true
noncomputable def ob298:Obj:=zzH st59 "_law_fraction" zzN 432
noncomputable def ob299:Obj:=hF .none st60 "_law_shut_in" 0 .none .none
noncomputable def ob300:Obj:=zzD "_law_shut_in" "_law_shut_in" 766 767 768 265 1 3 434 true 435 .none .none (.ref 436) 769 770
noncomputable def ob301:Obj:=zzH st60 "_law_shut_in" zzN 437
noncomputable def ob302:Obj:=kTu [(.str "_law_row" 775),(.str "_law_lines" 776),(.str "_law_at" 777),(.str "_law_words" 778),(.str "_law_place" 779),(.str "_law_spot_here" 780),(.str "_law_signs" 781),(.str "_law_sign" 782),(.str "_law_way" 783),(.str "_law_line" 784),(.str "_law_some" 785)]
noncomputable def ob303:Obj:=hF .none st61 "_law_bent" 0 .none .none
noncomputable def ob304:Obj:=hC "_law_bent" 772 773 774 787 439 440 441 442 443 276 2 0 0 3 181 786 276 true
noncomputable def ob305:Obj:=zzH st61 "_law_bent" zzN 444
noncomputable def ob306:Obj:=kTu [(.str "_law_one" 792),(.str "_law_two" 793),(.str "_law_three" 794),(.str "_law_gaps" 795),(.str "_law_spot_here" 796),(.str "_law_place" 797),(.str "_law_a" 798),(.str "_law_b" 799),(.str "_law_c" 800),(.str "_law_d" 801),(.str "_law_e" 802),(.str "_law_f" 803),(.str "_law_g" 804),(.str "_law_h" 805),(.str "_law_found" 806)]
noncomputable def ob307:Obj:=hF .none st62 "_law_cross" 0 .none .none
noncomputable def ob308:Obj:=hC "_law_cross" 789 790 791 808 446 447 448 449 450 307 3 0 0 3 181 807 307 true
noncomputable def ob309:Obj:=zzH st62 "_law_cross" zzN 451
noncomputable def ob310:Obj:=kTu [(.str "_law_one" 813),(.str "_law_other" 814)]
noncomputable def ob311:Obj:=hF .none st63 "_law_before" 0 .none .none
noncomputable def ob312:Obj:=hC "_law_before" 810 811 812 816 453 454 455 456 457 316 2 0 0 3 181 815 316 true
noncomputable def ob313:Obj:=zzH st63 "_law_before" zzN 458
noncomputable def ob314:Obj:=hF .none st64 "_law_fits" 0 .none .none
noncomputable def ob315:Obj:=zzD "_law_fits" "_law_fits" 818 819 820 320 2 3 460 true 461 .none .none (.ref 462) 821 822
noncomputable def ob316:Obj:=zzH st64 "_law_fits" zzN 463
noncomputable def ob317:Obj:=kTu [(.str "_law_one" 827),(.str "_law_other" 828)]
noncomputable def ob318:Obj:=hF .none st65 "_law_beyond" 0 .none .none
noncomputable def ob319:Obj:=hC "_law_beyond" 824 825 826 830 465 466 467 468 469 331 2 0 0 3 181 829 331 true
noncomputable def ob320:Obj:=zzH st65 "_law_beyond" zzN 470
noncomputable def ob321:Obj:=hF .none st66 "_law_odd" 0 .none .none
noncomputable def ob322:Obj:=zzD "_law_odd" "_law_odd" 832 833 834 333 2 3 472 true 473 .none .none (.ref 474) 835 836
noncomputable def ob323:Obj:=zzH st66 "_law_odd" zzN 475
noncomputable def ob324:Obj:=kTu [(.str "_law_heard_here" 841),(.str "_law_place" 842),(.str "_law_kinds" 843)]
noncomputable def ob325:Obj:=hF .none st67 "_law_alone" 0 .none .none
noncomputable def ob326:Obj:=hC "_law_alone" 838 839 840 845 477 478 479 480 481 341 2 0 0 3 181 844 341 true
noncomputable def ob327:Obj:=zzH st67 "_law_alone" zzN 482
noncomputable def ob328:Obj:=kTu [(.str "_law_asks" 850),(.str "_law_text" 851),(.str "_law_heard_here" 852),(.str "_law_found" 853),(.str "_law_e" 854)]
noncomputable def ob329:Obj:=hF .none st68 "_law_heard" 0 .none .none
noncomputable def ob330:Obj:=hC "_law_heard" 847 848 849 856 484 485 486 487 488 346 2 0 0 3 181 855 346 true
noncomputable def ob331:Obj:=zzH st68 "_law_heard" zzN 489
noncomputable def ob332(P:GW):Obj:=zzM 74 (hE P "__name__" 165 zzN::(en3 P).take 73)
noncomputable def ob333:Obj:={ cls:=.none,data:=.fields (Ha (fl12.take 189)) }
noncomputable def ob334:Obj:=hF .none st69 "_law_due" 0 .none .none
noncomputable def ob335:Obj:=zzD "_law_due" "_law_due" 858 859 860 361 2 3 491 true 492 .none .none (.ref 493) 861 862
noncomputable def ob336:Obj:=zzH st69 "_law_due" zzN 494
noncomputable def ob337:Obj:=hF .none st70 "law" 0 .none .none
noncomputable def ob338:Obj:=zzD "law" "law" 864 865 866 377 1 3 496 true 497 .none .none (.ref 498) 867 868
noncomputable def ob339:Obj:=zzH st70 "law" zzN 499
noncomputable def oL0(P:GW):List Obj:=[PySem.W.boot_o_0 P,PySem.W.boot_o_1 P,PySem.W.boot_o_2 P,PySem.W.boot_o_3 P,PySem.W.boot_o_4 P,PySem.W.boot_o_5 P,PySem.W.boot_o_6 P,PySem.W.boot_o_7 P,PySem.W.boot_o_8 P,PySem.W.boot_o_9 P,PySem.W.boot_o_10 P,ob11,ob12,ob13,ob14,ob15 P]
noncomputable def oL1(P:GW):List Obj:=[ob16,ob17,ob18,ob19 P,ob20,ob21,ob22 P,ob23,ob24,ob25,ob26,ob27 P,ob28,ob29,ob30,ob31 P]
noncomputable def oL2(P:GW):List Obj:=[ob32,ob33,ob34 P,ob35,ob36,ob37,ob38 P,ob39,ob40,ob41 P,ob42,ob43,ob44 P,ob45,ob46,ob47]
noncomputable def oL3(P:GW):List Obj:=[ob48 P,ob49,ob50,ob51 P,ob52,ob53,ob54,ob55,ob56,ob57,ob58,ob59,ob60 P,ob61,ob62,ob63]
noncomputable def oL4(P:GW):List Obj:=[ob64 P,ob65,ob66,ob67 P,ob68,ob69,ob70,ob71,ob72,ob73,ob74,ob75,ob76 P,ob77,ob78,ob79]
noncomputable def oL5(P:GW):List Obj:=[ob80 P,ob81,ob82,ob83 P,ob84,ob85,ob86,ob87,ob88,ob89,ob90,ob91,ob92 P,ob93,ob94,ob95]
noncomputable def oL6(P:GW):List Obj:=[ob96 P,ob97,ob98,ob99 P,ob100,ob101,ob102,ob103,ob104,ob105,ob106,ob107,ob108 P,ob109,ob110,ob111]
noncomputable def oL7(P:GW):List Obj:=[ob112 P,ob113,ob114,ob115 P,ob116,ob117,ob118 P,ob119,ob120,ob121,ob122,ob123,ob124,ob125,ob126,ob127]
noncomputable def oL8(P:GW):List Obj:=[ob128,ob129,ob130,ob131,ob132,ob133,ob134,ob135,ob136,ob137,ob138,ob139,ob140,ob141,ob142 P,ob143]
noncomputable def oL9(P:GW):List Obj:=[ob144,ob145,ob146,ob147,ob148,ob149,ob150,ob151,ob152,ob153,ob154,ob155,ob156,ob157,ob158,ob159]
noncomputable def oL10(P:GW):List Obj:=[ob160,ob161,ob162,ob163,ob164,ob165,ob166,ob167,ob168,ob169,ob170,ob171,ob172,ob173,ob174,ob175]
noncomputable def oL11(P:GW):List Obj:=[ob176,ob177,ob178,ob179,ob180,ob181,ob182,ob183,ob184,ob185,ob186,ob187,ob188 P,ob189,ob190,ob191]
noncomputable def oL12(P:GW):List Obj:=[ob192,ob193,ob194,ob195,ob196,ob197,ob198,ob199,ob200,ob201,ob202,ob203,ob204,ob205,ob206,ob207]
noncomputable def oL13(P:GW):List Obj:=[ob208,ob209,ob210,ob211,ob212,ob213,ob214,ob215,ob216,ob217,ob218,ob219,ob220,ob221,ob222,ob223]
noncomputable def oL14(P:GW):List Obj:=[ob224,ob225,ob226,ob227,ob228,ob229,ob230,ob231,ob232,ob233,ob234,ob235,ob236 P,ob237,ob238,ob239]
noncomputable def oL15(P:GW):List Obj:=[ob240,ob241,ob242,ob243,ob244,ob245,ob246,ob247,ob248,ob249,ob250,ob251,ob252,ob253,ob254,ob255]
noncomputable def oL16(P:GW):List Obj:=[ob256,ob257,ob258,ob259,ob260,ob261,ob262,ob263,ob264,ob265,ob266,ob267,ob268,ob269,ob270,ob271]
noncomputable def oL17(P:GW):List Obj:=[ob272,ob273,ob274,ob275,ob276,ob277,ob278,ob279,ob280,ob281,ob282,ob283 P,ob284,ob285,ob286,ob287]
noncomputable def oL18(P:GW):List Obj:=[ob288,ob289,ob290,ob291,ob292,ob293,ob294,ob295,ob296,ob297,ob298,ob299,ob300,ob301,ob302,ob303]
noncomputable def oL19(P:GW):List Obj:=[ob304,ob305,ob306,ob307,ob308,ob309,ob310,ob311,ob312,ob313,ob314,ob315,ob316,ob317,ob318,ob319]
noncomputable def oL20(P:GW):List Obj:=[ob320,ob321,ob322,ob323,ob324,ob325,ob326,ob327,ob328,ob329,ob330,ob331,ob332 P,ob333,ob334,ob335]
noncomputable def oL21(P:GW):List Obj:=[ob336,ob337,ob338,ob339]
noncomputable def fA(c i:Nat)(P:GW):Obj:=(([oL0 P,oL1 P,oL2 P,oL3 P,oL4 P,oL5 P,oL6 P,oL7 P,oL8 P,oL9 P,oL10 P,oL11 P,oL12 P,oL13 P,oL14 P,oL15 P,oL16 P,oL17 P,oL18 P,oL19 P,oL20 P,oL21 P]:List (List Obj)).getD c []).getD i { cls:=.none }
noncomputable def tW0(n:Nat->G7->G7->G7)(e:G7):G7:=(fun m:Nat->G7=>(n 0 (n 1 (n 3 (m 7) (m 11)) (n 5 (m 9) (m 13))) (n 2 (n 4 (m 8) (m 12)) (n 6 (m 10) (m 14))))) fun a=>n a e e
noncomputable def tX0(f:Nat->Nat->GW->Obj)(P:GW):G7:=tW0 (fun k=>.node (f (k/16) (k%16) P)) .nil
noncomputable def tW1(n:Nat->G7->G7->G7)(e:G7):G7:=(fun m:Nat->G7=>(n 0 (n 1 (n 15 (n 7 (m 17) (m 22)) (n 11 (m 12) (m 26))) (n 5 (n 9 (m 19) (m 24)) (n 13 (m 21) e))) (n 2 (n 4 (n 8 (m 18) (m 23)) (n 16 (m 20) e)) (n 6 (n 10 (m 11) (m 25)) (n 14 (m 11) e))))) fun a=>n a e e
noncomputable def tX1(f:Nat->Nat->GW->Obj)(P:GW):G7:=tW1 (fun k=>.node (f (k/16) (k%16) P)) .nil
noncomputable def tW2(n:Nat->G7->G7->G7)(e:G7):G7:=(fun m:Nat->G7=>(n 0 (n 1 (n 27 (n 7 (n 17 (m 11) e) (n 22 (m 37) e)) (n 11 (n 12 (m 11) e) (m 26))) (n 5 (n 9 (n 19 (m 32) e) (m 24)) (n 13 (n 21 (m 35) e) (m 18)))) (n 2 (n 4 (n 8 (n 18 (m 12) e) (m 29)) (n 28 (n 20 (m 34) e) (m 30))) (n 6 (n 10 (n 11 (m 33) e) (m 25)) (n 14 (n 11 (m 36) e) (m 31)))))) fun a=>n a e e
noncomputable def tX2(f:Nat->Nat->GW->Obj)(P:GW):G7:=tW2 (fun k=>.node (f (k/16) (k%16) P)) .nil
noncomputable def tW3(n:Nat->G7->G7->G7)(e:G7):G7:=(fun m:Nat->G7=>(n 0 (n 1 (n 38 (n 7 (n 17 (m 11) (m 11)) (n 22 (m 37) e)) (n 11 (n 12 (m 11) (m 47)) (n 26 (m 11) e))) (n 5 (n 9 (n 19 (m 32) (m 45)) (n 24 (m 18) e)) (n 13 (n 21 (m 35) e) (n 18 (m 42) e)))) (n 2 (n 4 (n 8 (n 18 (m 12) (m 44)) (n 40 (m 30) e)) (n 39 (n 20 (m 34) e) (n 30 (m 12) e))) (n 6 (n 10 (n 11 (m 33) (m 46)) (n 25 (m 41) e)) (n 14 (n 11 (m 36) e) (n 31 (m 43) e)))))) fun a=>n a e e
noncomputable def tX3(f:Nat->Nat->GW->Obj)(P:GW):G7:=tW3 (fun k=>.node (f (k/16) (k%16) P)) .nil
noncomputable def tW4(n:Nat->G7->G7->G7)(e:G7):G7:=(fun m:Nat->G7=>(n 0 (n 1 (n 48 (n 7 (n 17 (n 11 (m 56) e) (m 11)) (n 22 (m 37) (m 11))) (n 11 (n 12 (n 11 (m 60) e) (m 47)) (n 26 (m 11) (m 11)))) (n 5 (n 9 (n 19 (n 32 (m 58) e) (m 45)) (n 24 (m 18) (m 53))) (n 13 (n 21 (n 35 (m 62) e) (m 18)) (n 18 (m 42) (m 55))))) (n 2 (n 4 (n 8 (n 18 (n 12 (m 57) e) (m 44)) (n 50 (m 30) (m 52))) (n 49 (n 20 (n 34 (m 61) e) (m 30)) (n 30 (m 12) (m 12)))) (n 6 (n 10 (n 11 (n 33 (m 59) e) (m 46)) (n 25 (m 41) (m 54))) (n 14 (n 11 (n 36 (m 63) e) (m 51)) (n 31 (m 43) (m 11))))))) fun a=>n a e e
noncomputable def tX4(f:Nat->Nat->GW->Obj)(P:GW):G7:=tW4 (fun k=>.node (f (k/16) (k%16) P)) .nil
noncomputable def tW5(n:Nat->G7->G7->G7)(e:G7):G7:=(fun m:Nat->G7=>(n 0 (n 1 (n 64 (n 7 (n 17 (n 11 (m 56) e) (n 11 (m 12) e)) (n 22 (n 37 (m 30) e) (n 11 (m 77) e))) (n 11 (n 12 (n 11 (m 60) e) (n 47 (m 73) e)) (n 26 (n 11 (m 68) e) (m 11)))) (n 5 (n 9 (n 19 (n 32 (m 58) e) (n 45 (m 11) e)) (n 24 (n 18 (m 67) e) (n 53 (m 79) e))) (n 13 (n 21 (n 35 (m 62) e) (n 18 (m 75) e)) (n 18 (n 42 (m 70) e) (m 55))))) (n 2 (n 4 (n 8 (n 18 (n 12 (m 57) e) (n 44 (m 71) e)) (n 66 (n 30 (m 18) e) (n 52 (m 78) e))) (n 65 (n 20 (n 34 (m 61) e) (n 30 (m 74) e)) (n 30 (n 12 (m 69) e) (m 12)))) (n 6 (n 10 (n 11 (n 33 (m 59) e) (n 46 (m 72) e)) (n 25 (n 41 (m 11) e) (m 54))) (n 14 (n 11 (n 36 (m 63) e) (n 51 (m 76) e)) (n 31 (n 43 (m 11) e) (m 11))))))) fun a=>n a e e
noncomputable def tX5(f:Nat->Nat->GW->Obj)(P:GW):G7:=tW5 (fun k=>.node (f (k/16) (k%16) P)) .nil
noncomputable def tW6(n:Nat->G7->G7->G7)(e:G7):G7:=(fun m:Nat->G7=>(n 0 (n 1 (n 80 (n 7 (n 17 (n 11 (m 56) (m 85)) (n 11 (m 12) e)) (n 22 (n 37 (m 30) (m 90)) (n 11 (m 77) e))) (n 11 (n 12 (n 11 (m 60) (m 87)) (n 47 (m 73) e)) (n 26 (n 11 (m 68) (m 94)) (n 11 (m 18) e)))) (n 5 (n 9 (n 19 (n 32 (m 58) (m 11)) (n 45 (m 11) e)) (n 24 (n 18 (m 67) (m 92)) (n 53 (m 79) e))) (n 13 (n 21 (n 35 (m 62) (m 88)) (n 18 (m 75) e)) (n 18 (n 42 (m 70) e) (n 55 (m 11) e))))) (n 2 (n 4 (n 8 (n 18 (n 12 (m 57) (m 86)) (n 44 (m 71) e)) (n 82 (n 30 (m 18) (m 91)) (n 52 (m 78) e))) (n 81 (n 20 (n 34 (m 61) (m 11)) (n 30 (m 74) e)) (n 30 (n 12 (m 69) (m 95)) (n 12 (m 83) e)))) (n 6 (n 10 (n 11 (n 33 (m 59) (m 12)) (n 46 (m 72) e)) (n 25 (n 41 (m 11) (m 93)) (n 54 (m 30) e))) (n 14 (n 11 (n 36 (m 63) (m 89)) (n 51 (m 76) e)) (n 31 (n 43 (m 11) e) (n 11 (m 84) e))))))) fun a=>n a e e
noncomputable def tX6(f:Nat->Nat->GW->Obj)(P:GW):G7:=tW6 (fun k=>.node (f (k/16) (k%16) P)) .nil
noncomputable def tW7(n:Nat->G7->G7->G7)(e:G7):G7:=(fun m:Nat->G7=>(n 0 (n 1 (n 96 (n 7 (n 17 (n 11 (n 56 (m 111) e) (m 85)) (n 11 (m 12) (m 99))) (n 22 (n 37 (m 30) (m 90)) (n 11 (m 77) (m 11)))) (n 11 (n 12 (n 11 (m 60) (m 87)) (n 47 (m 73) (m 102))) (n 26 (n 11 (m 68) (m 94)) (n 11 (m 18) (m 107))))) (n 5 (n 9 (n 19 (n 32 (m 58) (m 11)) (n 45 (m 11) (m 100))) (n 24 (n 18 (m 67) (m 92)) (n 53 (m 79) (m 105)))) (n 13 (n 21 (n 35 (m 62) (m 88)) (n 18 (m 75) (m 12))) (n 18 (n 42 (m 70) (m 30)) (n 55 (m 11) (m 109)))))) (n 2 (n 4 (n 8 (n 18 (n 12 (m 57) (m 86)) (n 44 (m 71) (m 11))) (n 98 (n 30 (m 18) (m 91)) (n 52 (m 78) (m 104)))) (n 97 (n 20 (n 34 (m 61) (m 11)) (n 30 (m 74) (m 11))) (n 30 (n 12 (m 69) (m 95)) (n 12 (m 83) (m 108))))) (n 6 (n 10 (n 11 (n 33 (m 59) (m 12)) (n 46 (m 72) (m 101))) (n 25 (n 41 (m 11) (m 93)) (n 54 (m 30) (m 106)))) (n 14 (n 11 (n 36 (m 63) (m 89)) (n 51 (m 76) (m 103))) (n 31 (n 43 (m 11) (m 18)) (n 11 (m 84) (m 110)))))))) fun a=>n a e e
noncomputable def tX7(f:Nat->Nat->GW->Obj)(P:GW):G7:=tW7 (fun k=>.node (f (k/16) (k%16) P)) .nil
noncomputable def tW8(n:Nat->G7->G7->G7)(e:G7):G7:=(fun m:Nat->G7=>(n 0 (n 1 (n 112 (n 7 (n 17 (n 11 (n 56 (m 111) e) (n 85 (m 132) e)) (n 11 (n 12 (m 11) e) (m 99))) (n 22 (n 37 (n 30 (m 11) e) (n 90 (m 137) e)) (n 11 (n 77 (m 127) e) (m 11)))) (n 11 (n 12 (n 11 (n 60 (m 11) e) (n 87 (m 134) e)) (n 47 (n 73 (m 11) e) (m 102))) (n 26 (n 11 (n 68 (m 121) e) (n 94 (m 11) e)) (n 11 (n 18 (m 12) e) (m 107))))) (n 5 (n 9 (n 19 (n 32 (n 58 (m 18) e) (n 11 (m 11) e)) (n 45 (n 11 (m 124) e) (m 100))) (n 24 (n 18 (n 67 (m 119) e) (n 92 (m 12) e)) (n 53 (n 79 (m 129) e) (m 105)))) (n 13 (n 21 (n 35 (n 62 (m 116) e) (n 88 (m 135) e)) (n 18 (n 75 (m 126) e) (m 12))) (n 18 (n 42 (n 70 (m 12) e) (n 30 (m 140) e)) (n 55 (n 11 (m 11) e) (m 109)))))) (n 2 (n 4 (n 8 (n 18 (n 12 (n 57 (m 30) e) (n 86 (m 133) e)) (n 44 (n 71 (m 123) e) (m 11))) (n 114 (n 30 (n 18 (m 118) e) (n 91 (m 11) e)) (n 52 (n 78 (m 128) e) (m 104)))) (n 113 (n 20 (n 34 (n 61 (m 12) e) (n 11 (m 11) e)) (n 30 (n 74 (m 12) e) (m 11))) (n 30 (n 12 (n 69 (m 11) e) (n 95 (m 139) e)) (n 12 (n 83 (m 130) e) (m 108))))) (n 6 (n 10 (n 11 (n 33 (n 59 (m 115) e) (n 12 (m 12) e)) (n 46 (n 72 (m 125) e) (m 101))) (n 25 (n 41 (n 11 (m 120) e) (n 93 (m 138) e)) (n 54 (n 30 (m 11) e) (m 106)))) (n 14 (n 11 (n 36 (n 63 (m 117) e) (n 89 (m 136) e)) (n 51 (n 76 (m 11) e) (m 103))) (n 31 (n 43 (n 11 (m 122) e) (n 18 (m 141) e)) (n 11 (n 84 (m 131) e) (m 110)))))))) fun a=>n a e e
noncomputable def tX8(f:Nat->Nat->GW->Obj)(P:GW):G7:=tW8 (fun k=>.node (f (k/16) (k%16) P)) .nil
noncomputable def tW9(n:Nat->G7->G7->G7)(e:G7):G7:=(fun m:Nat->G7=>(n 0 (n 1 (n 142 (n 7 (n 17 (n 11 (n 56 (m 111) (m 152)) (n 85 (m 132) (m 171))) (n 11 (n 12 (m 11) (m 161)) (n 99 (m 11) (m 12)))) (n 22 (n 37 (n 30 (m 11) (m 11)) (n 90 (m 137) (m 11))) (n 11 (n 77 (m 127) (m 166)) (n 11 (m 12) (m 184))))) (n 11 (n 12 (n 11 (n 60 (m 11) (m 155)) (n 87 (m 134) (m 11))) (n 47 (n 73 (m 11) (m 12)) (n 102 (m 145) (m 182)))) (n 26 (n 11 (n 68 (m 121) (m 11)) (n 94 (m 11) (m 177))) (n 11 (n 18 (m 12) (m 168)) (n 107 (m 150) (m 187)))))) (n 5 (n 9 (n 19 (n 32 (n 58 (m 18) (m 153)) (n 11 (m 11) (m 12))) (n 45 (n 11 (m 124) (m 163)) (n 100 (m 144) (m 11)))) (n 24 (n 18 (n 67 (m 119) (m 158)) (n 92 (m 12) (m 176))) (n 53 (n 79 (m 129) (m 11)) (n 105 (m 11) (m 185))))) (n 13 (n 21 (n 35 (n 62 (m 116) (m 12)) (n 88 (m 135) (m 174))) (n 18 (n 75 (m 126) (m 11)) (n 12 (m 147) (m 11)))) (n 18 (n 42 (n 70 (m 12) (m 160)) (n 30 (m 140) (m 179))) (n 55 (n 11 (m 11) (m 169)) (n 109 (m 11) e)))))) (n 2 (n 4 (n 8 (n 18 (n 12 (n 57 (m 30) (m 11)) (n 86 (m 133) (m 11))) (n 44 (n 71 (m 123) (m 162)) (n 11 (m 12) (m 180)))) (n 114 (n 30 (n 18 (m 118) (m 157)) (n 91 (m 11) (m 12))) (n 52 (n 78 (m 128) (m 167)) (n 104 (m 148) (m 11))))) (n 143 (n 20 (n 34 (n 61 (m 12) (m 11)) (n 11 (m 11) (m 173))) (n 30 (n 74 (m 12) (m 164)) (n 11 (m 146) (m 183)))) (n 30 (n 12 (n 69 (m 11) (m 12)) (n 95 (m 139) (m 178))) (n 12 (n 83 (m 130) (m 11)) (n 108 (m 151) e))))) (n 6 (n 10 (n 11 (n 33 (n 59 (m 115) (m 154)) (n 12 (m 12) (m 172))) (n 46 (n 72 (m 125) (m 11)) (n 101 (m 11) (m 181)))) (n 25 (n 41 (n 11 (m 120) (m 159)) (n 93 (m 138) (m 11))) (n 54 (n 30 (m 11) (m 12)) (n 106 (m 149) (m 186))))) (n 14 (n 11 (n 36 (n 63 (m 117) (m 156)) (n 89 (m 136) (m 175))) (n 51 (n 76 (m 11) (m 165)) (n 103 (m 11) (m 12)))) (n 31 (n 43 (n 11 (m 122) (m 11)) (n 18 (m 141) (m 11))) (n 11 (n 84 (m 131) (m 170)) (n 110 (m 12) e)))))))) fun a=>n a e e
noncomputable def tX9(f:Nat->Nat->GW->Obj)(P:GW):G7:=tW9 (fun k=>.node (f (k/16) (k%16) P)) .nil
noncomputable def tW10(n:Nat->G7->G7->G7)(e:G7):G7:=(fun m:Nat->G7=>(n 0 (n 1 (n 188 (n 7 (n 17 (n 11 (n 56 (n 111 (m 11) e) (n 152 (m 12) e)) (n 85 (n 132 (m 11) e) (m 171))) (n 11 (n 12 (n 11 (m 200) e) (m 161)) (n 99 (n 11 (m 218) e) (m 12)))) (n 22 (n 37 (n 30 (n 11 (m 195) e) (n 11 (m 232) e)) (n 90 (n 137 (m 11) e) (m 11))) (n 11 (n 77 (n 127 (m 205) e) (m 166)) (n 11 (n 12 (m 11) e) (m 184))))) (n 11 (n 12 (n 11 (n 60 (n 11 (m 11) e) (n 155 (m 230) e)) (n 87 (n 134 (m 212) e) (m 11))) (n 47 (n 73 (n 11 (m 202) e) (m 12)) (n 102 (n 145 (m 12) e) (m 182)))) (n 26 (n 11 (n 68 (n 121 (m 12) e) (n 11 (m 235) e)) (n 94 (n 11 (m 11) e) (m 177))) (n 11 (n 18 (n 12 (m 11) e) (m 168)) (n 107 (n 150 (m 225) e) (m 187)))))) (n 5 (n 9 (n 19 (n 32 (n 58 (n 18 (m 192) e) (n 153 (m 11) e)) (n 11 (n 11 (m 210) e) (m 12))) (n 45 (n 11 (n 124 (m 11) e) (m 163)) (n 100 (n 144 (m 220) e) (m 11)))) (n 24 (n 18 (n 67 (n 119 (m 197) e) (n 158 (m 233) e)) (n 92 (n 12 (m 215) e) (m 176))) (n 53 (n 79 (n 129 (m 12) e) (m 11)) (n 105 (n 11 (m 224) e) (m 185))))) (n 13 (n 21 (n 35 (n 62 (n 116 (m 194) e) (n 12 (m 11) e)) (n 88 (n 135 (m 12) e) (m 174))) (n 18 (n 75 (n 126 (m 203) e) (m 11)) (n 12 (n 147 (m 222) e) (m 11)))) (n 18 (n 42 (n 70 (n 12 (m 11) e) (m 160)) (n 30 (n 140 (m 217) e) (m 179))) (n 55 (n 11 (n 11 (m 208) e) (m 169)) (n 109 (n 11 (m 227) e) (m 12))))))) (n 2 (n 4 (n 8 (n 18 (n 12 (n 57 (n 30 (m 191) e) (n 11 (m 228) e)) (n 86 (n 133 (m 12) e) (m 11))) (n 44 (n 71 (n 123 (m 201) e) (m 162)) (n 11 (n 12 (m 219) e) (m 180)))) (n 114 (n 30 (n 18 (n 118 (m 196) e) (n 157 (m 11) e)) (n 91 (n 11 (m 214) e) (m 12))) (n 52 (n 78 (n 128 (m 11) e) (m 167)) (n 104 (n 148 (m 12) e) (m 11))))) (n 189 (n 20 (n 34 (n 61 (n 12 (m 12) e) (n 11 (m 231) e)) (n 11 (n 11 (m 11) e) (m 173))) (n 30 (n 74 (n 12 (m 11) e) (m 164)) (n 11 (n 146 (m 221) e) (m 183)))) (n 30 (n 12 (n 69 (n 11 (m 198) e) (m 12)) (n 95 (n 139 (m 12) e) (m 178))) (n 12 (n 83 (n 130 (m 207) e) (m 11)) (n 108 (n 151 (m 226) e) (m 11)))))) (n 6 (n 10 (n 11 (n 33 (n 59 (n 115 (m 193) e) (n 154 (m 229) e)) (n 12 (n 12 (m 211) e) (m 172))) (n 46 (n 72 (n 125 (m 12) e) (m 11)) (n 101 (n 11 (m 11) e) (m 181)))) (n 25 (n 41 (n 11 (n 120 (m 11) e) (n 159 (m 234) e)) (n 93 (n 138 (m 216) e) (m 11))) (n 54 (n 30 (n 11 (m 206) e) (m 12)) (n 106 (n 149 (m 11) e) (m 186))))) (n 14 (n 11 (n 36 (n 63 (n 117 (m 11) e) (n 156 (m 12) e)) (n 89 (n 136 (m 213) e) (m 175))) (n 51 (n 76 (n 11 (m 204) e) (m 165)) (n 103 (n 11 (m 223) e) (m 12)))) (n 31 (n 43 (n 11 (n 122 (m 199) e) (m 11)) (n 18 (n 141 (m 11) e) (m 11))) (n 11 (n 84 (n 131 (m 209) e) (m 170)) (n 110 (n 12 (m 11) e) (m 190))))))))) fun a=>n a e e
noncomputable def tX10(f:Nat->Nat->GW->Obj)(P:GW):G7:=tW10 (fun k=>.node (f (k/16) (k%16) P)) .nil
noncomputable def tW11(n:Nat->G7->G7->G7)(e:G7):G7:=(fun m:Nat->G7=>(n 0 (n 1 (n 236 (n 7 (n 17 (n 11 (n 56 (n 111 (m 11) (m 266)) (n 152 (m 12) e)) (n 85 (n 132 (m 11) e) (n 171 (m 248) e))) (n 11 (n 12 (n 11 (m 200) (m 276)) (n 161 (m 11) e)) (n 99 (n 11 (m 218) e) (n 12 (m 11) e)))) (n 22 (n 37 (n 30 (n 11 (m 195) (m 271)) (n 11 (m 232) e)) (n 90 (n 137 (m 11) e) (n 11 (m 253) e))) (n 11 (n 77 (n 127 (m 205) (m 280)) (n 166 (m 243) e)) (n 11 (n 12 (m 11) e) (n 184 (m 12) e))))) (n 11 (n 12 (n 11 (n 60 (n 11 (m 11) (m 12)) (n 155 (m 230) e)) (n 87 (n 134 (m 212) e) (n 11 (m 250) e))) (n 47 (n 73 (n 11 (m 202) (m 278)) (n 12 (m 11) e)) (n 102 (n 145 (m 12) e) (n 182 (m 259) e)))) (n 26 (n 11 (n 68 (n 121 (m 12) (m 273)) (n 11 (m 235) e)) (n 94 (n 11 (m 11) e) (n 177 (m 11) e))) (n 11 (n 18 (n 12 (m 11) e) (n 168 (m 12) e)) (n 107 (n 150 (m 225) e) (n 187 (m 264) e)))))) (n 5 (n 9 (n 19 (n 32 (n 58 (n 18 (m 192) (m 268)) (n 153 (m 11) e)) (n 11 (n 11 (m 210) e) (n 12 (m 11) e))) (n 45 (n 11 (n 124 (m 11) (m 12)) (n 163 (m 240) e)) (n 100 (n 144 (m 220) e) (n 11 (m 258) e)))) (n 24 (n 18 (n 67 (n 119 (m 197) (m 11)) (n 158 (m 233) e)) (n 92 (n 12 (m 215) e) (n 176 (m 12) e))) (n 53 (n 79 (n 129 (m 12) (m 282)) (n 11 (m 245) e)) (n 105 (n 11 (m 224) e) (n 185 (m 11) e))))) (n 13 (n 21 (n 35 (n 62 (n 116 (m 194) (m 11)) (n 12 (m 11) e)) (n 88 (n 135 (m 12) e) (n 174 (m 251) e))) (n 18 (n 75 (n 126 (m 203) (m 11)) (n 11 (m 242) e)) (n 12 (n 147 (m 222) e) (n 11 (m 261) e)))) (n 18 (n 42 (n 70 (n 12 (m 11) (m 274)) (n 160 (m 12) e)) (n 30 (n 140 (m 217) e) (n 179 (m 256) e))) (n 55 (n 11 (n 11 (m 208) e) (n 169 (m 11) e)) (n 109 (n 11 (m 227) e) (n 12 (m 11) e))))))) (n 2 (n 4 (n 8 (n 18 (n 12 (n 57 (n 30 (m 191) (m 267)) (n 11 (m 228) e)) (n 86 (n 133 (m 12) e) (n 11 (m 249) e))) (n 44 (n 71 (n 123 (m 201) (m 11)) (n 162 (m 239) e)) (n 11 (n 12 (m 219) e) (n 180 (m 12) e)))) (n 114 (n 30 (n 18 (n 118 (m 196) (m 272)) (n 157 (m 11) e)) (n 91 (n 11 (m 214) e) (n 12 (m 11) e))) (n 52 (n 78 (n 128 (m 11) (m 281)) (n 167 (m 244) e)) (n 104 (n 148 (m 12) e) (n 11 (m 262) e))))) (n 237 (n 20 (n 34 (n 61 (n 12 (m 12) (m 269)) (n 11 (m 231) e)) (n 11 (n 11 (m 11) e) (n 173 (m 11) e))) (n 30 (n 74 (n 12 (m 11) (m 279)) (n 164 (m 12) e)) (n 11 (n 146 (m 221) e) (n 183 (m 260) e)))) (n 30 (n 12 (n 69 (n 11 (m 198) (m 11)) (n 12 (m 11) e)) (n 95 (n 139 (m 12) e) (n 178 (m 255) e))) (n 12 (n 83 (n 130 (m 207) e) (n 11 (m 246) e)) (n 108 (n 151 (m 226) e) (n 11 (m 265) e)))))) (n 6 (n 10 (n 11 (n 33 (n 59 (n 115 (m 193) (m 11)) (n 154 (m 229) e)) (n 12 (n 12 (m 211) e) (n 172 (m 12) e))) (n 46 (n 72 (n 125 (m 12) (m 277)) (n 11 (m 241) e)) (n 101 (n 11 (m 11) e) (n 181 (m 11) e)))) (n 25 (n 41 (n 11 (n 120 (m 11) (m 12)) (n 159 (m 234) e)) (n 93 (n 138 (m 216) e) (n 11 (m 254) e))) (n 54 (n 30 (n 11 (m 206) e) (n 12 (m 11) e)) (n 106 (n 149 (m 11) e) (n 186 (m 263) e))))) (n 14 (n 11 (n 36 (n 63 (n 117 (m 11) (m 270)) (n 156 (m 12) e)) (n 89 (n 136 (m 213) e) (n 175 (m 252) e))) (n 51 (n 76 (n 11 (m 204) (m 12)) (n 165 (m 11) e)) (n 103 (n 11 (m 223) e) (n 12 (m 11) e)))) (n 31 (n 43 (n 11 (n 122 (m 199) (m 275)) (n 11 (m 238) e)) (n 18 (n 141 (m 11) e) (n 11 (m 257) e))) (n 11 (n 84 (n 131 (m 209) e) (n 170 (m 247) e)) (n 110 (n 12 (m 11) e) (n 190 (m 12) e))))))))) fun a=>n a e e
noncomputable def tX11(f:Nat->Nat->GW->Obj)(P:GW):G7:=tW11 (fun k=>.node (f (k/16) (k%16) P)) .nil
noncomputable def tW12(n:Nat->G7->G7->G7)(e:G7):G7:=(fun m:Nat->G7=>(n 0 (n 1 (n 283 (n 7 (n 17 (n 11 (n 56 (n 111 (m 11) (m 266)) (n 152 (m 12) (m 12))) (n 85 (n 132 (m 11) (m 287)) (n 171 (m 248) (m 324)))) (n 11 (n 12 (n 11 (m 200) (m 276)) (n 161 (m 11) (m 315))) (n 99 (n 11 (m 218) (m 296)) (n 12 (m 11) e)))) (n 22 (n 37 (n 30 (n 11 (m 195) (m 271)) (n 11 (m 232) (m 310))) (n 90 (n 137 (m 11) (m 12)) (n 11 (m 253) (m 11)))) (n 11 (n 77 (n 127 (m 205) (m 280)) (n 166 (m 243) (m 320))) (n 11 (n 12 (m 11) (m 11)) (n 184 (m 12) e))))) (n 11 (n 12 (n 11 (n 60 (n 11 (m 11) (m 12)) (n 155 (m 230) (m 308))) (n 87 (n 134 (m 212) (m 289)) (n 11 (m 250) (m 327)))) (n 47 (n 73 (n 11 (m 202) (m 278)) (n 12 (m 11) (m 317))) (n 102 (n 145 (m 12) (m 12)) (n 182 (m 259) e)))) (n 26 (n 11 (n 68 (n 121 (m 12) (m 273)) (n 11 (m 235) (m 313))) (n 94 (n 11 (m 11) (m 11)) (n 177 (m 11) e))) (n 11 (n 18 (n 12 (m 11) (m 12)) (n 168 (m 12) (m 322))) (n 107 (n 150 (m 225) (m 303)) (n 187 (m 264) e)))))) (n 5 (n 9 (n 19 (n 32 (n 58 (n 18 (m 192) (m 268)) (n 153 (m 11) (m 11))) (n 11 (n 11 (m 210) (m 11)) (n 12 (m 11) (m 325)))) (n 45 (n 11 (n 124 (m 11) (m 12)) (n 163 (m 240) (m 11))) (n 100 (n 144 (m 220) (m 298)) (n 11 (m 258) e)))) (n 24 (n 18 (n 67 (n 119 (m 197) (m 11)) (n 158 (m 233) (m 311))) (n 92 (n 12 (m 215) (m 293)) (n 176 (m 12) (m 330)))) (n 53 (n 79 (n 129 (m 12) (m 282)) (n 11 (m 245) (m 12))) (n 105 (n 11 (m 224) (m 302)) (n 185 (m 11) e))))) (n 13 (n 21 (n 35 (n 62 (n 116 (m 194) (m 11)) (n 12 (m 11) (m 11))) (n 88 (n 135 (m 12) (m 291)) (n 174 (m 251) (m 12)))) (n 18 (n 75 (n 126 (m 203) (m 11)) (n 11 (m 242) (m 318))) (n 12 (n 147 (m 222) (m 300)) (n 11 (m 261) e)))) (n 18 (n 42 (n 70 (n 12 (m 11) (m 274)) (n 160 (m 12) (m 12))) (n 30 (n 140 (m 217) (m 295)) (n 179 (m 256) e))) (n 55 (n 11 (n 11 (m 208) (m 11)) (n 169 (m 11) (m 11))) (n 109 (n 11 (m 227) (m 305)) (n 12 (m 11) e))))))) (n 2 (n 4 (n 8 (n 18 (n 12 (n 57 (n 30 (m 191) (m 267)) (n 11 (m 228) (m 306))) (n 86 (n 133 (m 12) (m 288)) (n 11 (m 249) (m 11)))) (n 44 (n 71 (n 123 (m 201) (m 11)) (n 162 (m 239) (m 316))) (n 11 (n 12 (m 219) (m 297)) (n 180 (m 12) e)))) (n 114 (n 30 (n 18 (n 118 (m 196) (m 272)) (n 157 (m 11) (m 11))) (n 91 (n 11 (m 214) (m 292)) (n 12 (m 11) (m 329)))) (n 52 (n 78 (n 128 (m 11) (m 281)) (n 167 (m 244) (m 11))) (n 104 (n 148 (m 12) (m 12)) (n 11 (m 262) e))))) (n 284 (n 20 (n 34 (n 61 (n 12 (m 12) (m 269)) (n 11 (m 231) (m 309))) (n 11 (n 11 (m 11) (m 290)) (n 173 (m 11) (m 11)))) (n 30 (n 74 (n 12 (m 11) (m 279)) (n 164 (m 12) (m 11))) (n 11 (n 146 (m 221) (m 299)) (n 183 (m 260) e)))) (n 30 (n 12 (n 69 (n 11 (m 198) (m 11)) (n 12 (m 11) (m 11))) (n 95 (n 139 (m 12) (m 12)) (n 178 (m 255) e))) (n 12 (n 83 (n 130 (m 207) (m 285)) (n 11 (m 246) (m 323))) (n 108 (n 151 (m 226) (m 304)) (n 11 (m 265) e)))))) (n 6 (n 10 (n 11 (n 33 (n 59 (n 115 (m 193) (m 11)) (n 154 (m 229) (m 307))) (n 12 (n 12 (m 211) (m 12)) (n 172 (m 12) (m 326)))) (n 46 (n 72 (n 125 (m 12) (m 277)) (n 11 (m 241) (m 12))) (n 101 (n 11 (m 11) (m 11)) (n 181 (m 11) e)))) (n 25 (n 41 (n 11 (n 120 (m 11) (m 12)) (n 159 (m 234) (m 312))) (n 93 (n 138 (m 216) (m 294)) (n 11 (m 254) (m 331)))) (n 54 (n 30 (n 11 (m 206) (m 11)) (n 12 (m 11) (m 321))) (n 106 (n 149 (m 11) (m 11)) (n 186 (m 263) e))))) (n 14 (n 11 (n 36 (n 63 (n 117 (m 11) (m 270)) (n 156 (m 12) (m 12))) (n 89 (n 136 (m 213) (m 11)) (n 175 (m 252) (m 328)))) (n 51 (n 76 (n 11 (m 204) (m 12)) (n 165 (m 11) (m 319))) (n 103 (n 11 (m 223) (m 301)) (n 12 (m 11) e)))) (n 31 (n 43 (n 11 (n 122 (m 199) (m 275)) (n 11 (m 238) (m 314))) (n 18 (n 141 (m 11) (m 11)) (n 11 (m 257) e))) (n 11 (n 84 (n 131 (m 209) (m 286)) (n 170 (m 247) (m 12))) (n 110 (n 12 (m 11) (m 11)) (n 190 (m 12) e))))))))) fun a=>n a e e
noncomputable def tX12(f:Nat->Nat->GW->Obj)(P:GW):G7:=tW12 (fun k=>.node (f (k/16) (k%16) P)) .nil
noncomputable def tW13(n:Nat->G7->G7->G7)(e:G7):G7:=(fun m:Nat->G7=>(n 0 (n 1 (n 332 (n 7 (n 17 (n 11 (n 56 (n 111 (m 11) (m 266)) (n 152 (m 12) (m 12))) (n 85 (n 132 (m 11) (m 287)) (n 171 (m 248) (m 324)))) (n 11 (n 12 (n 11 (m 200) (m 276)) (n 161 (m 11) (m 315))) (n 99 (n 11 (m 218) (m 296)) (n 12 (m 11) (m 336))))) (n 22 (n 37 (n 30 (n 11 (m 195) (m 271)) (n 11 (m 232) (m 310))) (n 90 (n 137 (m 11) (m 12)) (n 11 (m 253) (m 11)))) (n 11 (n 77 (n 127 (m 205) (m 280)) (n 166 (m 243) (m 320))) (n 11 (n 12 (m 11) (m 11)) (n 184 (m 12) e))))) (n 11 (n 12 (n 11 (n 60 (n 11 (m 11) (m 12)) (n 155 (m 230) (m 308))) (n 87 (n 134 (m 212) (m 289)) (n 11 (m 250) (m 327)))) (n 47 (n 73 (n 11 (m 202) (m 278)) (n 12 (m 11) (m 317))) (n 102 (n 145 (m 12) (m 12)) (n 182 (m 259) (m 338))))) (n 26 (n 11 (n 68 (n 121 (m 12) (m 273)) (n 11 (m 235) (m 313))) (n 94 (n 11 (m 11) (m 11)) (n 177 (m 11) (m 11)))) (n 11 (n 18 (n 12 (m 11) (m 12)) (n 168 (m 12) (m 322))) (n 107 (n 150 (m 225) (m 303)) (n 187 (m 264) e)))))) (n 5 (n 9 (n 19 (n 32 (n 58 (n 18 (m 192) (m 268)) (n 153 (m 11) (m 11))) (n 11 (n 11 (m 210) (m 11)) (n 12 (m 11) (m 325)))) (n 45 (n 11 (n 124 (m 11) (m 12)) (n 163 (m 240) (m 11))) (n 100 (n 144 (m 220) (m 298)) (n 11 (m 258) (m 12))))) (n 24 (n 18 (n 67 (n 119 (m 197) (m 11)) (n 158 (m 233) (m 311))) (n 92 (n 12 (m 215) (m 293)) (n 176 (m 12) (m 330)))) (n 53 (n 79 (n 129 (m 12) (m 282)) (n 11 (m 245) (m 12))) (n 105 (n 11 (m 224) (m 302)) (n 185 (m 11) e))))) (n 13 (n 21 (n 35 (n 62 (n 116 (m 194) (m 11)) (n 12 (m 11) (m 11))) (n 88 (n 135 (m 12) (m 291)) (n 174 (m 251) (m 12)))) (n 18 (n 75 (n 126 (m 203) (m 11)) (n 11 (m 242) (m 318))) (n 12 (n 147 (m 222) (m 300)) (n 11 (m 261) e)))) (n 18 (n 42 (n 70 (n 12 (m 11) (m 274)) (n 160 (m 12) (m 12))) (n 30 (n 140 (m 217) (m 295)) (n 179 (m 256) (m 334)))) (n 55 (n 11 (n 11 (m 208) (m 11)) (n 169 (m 11) (m 11))) (n 109 (n 11 (m 227) (m 305)) (n 12 (m 11) e))))))) (n 2 (n 4 (n 8 (n 18 (n 12 (n 57 (n 30 (m 191) (m 267)) (n 11 (m 228) (m 306))) (n 86 (n 133 (m 12) (m 288)) (n 11 (m 249) (m 11)))) (n 44 (n 71 (n 123 (m 201) (m 11)) (n 162 (m 239) (m 316))) (n 11 (n 12 (m 219) (m 297)) (n 180 (m 12) (m 11))))) (n 114 (n 30 (n 18 (n 118 (m 196) (m 272)) (n 157 (m 11) (m 11))) (n 91 (n 11 (m 214) (m 292)) (n 12 (m 11) (m 329)))) (n 52 (n 78 (n 128 (m 11) (m 281)) (n 167 (m 244) (m 11))) (n 104 (n 148 (m 12) (m 12)) (n 11 (m 262) e))))) (n 333 (n 20 (n 34 (n 61 (n 12 (m 12) (m 269)) (n 11 (m 231) (m 309))) (n 11 (n 11 (m 11) (m 290)) (n 173 (m 11) (m 11)))) (n 30 (n 74 (n 12 (m 11) (m 279)) (n 164 (m 12) (m 11))) (n 11 (n 146 (m 221) (m 299)) (n 183 (m 260) (m 339))))) (n 30 (n 12 (n 69 (n 11 (m 198) (m 11)) (n 12 (m 11) (m 11))) (n 95 (n 139 (m 12) (m 12)) (n 178 (m 255) (m 12)))) (n 12 (n 83 (n 130 (m 207) (m 285)) (n 11 (m 246) (m 323))) (n 108 (n 151 (m 226) (m 304)) (n 11 (m 265) e)))))) (n 6 (n 10 (n 11 (n 33 (n 59 (n 115 (m 193) (m 11)) (n 154 (m 229) (m 307))) (n 12 (n 12 (m 211) (m 12)) (n 172 (m 12) (m 326)))) (n 46 (n 72 (n 125 (m 12) (m 277)) (n 11 (m 241) (m 12))) (n 101 (n 11 (m 11) (m 11)) (n 181 (m 11) (m 337))))) (n 25 (n 41 (n 11 (n 120 (m 11) (m 12)) (n 159 (m 234) (m 312))) (n 93 (n 138 (m 216) (m 294)) (n 11 (m 254) (m 331)))) (n 54 (n 30 (n 11 (m 206) (m 11)) (n 12 (m 11) (m 321))) (n 106 (n 149 (m 11) (m 11)) (n 186 (m 263) e))))) (n 14 (n 11 (n 36 (n 63 (n 117 (m 11) (m 270)) (n 156 (m 12) (m 12))) (n 89 (n 136 (m 213) (m 11)) (n 175 (m 252) (m 328)))) (n 51 (n 76 (n 11 (m 204) (m 12)) (n 165 (m 11) (m 319))) (n 103 (n 11 (m 223) (m 301)) (n 12 (m 11) e)))) (n 31 (n 43 (n 11 (n 122 (m 199) (m 275)) (n 11 (m 238) (m 314))) (n 18 (n 141 (m 11) (m 11)) (n 11 (m 257) (m 335)))) (n 11 (n 84 (n 131 (m 209) (m 286)) (n 170 (m 247) (m 12))) (n 110 (n 12 (m 11) (m 11)) (n 190 (m 12) e))))))))) fun a=>n a e e
noncomputable def tX13(f:Nat->Nat->GW->Obj)(P:GW):G7:=tW13 (fun k=>.node (f (k/16) (k%16) P)) .nil
noncomputable def hX0(f:Nat->Nat->GW->Obj)(P:GW):Heap:=(fun g:Nat->Obj=>(⟨⟨[g 0,g 1,g 2,g 3,g 4,g 5,g 6,g 7,g 8,g 9,g 10,g 11,g 12,g 13,g 14]⟩,{}⟩:Heap)) fun k=>f (k/16) (k%16) P
noncomputable def hX1(f:Nat->Nat->GW->Obj)(P:GW):Heap:=(fun g:Nat->Obj=>(⟨⟨[g 0,g 1,g 2,g 332,g 4,g 5,g 6,g 7,g 8,g 9,g 10,g 11,g 333,g 13,g 14,g 17,g 18,g 19,g 11,g 12,g 20,g 21,g 11,g 22,g 114,g 24,g 25,g 26,g 30,g 18,g 31,g 11,g 12,g 32,g 33,g 11,g 34,g 35,g 36,g 37,g 30,g 18,g 41,g 11,g 12,g 42,g 43,g 11,g 44,g 45,g 46,g 47,g 30,g 18,g 51,g 11,g 52,g 53,g 54,g 11,g 12,g 55,g 11,g 56,g 57,g 58,g 59,g 60,g 61,g 62,g 63,g 30,g 18,g 67,g 11,g 68,g 69,g 70,g 11,g 12,g 71,g 11,g 72,g 73,g 74,g 75,g 76,g 77,g 78,g 79,g 30,g 18,g 83,g 11,g 84,g 85,g 86,g 11,g 12,g 87,g 11,g 88,g 89,g 90,g 91,g 92,g 93,g 94,g 95,g 30,g 18,g 99,g 11,g 100,g 101,g 102,g 11,g 12,g 103,g 11,g 104,g 105,g 106,g 107,g 108,g 109,g 110,g 111,g 30,g 18,g 115,g 11,g 12,g 116,g 117,g 11,g 118,g 119,g 120,g 121,g 11,g 12,g 122,g 11,g 123,g 124,g 125,g 11,g 12,g 126,g 11,g 127,g 128,g 129,g 11,g 12,g 130,g 11,g 131,g 132,g 133,g 11,g 12,g 134,g 11,g 135,g 136,g 137,g 11,g 12,g 138,g 11,g 139,g 140,g 141,g 11,g 12,g 144,g 11,g 145,g 146,g 147,g 11,g 12,g 148,g 11,g 149,g 150,g 151,g 11,g 12,g 152,g 11,g 153,g 154,g 155,g 11,g 12,g 156,g 11,g 157,g 158,g 159,g 11,g 12,g 160,g 11,g 161,g 162,g 163,g 11,g 12,g 164,g 11,g 165,g 166,g 167,g 11,g 12,g 168,g 11,g 169,g 170,g 171,g 11,g 12,g 172,g 11,g 173,g 174,g 175,g 11,g 12,g 176,g 11,g 177,g 178,g 179,g 11,g 12,g 180,g 11,g 181,g 182,g 183,g 11,g 12,g 184,g 11,g 185,g 186,g 187,g 11,g 12,g 190,g 11,g 191,g 192,g 193,g 11,g 12,g 194,g 11,g 195,g 196,g 197,g 11,g 12,g 198,g 11,g 199,g 200,g 201,g 11,g 12,g 202,g 11,g 203,g 204,g 205,g 11,g 12,g 206,g 11,g 207,g 208,g 209,g 11,g 12,g 210,g 211,g 212,g 11,g 12,g 213,g 11,g 214,g 215,g 216,g 11,g 12,g 217,g 11,g 218,g 219,g 220,g 11,g 12,g 221,g 222,g 223,g 11,g 12,g 224,g 11,g 225,g 226,g 227,g 11,g 12,g 228,g 11,g 229,g 230,g 231,g 11,g 12,g 232,g 11,g 233,g 234,g 235,g 11,g 12,g 238,g 11,g 239,g 240,g 241,g 11,g 12,g 242,g 11,g 243,g 244,g 245,g 11,g 12,g 246,g 11,g 247,g 248,g 249,g 11,g 12,g 250,g 11,g 251,g 252,g 253,g 11,g 12,g 254,g 11,g 255,g 256,g 257,g 11,g 12,g 258,g 11,g 259,g 260,g 261,g 11,g 12,g 262,g 11,g 263,g 264,g 265,g 11,g 12,g 266,g 267,g 268,g 11,g 12,g 269,g 11,g 270,g 271,g 272,g 11,g 12,g 273,g 11,g 274,g 275,g 276,g 11,g 12,g 277,g 278,g 279,g 11,g 12,g 280,g 281,g 282,g 11,g 12,g 285,g 11,g 286,g 287,g 288,g 11,g 12,g 289,g 290,g 291,g 11,g 12,g 292,g 293,g 294,g 11,g 12,g 295,g 11,g 296,g 297,g 298,g 11,g 12,g 299,g 300,g 301,g 11,g 12,g 302,g 11,g 303,g 304,g 305,g 11,g 12,g 306,g 11,g 307,g 308,g 309,g 11,g 12,g 310,g 11,g 311,g 312,g 313,g 11,g 12,g 314,g 315,g 316,g 11,g 12,g 317,g 11,g 318,g 319,g 320,g 11,g 12,g 321,g 322,g 323,g 11,g 12,g 324,g 11,g 325,g 326,g 327,g 11,g 12,g 328,g 11,g 329,g 330,g 331,g 11,g 12,g 334,g 335,g 336,g 11,g 12,g 337,g 338,g 339]⟩,{}⟩:Heap)) fun k=>f (k/16) (k%16) P
theorem laid:(fun(_:Hi) (_:Hi) (_:Nat->Nat->GW->Obj) (_:List Stmt) (_:List Stmt) (_:List Stmt) (_:List Stmt) (_:List Stmt) (_:List Stmt) (_:List Stmt) (_:List Stmt) (_:List Stmt) (_:List Stmt) (_:List Stmt) (_:List Stmt) (_:List Stmt)=>true) pw2 vw fA sx0 sx1 sx2 sx3 sx4 sx5 sx6 sx7 sx8 sx9 sx10 sx11 sx12=true:=by k_qdec
end QQ
namespace PySem.W.Fast
noncomputable def tw10019166564037177717:Hi:=tw4061903402435717205
theorem te10019166564037177717:HE=tw10019166564037177717:=Eq.trans (by kernel_rfl:HE=QQ.pw2) te4061903402435717205
noncomputable def tw10091010322274227832:Hi:=tw2543460329597916322
theorem te10091010322274227832:QQ.vw=tw10091010322274227832:=te2543460329597916322
noncomputable def tw17675651251162965020:List Stmt:=tw4220349153739756805
theorem te17675651251162965020:QQ.sx0=tw17675651251162965020:=te4220349153739756805
noncomputable def tw11796372987055098061:List Stmt:=tw11397161696757032129
theorem te11796372987055098061:QQ.sx1=tw11796372987055098061:=te11397161696757032129
noncomputable def tw6985503342426881630:List Stmt:=tw10303515436491237874
theorem te6985503342426881630:QQ.sx2=tw6985503342426881630:=te10303515436491237874
noncomputable def tw17551101357805297028:List Stmt:=tw12358083906500975388
theorem te17551101357805297028:QQ.sx3=tw17551101357805297028:=te12358083906500975388
noncomputable def tw10015061010563915086:List Stmt:=tw2861187580803015100
theorem te10015061010563915086:QQ.sx4=tw10015061010563915086:=te2861187580803015100
noncomputable def tw8181726931322390030:List Stmt:=tw9932084693255007381
theorem te8181726931322390030:QQ.sx5=tw8181726931322390030:=te9932084693255007381
noncomputable def tw18361975411382725954:List Stmt:=tw1890974291257386441
theorem te18361975411382725954:QQ.sx6=tw18361975411382725954:=te1890974291257386441
noncomputable def tw7757444422312245846:List Stmt:=tw11967835380637100291
theorem te7757444422312245846:QQ.sx7=tw7757444422312245846:=te11967835380637100291
noncomputable def tw1814354870767939612:List Stmt:=tw17779941298030502338
theorem te1814354870767939612:QQ.sx8=tw1814354870767939612:=te17779941298030502338
noncomputable def tw4828129716111079810:List Stmt:=tw17991644005593546017
theorem te4828129716111079810:QQ.sx9=tw4828129716111079810:=te17991644005593546017
noncomputable def tw6452094885848228342:List Stmt:=tw1963477239447466229
theorem te6452094885848228342:QQ.sx10=tw6452094885848228342:=te1963477239447466229
noncomputable def tw3685557157376426688:List Stmt:=tw9135815729137251366
theorem te3685557157376426688:QQ.sx11=tw3685557157376426688:=te9135815729137251366
noncomputable def tw10714167780720479487:List Stmt:=tw5081009958689482214
theorem te10714167780720479487:QQ.sx12=tw10714167780720479487:=te5081009958689482214
noncomputable def tw13462947700862177191:GW->BT:=QQ.tX0 tw16523235828492288951
theorem te13462947700862177191:QQ.tX0 QQ.fA=tw13462947700862177191:=congrArg QQ.tX0 te16523235828492288951
noncomputable def tw355748119320630450:GW->BT:=QQ.tX1 tw16523235828492288951
theorem te355748119320630450:QQ.tX1 QQ.fA=tw355748119320630450:=congrArg QQ.tX1 te16523235828492288951
noncomputable def tw16219894914163759196:GW->BT:=QQ.tX2 tw16523235828492288951
theorem te16219894914163759196:QQ.tX2 QQ.fA=tw16219894914163759196:=congrArg QQ.tX2 te16523235828492288951
noncomputable def tw10681664902156060790:GW->BT:=QQ.tX3 tw16523235828492288951
theorem te10681664902156060790:QQ.tX3 QQ.fA=tw10681664902156060790:=congrArg QQ.tX3 te16523235828492288951
noncomputable def tw6022782663514959492:GW->BT:=QQ.tX4 tw16523235828492288951
theorem te6022782663514959492:QQ.tX4 QQ.fA=tw6022782663514959492:=congrArg QQ.tX4 te16523235828492288951
noncomputable def tw11983679497278371901:GW->BT:=QQ.tX5 tw16523235828492288951
theorem te11983679497278371901:QQ.tX5 QQ.fA=tw11983679497278371901:=congrArg QQ.tX5 te16523235828492288951
noncomputable def tw8372962728353418421:GW->BT:=QQ.tX6 tw16523235828492288951
theorem te8372962728353418421:QQ.tX6 QQ.fA=tw8372962728353418421:=congrArg QQ.tX6 te16523235828492288951
noncomputable def tw15437080627869031111:GW->BT:=QQ.tX7 tw16523235828492288951
theorem te15437080627869031111:QQ.tX7 QQ.fA=tw15437080627869031111:=congrArg QQ.tX7 te16523235828492288951
noncomputable def tw4429622588192217406:GW->BT:=QQ.tX8 tw16523235828492288951
theorem te4429622588192217406:QQ.tX8 QQ.fA=tw4429622588192217406:=congrArg QQ.tX8 te16523235828492288951
noncomputable def tw3837436064750060105:GW->BT:=QQ.tX9 tw16523235828492288951
theorem te3837436064750060105:QQ.tX9 QQ.fA=tw3837436064750060105:=congrArg QQ.tX9 te16523235828492288951
noncomputable def tw4760485516929215336:GW->BT:=QQ.tX10 tw16523235828492288951
theorem te4760485516929215336:QQ.tX10 QQ.fA=tw4760485516929215336:=congrArg QQ.tX10 te16523235828492288951
noncomputable def tw8703304070907353666:GW->BT:=QQ.tX11 tw16523235828492288951
theorem te8703304070907353666:QQ.tX11 QQ.fA=tw8703304070907353666:=congrArg QQ.tX11 te16523235828492288951
noncomputable def tw15042995066023329795:GW->BT:=QQ.tX12 tw16523235828492288951
theorem te15042995066023329795:QQ.tX12 QQ.fA=tw15042995066023329795:=congrArg QQ.tX12 te16523235828492288951
noncomputable def tw4774061641667847793:GW->BT:=QQ.tX13 tw16523235828492288951
theorem te4774061641667847793:QQ.tX13 QQ.fA=tw4774061641667847793:=congrArg QQ.tX13 te16523235828492288951
noncomputable def tw8125853768655280197:GW->PySem.Heap:=QQ.hX0 tw16523235828492288951
theorem te8125853768655280197:QQ.hX0 QQ.fA=tw8125853768655280197:=congrArg QQ.hX0 te16523235828492288951
noncomputable def tw7072322936151854248:GW->PySem.Heap:=QQ.hX1 tw16523235828492288951
theorem te7072322936151854248:QQ.hX1 QQ.fA=tw7072322936151854248:=congrArg QQ.hX1 te16523235828492288951
end PySem.W.Fast
open PySem PySem.W PyProof.Rows
set_option maxRecDepth 100000 in
set_option maxHeartbeats 0 in
theorem PySem.Challenge.cw_spotlook_k75_wrong_rows_together_holds : PySem.Challenge.rw_spotlook_k75_wrong_rows_together.Holds := by
 w_on;o_law;o_head (PySem.W.kHook QQ.kK [↑2,↑3,↑23,↑24,↑36,↑37,↑48,↑49,↑64,↑65,↑67,↑68,↑83,↑84,↑86,↑87,↑102,↑103,↑105,↑106,↑121,↑122,↑124,↑125,↑136,↑137,↑145,↑146,↑152,↑153,↑159,↑160,↑166,↑167,↑173,↑174,↑180,↑181,↑187,↑188,↑194,↑195,↑201,↑202,↑208,↑209,↑215,↑216,↑222,↑223,↑229,↑230,↑236,↑237,↑243,↑244,↑250,↑251,↑257,↑258,↑264,↑265,↑271,↑272,↑278,↑279,↑285,↑286,↑290,↑291,↑297,↑298,↑304,↑305,↑309,↑310,↑316,↑317,↑323,↑324,↑330,↑331,↑337,↑338,↑344,↑345,↑351,↑352,↑358,↑359,↑365,↑366,↑372,↑373,↑379,↑380,↑384,↑385,↑391,↑392,↑398,↑399,↑403,↑404,↑408,↑409,↑415,↑416,↑420,↑421,↑425,↑426,↑432,↑433,↑437,↑438,↑444,↑445,↑451,↑452,↑458,↑459,↑463,↑464,↑470,↑471,↑475,↑476,↑482,↑483,↑489,↑490,↑494,↑495,↑499,↑500] (fun _=>by kernel_rfl));(case hw=>w_witness2)
 k_fill
 refine SD.yG (k:=12) (x:="_law_script") (sp:=QQ.jY) (l:=PySem.Challenge.rw_spotlook_k75_wrong_rows_together) rfl rfl ⟨rfl,by decide,by decide⟩ (fun w h Y=>PySem.W.kIn_of Y) ?F QQ.CY
 case F=>
  intro w mg fa h KX G hmg
  have T:QQ.Tx (L2.KOf KX) mg:=by
   dsimp only[L2.KOf]
   constructor
   all_goals first
    |(refine' SD.Al)
    |(refine' SD.EK KX G ?a;(case a=>k_is))
    |(refine' SD.Gi ?a ?b;(case a=>k_is);(case b=>k_exc))
    |(refine' SD.Be ?a ?b;(case a=>k_is);(case b=>k_is))
    |(refine' SD.Br ?a ?b ?c ?d;(case a=>k_is);(case b=>k_is);(case c=>k_is);(case d=>k_is))
    |(refine' SD.D3 ?a ?b ?c;(case a=>k_is);(case b=>k_is);(case c=>k_is))
    |(refine' SD.Cy ?a ?b;(case a=>k_is);(case b=>k_is))
    |(refine' SD.E1 ?a ?b;(case a=>k_is);(case b=>k_is))
    |(refine' SD.Ae ?a ?b ?l ?lN ?ok ?ni ?e ?fn ?kp ?hd ?sa ?ob ?lf ?cf ?kf;(case a=>k_is);(case b=>k_is);(case l=>k_is);(case lN=>k_is);(case ok=>rfl);(case ni=>k_is);(case e=>k_exc);(case fn=>k_is);(case kp=>k_is);(case hd=>k_is);(case sa=>k_is);(case ob=>k_is);(case lf=>k_is);(case cf=>k_is);(case kf=>k_is))
    |(refine' SD.Ef ?a ?b ?c ?d ?e ?f ?g;(case a=>k_is);(case b=>k_is);(case c=>k_is);(case d=>k_is);(case e=>k_is);(case f=>k_is);(case g=>k_is))
    |(refine' SD.AI ?a ?b (by decide +kernel);(case a=>k_is);(case b=>k_is))
    |(refine' SD.Dr ?a ?b ?c ?d ?e;(case a=>k_is);(case b=>k_is);(case c=>k_is);(case d=>k_is);(case e=>with_unfolding_all rfl))
    |(refine' SD.EJ KX G ?a;(case a=>k_is))
    |(refine' PySem.W.mg_none_of KX G ?a;(case a=>k_is))
    |(refine' SD.Txt.mk KX G ?a ?l ?c ?k;(case a=>k_is);(case l=>k_is);(case c=>k_is);(case k=>k_is))
  exact QQ.FQ T hmg
