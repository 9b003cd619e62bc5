import PyProof.Rows.All
import Wide.All
import OpenK.AllK
import Wide.FinOn
import Lean
import PyProof.EqAt
import PyProof.EqKinds
import PyProof.TupleCall
import PySem.Challenge.RW_spotlook_k65_texts_that_are_no_questions
open Array renaming all_eq_true_iff_forall_mem->Ip,length_toList->IQ
open Bool renaming false_ne_true->G5,and_eq_true->GG,eq_iff_iff->GU,not_eq_true'->Hu,or_eq_true->Ja
open False renaming elim->Ij
open Int renaming sign_eq_neg_one_of_neg->GK,sign->GW,sign_eq_one_of_pos->GY,lt_trichotomy->Ht,mul_pos->HX,mul_le_mul_of_nonneg_left->IG,mul_eq_zero->IM,ofNat->Jk
open List renaming length_map->G7,mem_cons_of_mem->Gr,getElem?_map->Gs,toArray->Gv,size_toArray->Gz,map_cons->GH,mem_of_getElem?->GL,getElem?_eq_some_iff->GN,mem_cons->GO,length_cons->GP,getElem?_eq_getElem->GQ,mem_cons_self->GR,mem_append->GS,mem_singleton->GX,getElem?_append_right->Hm,mem_append_right->Hn,getElem?_append_left->Hq,getElem?_eq_none->Hx,map->Hz,range->HD,length_nil->HI,map_append->HJ,length_append->HM,lookup_cons->HR,all_eq_true->HS,zip_cons_cons->Ic,mem_map->Ig,append_nil->Iq,any_cons->Iz,filterMap_cons->IP,lookup->IV,mem_filterMap->IZ,replicate->J0,reverse_cons->Jd
open Nat renaming lt_of_lt_of_le->G6,le_refl->G9,le_trans->Gy,ne_of_lt->GZ,lt_irrefl->Im,zero_le->IU
open Option renaming bind_some->Ha
open PyProof.Rows renaming IntsAre->HN
open PySem renaming Value->G0,wpAny_bind->G2,Shared->G3,sizeLine->Gp,Params->Gq,wpAny_pure->Gw,starEach->Gx,wpAny->GA,Program->GC,model->GD,compareOp->GF,mainGlobals->Hb,World->Hd,Around->He,mem_of_lookup->Hh,bootBuiltins->Hj,wpAny_mono->Hl,assignEach->Hv,wpAny_truthy_bool->HF,DictEntry->HL,wpAny_loadPart'->HP,wpAny_holding->HQ,wpAny_newObj_type->HY,foldedSetIterable->HZ,backTo->Ik,cellsFrom->Il,Spec->Io,binaryOp->Iu,attributeBase->Iw,FuncData->IC,wpAny_pyNext_tuple_item->II,wpAny_getItem_str_slice->IK,NameKind->IS,typeIs_str->J1,wpAny_tryCatch->J3,wpAny_passesOwn->J5,codeAny_builtin->J7,Scope->Jb,cLine->Jc,codeAny_call_builtin->Je,wpAny_standAt->Jg,plainId_quiet->Jh,PyData->Jj
open PySem.Around renaming under_plainId->IE
open PySem.Builtin.ObjectAttr renaming storeInDict->Iv
open PySem.Builtin.Tuple renaming tupleCompareSizes->Ir
open PySem.Challenge renaming pw_spotlook_k65_texts_that_are_no_questions->GI
open PySem.EntryCells renaming newEntry->IT
open PySem.F renaming slot_str_getitem->IB,plain_max_loop->IX,plain_min_loop->IY
open PySem.Heap renaming get?_push_of_some->G4,lt_size->Gu,get?_push_size->GB,get?_update_other->GJ,get?_update_self->HH,size_push->J2
open PySem.NameKind renaming free->IW
open PySem.PassesOwn renaming never->HE
open PySem.PyData renaming eqvAll->GV,eqv->Hc,canLayAll0->Hi,depthAll->HK,strOk->Iy,canLay0->IF
open PySem.Sem renaming wp_bind'->Hs
open PySem.SeqAt renaming shaped->Ia
open PySem.Str renaming ofString->G1,join->Hg,empty->Ih
open PySem.StrLaws renaming join_split->J4
open PySem.Txt renaming split->Hf,partition->HG,slice->Ii,startswith->IH,slice_le->Jf
open PySem.Value renaming ref->Hy,none->HC,bool->Ib,builtin->IA
open PySem.W renaming Frag->cc,BT->G8,subIn->Hk,nsIn->Hr,kitOne->Hw,fnOf->Ie,keepIn->ID,hasDictIn->IJ,kia_one->J6,excIn->Ji
open Rat renaming num_divInt_den->Ho,intCast_mul->IL,intCast_sub->J9
local macro_rules | `(↑$n:num) => `(nat_lit $n)
set_option Elab.async false
set_option linter.all false
set_option maxRecDepth 100000
set_option maxHeartbeats 4000000
theorem nbL{n m:Nat}(h:Nat.ble n m=true):n<=m:=Nat.le_of_ble_eq_true h
namespace L2
open PySem PySem.Spec PyProof.Rows
abbrev Key:=Sum Int Str
def Bn:Key->G0->Bool
 |.inl k,v=>Value.isInt k v
 |.inr x,v=>Value.isStrOf x v
def F6(w:Hd):Key->Int
 |.inl k=>hashInt k
 |.inr x=>hashStr w x
theorem bU:∀{k:Key} {v:G0},Bn k v=true->(∃i t,k=Sum.inl i/\v=Value.int i t)\/(∃x t,k=Sum.inr x/\v=Value.str x t)
 |.inl i,v,h=>by
  obtain⟨t,e⟩:=Value.isInt_shape (k:=i) (v:=v) h
  exact .inl ⟨i,t,rfl,e⟩
 |.inr x,v,h=>by
  obtain⟨t,e⟩:=Value.isStrOf_shape (x:=x) (v:=v) h
  exact .inr ⟨x,t,rfl,e⟩
theorem B8(a b:Int):decide ((Sum.inl a:Key)=Sum.inl b)=(a==b):=by
 by_cases e:a=b
 ·subst e;simp
 ·have h:¬(Sum.inl a:Key)=Sum.inl b:=fun q=>e (Sum.inl.inj q);rw[decide_eq_false h];exact(beq_eq_false_iff_ne.mpr e).symm
theorem CS(a b:Str):decide ((Sum.inr a:Key)=Sum.inr b)=decide (a=b):=by
 by_cases e:a=b
 ·subst e;simp
 ·have h:¬(Sum.inr a:Key)=Sum.inr b:=fun q=>e (Sum.inr.inj q);rw[decide_eq_false h,decide_eq_false e]
theorem Cq(a:Int)(b:Str):decide ((Sum.inl a:Key)=Sum.inr b)=false:=decide_eq_false (fun q=>nomatch q)
theorem Cs(a:Str)(b:Int):decide ((Sum.inr a:Key)=Sum.inl b)=false:=decide_eq_false (fun q=>nomatch q)
def oa(prog:GC)(w:Hd):PySem.KeyKind prog w Key where
 is:=Bn
 hash:=F6 w
 inj:=fun v a b ha hb=>by
  rcases bU ha with⟨i,t,rfl,rfl⟩|⟨x,t,rfl,rfl⟩
  ·rcases bU hb with⟨j,u,rfl,e⟩|⟨y,u,rfl,e⟩
   ·injection e with e1 _;rw[e1]
   ·exact nomatch e
  ·rcases bU hb with⟨j,u,rfl,e⟩|⟨y,u,rfl,e⟩
   ·exact nomatch e
   ·injection e with e1 _;rw[e1]
 byValue:=fun k v h=>by
  rcases bU h with⟨i,t,rfl,rfl⟩|⟨x,t,rfl,rfl⟩<;>rfl
 pyHash:=fun hv h=>by
  rcases bU hv with⟨i,t,rfl,rfl⟩|⟨x,t,rfl,rfl⟩
  ·exact wpAny_pyHash_int h
  ·exact wpAny_pyHash_str h
 eqBool:=fun hu hv h=>by
  rcases bU hu with⟨i,t,rfl,rfl⟩|⟨x,t,rfl,rfl⟩
  ·rcases bU hv with⟨j,u,rfl,rfl⟩|⟨y,u,rfl,rfl⟩
   ·rw[B8]at h;exact wpAny_eqBool_int h
   ·rw[Cq]at h;exact SeqAt.EqAt.int_str i t y u _ _ _ _ h
  ·rcases bU hv with⟨j,u,rfl,rfl⟩|⟨y,u,rfl,rfl⟩
   ·rw[Cs]at h;exact SeqAt.EqAt.str_int x t j u _ _ _ _ h
   ·rw[CS]at h;exact wpAny_eqBool_str h
 «strs»:=fun k x t v h=>by
  rcases bU h with⟨i,u,rfl,e⟩|⟨y,u,rfl,e⟩
  ·exact nomatch e
  ·injection e with e1 _
   subst e1
   cases v<;>rfl
inductive V where
 |non|bl (b:Bool)|int (i:Int)|str (x:Str)|byt (b:Array UInt8)|flt (b:UInt64)|ref (a:Addr)|ty (n:String)
 deriving DecidableEq
def RelV:V->G0->Prop
 |.non,u=>u=HC
 |.bl b,u=>u=Ib b
 |.int i,u=>∃t,u=Value.int i t
 |.str x,u=>∃t,u=Value.str x t
 |.byt b,u=>∃t,u=Value.bytes b t
 |.flt b,u=>∃t,u=Value.float b t
 |.ref a,u=>u=Hy a
 |.ty n,u=>u=Value.type n
abbrev Vals:List V->List G0->Prop:=Paired RelV
theorem Vals.length{xs:List V}{us:List G0}(r:Vals xs us):xs.length=us.length:=Paired.length r
theorem Vals.get:∀{xs:List V} {us:List G0} {i:Nat} {x:V},Vals xs us->xs[i]?=some x->∃u,us[i]?=some u/\RelV x u
 |_,_,_,_,.nil,e=>by simp at e
 |_,_,0,_,.cons r _,e=>by simp at e;subst e;exact⟨_,rfl,r⟩
 |_,_,i+1,x,.cons _ t,e=>by
  obtain⟨u,h1,h2⟩:=Vals.get (i:=i) (x:=x) t (by simpa using e)
  exact⟨u,by simpa using h1,h2⟩
theorem Vals.set{x:V}{u:G0}(r:RelV x u):∀{xs:List V} {us:List G0} (i:Nat),Vals xs us->Vals (xs.set i x) (us.set i u)
 |_,_,_,.nil=>.nil
 |_,_,0,.cons _ t=>.cons r t
 |_,_,i+1,.cons q t=>.cons q (Vals.set r i t)
theorem Vals.append:∀{xs ys:List V} {us ws:List G0},Vals xs us->Vals ys ws->Vals (xs++ys) (us++ws)
 |_,_,_,_,.nil,s=>s
 |_,_,_,_,.cons r t,s=>.cons r (Vals.append t s)
theorem Vals.take:∀{xs:List V} {us:List G0} (n:Nat),Vals xs us->Vals (xs.take n) (us.take n)
 |_,_,0,_=>.nil
 |_,_,_+1,.nil=>.nil
 |_,_,n+1,.cons r t=>.cons r (Vals.take n t)
theorem Vals.drop:∀{xs:List V} {us:List G0} (n:Nat),Vals xs us->Vals (xs.drop n) (us.drop n)
 |_,_,0,r=>r
 |_,_,_+1,.nil=>.nil
 |_,_,n+1,.cons _ t=>Vals.drop n t
def qi:Option V->Option G0->Prop
 |some v,some u=>RelV v u
 |none,none=>True
 |_,_=>False
def KV{κ:Type}:List (κ×V)->List (κ×G0)->Prop:=Paired fun(p:κ×V) (q:κ×G0)=>p.1=q.1/\RelV p.2 q.2
def kV:Key->V
 |.inl i=>.int i
 |.inr x=>.str x
inductive HO where
 |lst (xs:List V)
 |tup (xs:List V)
 |dK (kvs:List (Key×V))|dT (kvs:List (List Key×V))
 |set (S:Int->Bool) (n:Nat)
 |ins (C dx:Addr) (fs:List (Str×V))
 |own (x:Addr)
 |xd (fs:List (Str×V))
 |met (f x:Addr)
 |rng (lo hi:Int)
 |frz (o:Obj) (u:HO)
 |tbl (ps:Array G0)
 |ext (φ:Heap->Prop)
abbrev Hp:=Addr->Option HO
def upd(H:Hp)(a:Addr)(o:HO):Hp:=fun b=>if b=a then some o else H b
theorem aW{H:Hp}{a:Addr}{o:HO}:upd H a o a=some o:=by unfold upd;rw[if_pos rfl]
theorem aQ{H:Hp}{a b:Addr}{o:HO}(h:b≠a):upd H a o b=H b:=by unfold upd;rw[if_neg h]
theorem zg{H:Hp}{a:Addr}{o u:HO}:upd (upd H a o) a u=upd H a u:=by funext b;unfold upd;split<;>rfl
theorem d3{H:Hp}{a b:Addr}{o:HO}(h:H a=some o)(h':H b=none):a≠b:=by intro e;subst e;rw[h]at h';cases h'
section
variable(P:GC)(w:Hd)
def cY(H:Hp)(h:Heap)(a:Addr):HO->Prop
 |.lst xs=>xs.length<=Gp/\∃(its:List G0) (n:Nat),Vals xs its/\h.get? a=some { cls:=.type "list",data:=.seq its.toArray n }
 |.tup xs=>xs.length<=Gp/\∃its:List G0,Vals xs its/\IsTup h a its.toArray
 |.dK kvs=>kvs.length<=Gp/\(a==sysModules)=false/\∃vs,KV kvs vs/\h.DictOf (oa P w) a vs
 |.dT kvs=>kvs.length<=Gp/\(a==sysModules)=false/\∃xs:List (List Key×Addr×G0),
  Paired (fun(p:List Key×V) (q:List Key×Addr×G0)=>p.1=q.1/\H q.2.1=some (.tup (p.1.map kV))/\RelV p.2 q.2.2) kvs xs/\
  ∃o es ep,h.get? a=some o/\o.ExactDict/\o.data=.dict es ep/\es.toList=xs.map (entryOfKey (tupleKind (oa P w)))/\(xs.map (·.1)).Nodup
 |.set S n=>h.SetOf (intKind P w) a S n
 |.ins C dx fs=>H dx=some (.own a)/\fs.length<=1000/\dx≠a/\h.get? a=some (PySem.W.instObj C dx)/\
  ∃mA,h.Ns1 dx mA/\(∀f,qi (fs.lookup f) (mA f))/\PySem.Within mA (fs.map (·.1))
 |.own _=>∃o,h.get? a=some o
 |.xd fs=>∃mA,h.Ns1 a mA/\∀f,qi (fs.lookup f) (mA f)
 |.rng lo hi=>∃t u v,h.get? a=some { cls:=.type "range",data:=.fields #[.int lo t,.int hi u,.int 1 v] }
 |.frz o u=>h.get? a=some o/\cY H h a u
 |.tbl ps=>h.get? a=some { cls:=.none,data:=.fields ps }
 |.met f x=>h.get? a=some (PySem.W.methodObj (.ref f) (.ref x))
 |.ext φ=>φ h/\(∃o,h.get? a=some o)/\∀h1 h2:Heap,φ h1->(∀o,h1.get? a=some o->h2.get? a=some o)->φ h2
def HOk(H:Hp)(h:Heap):Prop:=∀a o,H a=some o->cY P w H h a o
end
section
variable{P:GC}{w:Hd}{H H':Hp}{h h':Heap}{a:Addr}{o:HO}
theorem cY.lt(x:cY P w H h a o):a<h.objs.size:=by
 cases o with
 |lst xs=>obtain⟨_,_,_,_,e⟩:=x;exact Gu e
 |tup xs=>obtain⟨_,_,_,p⟩:=x;exact p.lt
 |dK kvs=>obtain⟨_,_,_,_,o,_,_,e,_⟩:=x;exact Gu e
 |dT kvs=>obtain⟨_,_,_,_,o,_,_,e,_⟩:=x;exact Gu e
 |set S n=>obtain⟨o,_,_,_,e,_⟩:=x;exact Gu e
 |ins C dx fs=>obtain⟨_,_,_,e,_⟩:=x;exact Gu e
 |own y=>obtain⟨_,e⟩:=x;exact Gu e
 |xd fs=>obtain⟨_,⟨_,_,_,e,_⟩,_⟩:=x;exact Gu e
 |rng lo hi=>obtain⟨_,_,_,e⟩:=x;exact Gu e
 |frz ob u=>obtain⟨e,_⟩:=x;exact Gu e
 |tbl ps=>exact Gu (show h.get? a=some _ from x)
 |met f y=>exact Gu (show h.get? a=some _ from x)
 |ext φ=>obtain⟨_,⟨_,e⟩,_⟩:=x;exact Gu e
theorem Paired.Em{α β:Type}{F G:α->β->Prop}:∀{l₁:List α} {l₂:List β},Paired F l₁ l₂->(∀a b,F a b->G a b)->Paired G l₁ l₂
 |_,_,.nil,_=>.nil
 |_,_,.cons r t,f=>.cons (f _ _ r) (Paired.Em t f)
theorem cY.gb(x:cY P w H h a o)(k:∀b u,(b=a\/H b=some (.own a))->h.get? b=some u->h'.get? b=some u) (ho:∀b,H b=some (.own a)->H' b=some (.own a)) (ht:∀b xs,H b=some (.tup xs)->H' b=some (.tup xs)):cY P w H' h' a o:=by
 induction o with
 |lst xs=>obtain⟨z,its,n,r,e⟩:=x;exact⟨z,its,n,r,k _ _ (.inl rfl) e⟩
 |tup xs=>obtain⟨z,its,r,ob,e,c⟩:=x;exact⟨z,its,r,ob,k _ _ (.inl rfl) e,c⟩
 |dK kvs=>obtain⟨z,y,vs,r,ob,es,ep,e,c⟩:=x;exact⟨z,y,vs,r,ob,es,ep,k _ _ (.inl rfl) e,c⟩
 |dT kvs=>
  obtain⟨z,y,xs,r,ob,es,ep,e,c⟩:=x
  exact⟨z,y,xs,Paired.Em r fun p q z=>⟨z.1,ht _ _ z.2.1,z.2.2⟩,ob,es,ep,k _ _ (.inl rfl) e,c⟩
 |set S n=>obtain⟨ob,es,ep,t,e,c⟩:=x;exact⟨ob,es,ep,t,k _ _ (.inl rfl) e,c⟩
 |ins C dx fs=>
  obtain⟨d,z,ne,e,mA,⟨od,es,ep,e2,c⟩,r⟩:=x
  exact⟨ho _ d,z,ne,k _ _ (.inl rfl) e,mA,⟨od,es,ep,k _ _ (.inr d) e2,c⟩,r⟩
 |own y=>obtain⟨ob,e⟩:=x;exact⟨ob,k _ _ (.inl rfl) e⟩
 |xd fs=>obtain⟨mA,⟨od,es,ep,e,c⟩,r⟩:=x;exact⟨mA,⟨od,es,ep,k _ _ (.inl rfl) e,c⟩,r⟩
 |rng lo hi=>obtain⟨t,u,v,e⟩:=x;exact⟨t,u,v,k _ _ (.inl rfl) e⟩
 |frz ob u ih=>obtain⟨e,q⟩:=x;exact⟨k _ _ (.inl rfl) e,ih q⟩
 |tbl ps=>
  have e:h.get? a=some { cls:=.none,data:=.fields ps }:=x
  show h'.get? a=some { cls:=.none,data:=.fields ps }
  exact k a _ (.inl rfl) e
 |met f y=>
  have e:h.get? a=some (PySem.W.methodObj (.ref f) (.ref y)):=x
  show h'.get? a=some (PySem.W.methodObj (.ref f) (.ref y))
  exact k a _ (.inl rfl) e
 |ext φ=>obtain⟨p,⟨o,e⟩,st⟩:=x;exact⟨st _ _ p fun o q=>k _ _ (.inl rfl) q,⟨o,k _ _ (.inl rfl) e⟩,st⟩
theorem HOk.lt(x:HOk P w H h)(e:H a=some o):a<h.objs.size:=(x a o e).lt
theorem HOk.fresh(x:HOk P w H h)(e:h.objs.size<=a):H a=none:=by
 cases q:H a with
 |none=>rfl
 |some u=>exact absurd (G6 (x.lt q) e) (Im _)
theorem HOk.kept(x:HOk P w H h)(k:∀b u,h.get? b=some u->h'.get? b=some u):HOk P w H h':=fun a o e=>(x a o e).gb (fun b u _ q=>k b u q) (fun _ q=>q) fun _ _ q=>q
theorem HOk.laid(x:HOk P w H h)(k:∀b u,h.get? b=some u->h'.get? b=some u)(hp:h.objs.size<=a)(new:cY P w (upd H a o) h' a o):HOk P w (upd H a o) h':=fun b u e=>by
 have hn:=x.fresh hp;by_cases hb:b=a
 ·subst hb;rw[aW]at e;cases e;exact new
 ·rw[aQ hb]at e;exact(x b u e).gb (fun c v _ q=>k c v q) (fun c q=>by rw[aQ (d3 q hn)];exact q) fun c xs q=>by rw[aQ (d3 q hn)];exact q
end
def Rd(H:Hp)(a:Addr)(u:HO):Prop:=H a=some u\/∃o,H a=some (.frz o u)
theorem Rd.ok{P:GC}{w:Hd}{H:Hp}{h:Heap}{a:Addr}{u:HO}(r:Rd H a u)(x:HOk P w H h):cY P w H h a u:=by
 rcases r with r|⟨o,r⟩
 ·exact x a u r
 ·obtain⟨_,q⟩:=x a _ r;exact q
def Mut:Option HO->Prop
 |some (.lst _)=>True
 |some (.dK _)=>True
 |some (.dT _)=>True
 |some (.set _ _)=>True
 |some (.ins _ _ _)=>True
 |some (.ext _)=>True
 |_=>False
section
variable{P:GC}{w:Hd}{H:Hp}{h h':Heap}{x e:Addr}{o':HO}
theorem HOk.write(ok:HOk P w H h)(mu:Mut (H x))(he:e=x\/H e=some (.own x))(k:∀b u,b≠e->h.get? b=some u->h'.get? b=some u)(heo:∃u,h'.get? e=some u)
 (new:cY P w (upd H x o') h' x o'):HOk P w (upd H x o') h':=fun b u q=>by
 have nown:∀c y,H c=some (.own y)->c≠x:=fun c y r z=>by subst z;rw[r]at mu;exact mu
 have ntup:∀c xs,H c=some (.tup xs)->c≠x:=fun c xs r z=>by subst z;rw[r]at mu;exact mu
 by_cases hb:b=x
 ·subst hb;rw[aW]at q;cases q;exact new
 ·rw[aQ hb]at q
  by_cases hbe:b=e
  ·have q':H b=some (.own x):=by
    rcases he with z|z
    ·exact absurd (hbe.trans z) hb
    ·rw[hbe];exact z
   rw[q]at q';cases q'
   obtain⟨v,hv⟩:=heo
   exact⟨v,by rw[hbe];exact hv⟩
  ·refine(ok b u q).gb (fun c v hc r=>k c v ?_ r) (fun c r=>by rw[aQ (nown c b r)];exact r) fun c xs r=>by rw[aQ (ntup c xs r)];exact r
   rcases hc with rfl|hc
   ·exact hbe
   ·rintro rfl
    rcases he with z|z
    ·exact nown c b hc z
    ·rw[hc]at z;cases z;exact hb rfl
end
structure Un(fs ex:List Addr)(H H':Hp)(h h':Heap):Prop where
 keep:∀b o,h.get? b=some o->H b=none->b∉fs->b∉ex->h'.get? b=some o
 slot:∀b o,h.get? b=some o->H b=none->b∈fs->b∉ex->∃sl,h'.get? b=some { o with slots:=sl }
 free:∀b o,h.get? b=some o->H b=none->b∉ex->H' b=none
 there:∀b o,h.get? b=some o->b∉ex->∃o',h'.get? b=some o'
 tups:∀b xs,H b=some (.tup xs)->H' b=some (.tup xs)
 frzs:∀b o u,H b=some (.frz o u)->H' b=some (.frz o u)
 tbls:∀b ps,H b=some (.tbl ps)->∃more,H' b=some (.tbl (ps++more))
section
variable{fs fs' ex ex':List Addr}{H H1 H2:Hp}{h h1 h2 h':Heap}{a x e:Addr}{o:HO}
theorem Un.any(u:Un fs ex H H1 h h1){b:Addr}{ob:Obj}(q:h.get? b=some ob)(n:H b=none)(hx:b∉ex):∃sl,h1.get? b=some { ob with slots:=sl }:=by
 by_cases hb:b∈fs
 ·exact u.slot b ob q n hb hx
 ·exact⟨ob.slots,u.keep b ob q n hb hx⟩
theorem Un.kept(k:∀b u,h.get? b=some u->h'.get? b=some u):Un fs ex H H h h':=⟨fun b ob q _ _ _=>k b ob q,fun b ob q _ _ _=>⟨ob.slots,k b ob q⟩,fun _ _ _ n _=>n,fun b ob q _=>⟨ob,k b ob q⟩,fun _ _ q=>q,fun _ _ _ q=>q,fun _ ps q=>⟨#[],by rw[q];simp⟩⟩
theorem Un.refl:Un fs ex H H h h:=Un.kept fun _ _ q=>q
theorem Un.laid(k:∀b u,h.get? b=some u->h'.get? b=some u)(hp:h.objs.size<=a)(hn:H a=none):Un fs ex H (upd H a o) h h' where
 keep:=fun b u q _ _ _=>k b u q
 slot:=fun b u q _ _ _=>⟨u.slots,k b u q⟩
 free:=fun b u q n _=>by rw[aQ (GZ (G6 (Gu q) hp))];exact n
 there:=fun b u q _=>⟨u,k b u q⟩
 tups:=fun b xs q=>by rw[aQ (d3 q hn)];exact q
 frzs:=fun b u xs q=>by rw[aQ (d3 q hn)];exact q
 tbls:=fun b ps q=>⟨#[],by rw[aQ (d3 q hn),q];simp⟩
theorem Un.write(mu:Mut (H x))(he:e=x\/H e=some (.own x))(k:∀b u,b≠e->h.get? b=some u->h'.get? b=some u)(heo:∃u,h'.get? e=some u):Un fs ex H (upd H x o) h h':=by
 have hx:∀b,H b=none->b≠x:=fun b n z=>by subst z;rw[n]at mu;exact mu
 have hb:∀b,H b=none->b≠e:=fun b n z=>by
  subst z;rcases he with r|r
  ·exact hx b n r
  ·rw[n]at r;cases r
 have hm:∀b u,H b=some u->¬Mut (some u)->b≠x:=fun b u q nm z=>by subst z;rw[q]at mu;exact nm mu
 refine⟨fun b u q n _ _=>k b u (hb b n) q,fun b u q n _ _=>⟨u.slots,k b u (hb b n) q⟩,fun b u q n _=>by rw[aQ (hx b n)];exact n,fun b u q _=>?_,fun b xs q=>by rw[aQ (hm b _ q fun z=>z)];exact q,fun b u xs q=>by rw[aQ (hm b _ q fun z=>z)];exact q,fun b ps q=>⟨#[],by rw[aQ (hm b _ q fun z=>z),q];simp⟩⟩;by_cases hbe:b=e
 ·subst hbe;exact heo
 ·exact⟨u,k b u hbe q⟩
end
def trk(h:Heap)(H:Hp):List Addr:=(HD h.objs.size).filter fun a=>(H a).isSome
def pq(h:Heap)(H:Hp):Heap:=PySem.W.hideAll h (trk h H)
theorem vb(h:Heap)(H:Hp):(pq h H).objs.size=h.objs.size:=PySem.W.hideAll_size _ _
theorem yj{h:Heap}{H:Hp}{b:Addr}{o:Obj}(e:h.get? b=some o)(n:H b=none):(pq h H).get? b=some o:=
 PySem.W.hideAll_get _ e fun hm=>by
  have q:(H b).isSome=true:=(List.mem_filter.mp hm).2
  rw[n]at q;simp at q
theorem Av{h:Heap}{H:Hp}{b:Addr}{o:Obj}(e:(pq h H).get? b=some o):h.get? b=some o/\H b=none:=by
 have e':h.get? b=some o:=PySem.W.of_hideAll (trk h H) e;refine⟨e',?_⟩;cases q:H b with
 |none=>rfl
 |some x=>
  have hm:b∈trk h H:=List.mem_filter.mpr ⟨List.mem_range.mpr (Gu e'),by simp[q]⟩
  have z:(pq h H).get? b=none:=PySem.W.hideAll_none (trk h H) hm
  rw[z]at e;cases e
structure Mod(K:cc)(mg:Str->Option G0)(base:Heap):Prop where
 kin:K.In base
 glob:base.Ns Hb mg
 blt:∃mb,base.Ns builtinsNs mb/\∀x:Str,x≠"__name__"->mb x=Hj x
 nolimit:base.NoLimit
structure Cx where
 prog:GC
 w:Hd
 K:cc
 mg:Str->Option G0
 base:Heap
 A:He
 N:List Str
 s₀:G3
 H₀:Hp
 env:Env
 outer:List Env
 stack:List Env
 ex:List Addr
 fn:Str->Bool
 calm:Bool
 pn:List (Addr×Obj)
 xe:G0->G3->Prop
def frs(l:List Env):List Addr:=l.filterMap (·.frame)
abbrev Cx.fs(X:Cx):List Addr:=frs X.outer
def Vis(sc:Jb)(x:Str):Prop:=sc.names.lookup x=some .local\/sc.names.lookup x=some .cell\/sc.names.lookup x=some .free
def Loc(sc:Jb)(x:Str):Prop:=sc.names.lookup x=some .local\/sc.names.lookup x=some .cell
def Look(env:Env)(h:Heap)(m:Str->Option G0)(x:Str)(u:G0):Prop:=
 (env.kindOf x=some .local/\m x=some u)\/((env.kindOf x=some .cell\/env.kindOf x=some .free)/\∃c,env.cells.lookup x=some c/\h.IsCell c (some u))
structure Cx.Ok(X:Cx):Prop where
 mod:Mod X.K X.mg X.base
 kind:X.env.scope.kind=.function
 glob:X.env.globals=Hb
 blt:X.env.builtins=builtinsNs
 above:X.s₀.heap.objs.size<=X.env.locals
 inj:∀x y c,X.env.cells.lookup x=some c->X.env.cells.lookup y=some c->x=y
 has:∀x,(X.env.kindOf x=some .cell\/X.env.kindOf x=some .free)->∃c,X.env.cells.lookup x=some c
 cab:∀x c,X.fn x=true->X.env.cells.lookup x=some c->X.s₀.heap.objs.size<=c
 hd:X.calm=true->X.A.handled=none
 frames:X.A.frames=some X.stack
 stk:X.stack=X.outer\/(X.stack=X.env::X.outer/\X.env.frame=some X.env.locals)
 exf:∀b∈X.ex,b≠X.env.locals/\∀x c,X.env.cells.lookup x=some c->c≠b
 bs:∀b o,X.base.get? b=some o->X.s₀.heap.get? b=some o/\X.H₀ b=none
 bsz:X.base.objs.size<=X.s₀.heap.objs.size
 noex:∀b o,X.base.get? b=some o->b∉X.ex
 exfs:∀b∈X.ex,b∉X.fs
 jb:X.s₀.heap.FunFrames X.base X.outer
 frf:∀b∈X.fs,X.H₀ b=none
structure Inv(X:Cx)(pins:List (Addr×Obj))(σ:List (Option V))(H:Hp)(s:G3):Prop where
 ok:X.Ok
 os:s.os=X.s₀.os
 bare:AllBare s.gens
 base:Un X.fs X.ex X.H₀ H X.s₀.heap s.heap
 loc:∃m,s.heap.Ns X.env.locals m/\∀(i:Nat) (x:Str) (v:V),X.N[i]?=some x->σ[i]?=some (some v)->Vis X.env.scope x->∃u,RelV v u/\Look X.env s.heap m x u
 cell:∀x c,X.env.cells.lookup x=some c->∃v,s.heap.IsCell c v
 free:H X.env.locals=none
 freeC:∀x c,X.env.cells.lookup x=some c->H c=none
 pin:∀p∈X.pn++pins,s.heap.get? p.1=some p.2/\H p.1=none/\p.1≠X.env.locals/\p.1∉X.fs/\∀v,p.2.data≠.cell v
 hok:HOk X.prog X.w H s.heap
 len:σ.length=X.N.length
section
variable{X:Cx}{pins:List (Addr×Obj)}{σ:List (Option V)}{H H':Hp}{s:G3}{h':Heap}
theorem Cx.Ok.FR(ok:X.Ok){b:Addr}{o:Obj}(e:X.base.get? b=some o):b∉X.fs:=fun hb=>by have:=(ok.jb.mem hb).1;rw[e]at this;cases this
theorem Inv.bs(I:Inv X pins σ H s):∀b o,X.base.get? b=some o->s.heap.get? b=some o/\H b=none:=fun b o e=>⟨I.base.keep b o (I.ok.bs b o e).1 (I.ok.bs b o e).2 (I.ok.FR e) (I.ok.noex b o e),I.base.free b o (I.ok.bs b o e).1 (I.ok.bs b o e).2 (I.ok.noex b o e)⟩
theorem Inv.bk(I:Inv X pins σ H s):∀b o,X.base.get? b=some o->s.heap.get? b=some o:=fun b o e=>(I.bs b o e).1
theorem Inv.mod(I:Inv X pins σ H s):Mod X.K X.mg X.base:=I.ok.mod
theorem Inv.kIn(I:Inv X pins σ H s):X.K.In s.heap:=I.ok.mod.kin.keeps I.bk
theorem Inv.lt(I:Inv X pins σ H s):X.env.locals<s.heap.objs.size:=let⟨_,hn,_⟩:=I.loc;hn.lt
theorem Inv.sz(I:Inv X pins σ H s):X.s₀.heap.objs.size<=s.heap.objs.size:=Gy I.ok.above (Nat.le_of_lt I.lt)
theorem Inv.FK(I:Inv X pins σ H s){a:Addr}(h:s.heap.objs.size<=a):a∉X.fs:=fun hb=>by obtain⟨_,o,ho,_⟩:=I.ok.jb.mem hb;exact absurd (G6 (Gu ho) (Gy I.sz h)) (Im _)
theorem Inv.cne(I:Inv X pins σ H s):∀x c,X.env.cells.lookup x=some c->c≠X.env.locals:=fun x c e z=>by obtain⟨v,o,ho,hd⟩:=I.cell x c e;obtain⟨m,⟨o',es,ep,ho',hd',_⟩,_⟩:=I.loc;rw[z,ho']at ho;cases ho;rw[hd']at hd;cases hd
theorem Inv.jb(I:Inv X pins σ H s):s.heap.FunFrames X.base X.outer:=by
 have all:∀(l:List Env),(∀b∈frs l,b∈X.fs)->X.s₀.heap.FunFrames X.base l->s.heap.FunFrames X.base l:=by
  intro l
  induction l with
  |nil=>intro _ _;trivial
  |cons env r ih=>
   intro hs hl
   obtain⟨hk,⟨L,o,hf,hn,ho,hd⟩,hr⟩:=hl
   have hL:L∈X.fs:=hs L (by unfold frs;rw[IP,hf];exact GR)
   obtain⟨sl,e⟩:=I.base.slot L o ho (I.ok.frf L hL) hL fun z=>I.ok.exfs L z hL
   exact⟨hk,⟨L,_,hf,hn,e,hd⟩,ih (fun b hb=>hs b (by unfold frs;rw[IP,hf];exact Gr _ hb)) hr⟩
 exact all X.outer (fun _ hb=>hb) I.ok.jb
theorem Inv.stack(I:Inv X pins σ H s):s.heap.FunFrames X.base X.stack:=by
 rcases I.ok.stk with e|⟨e,hf⟩
 ·rw[e];exact I.jb
 ·rw[e];obtain⟨m,hn,_⟩:=I.loc;refine .cons (by rw[I.ok.kind];decide) hf hn ?_ I.jb;exact Heap.get?_none_of_le (Gy I.ok.bsz I.ok.above)
theorem Inv.rk(I:Inv X pins σ H s):∀b∈frs X.stack,b∈X.env.locals::X.fs:=fun b hb=>by
 rcases I.ok.stk with e|⟨e,hf⟩
 ·rw[e]at hb;exact Gr _ hb
 ·rw[e]at hb;unfold frs at hb;rw[IP,hf]at hb;exact hb
theorem Inv.gQ(I:Inv X pins σ H s):∀b∈frs X.stack,H b=none:=fun b hb=>by
 rcases GO.mp (I.rk b hb)with e|hb
 ·rw[e];exact I.free
 ·obtain⟨_,o,ho,_⟩:=I.ok.jb.mem hb;exact I.base.free b o ho (I.ok.frf b hb) fun z=>I.ok.exfs b z hb
theorem Inv.step{g':Array GenState}{t':Nat}{d':Drawn}{ch:List Addr}(I:Inv X pins σ H s)
 (hch:∀b∈ch,(b∈X.ex\/X.s₀.heap.objs.size<=b)/\b≠X.env.locals/\(∀x c,X.env.cells.lookup x=some c->c≠b)/\∀p∈X.pn++pins,p.1≠b)
 (keep:∀b o,b≠X.env.locals->b∉X.fs->b∉ch->s.heap.get? b=some o->H b=none->h'.get? b=some o)
 (slot:∀b o,b≠X.env.locals->b∈X.fs->b∉ch->s.heap.get? b=some o->H b=none->∃sl,h'.get? b=some { o with slots:=sl }) (free:∀b o,b∉ch->s.heap.get? b=some o->H b=none->H' b=none)
 (there:∀b o,b∉ch->s.heap.get? b=some o->∃o',h'.get? b=some o')
 (tups:∀b xs,H b=some (.tup xs)->H' b=some (.tup xs)) (frzs:∀b o u,H b=some (.frz o u)->H' b=some (.frz o u)) (tbls:∀b ps,H b=some (.tbl ps)->∃more,H' b=some (.tbl (ps++more)))
 (ns:∀m,s.heap.Ns X.env.locals m->h'.Ns X.env.locals m) (hok:HOk X.prog X.w H' h') (hg:AllBare g') :
 Inv X pins σ H' { s with heap:=h',gens:=g',drawn:=d',toks:=t' }:=by
 have neL:∀b o,X.s₀.heap.get? b=some o->b≠X.env.locals:=fun b o e=>GZ (G6 (Gu e) I.ok.above)
 have neC:∀b o,X.s₀.heap.get? b=some o->b∉X.ex->b∉ch:=fun b o e hx hb=>by
  rcases(hch b hb).1 with z|z
  ·exact hx z
  ·exact absurd (G6 (Gu e) z) (Im _)
 have cellK:∀x c,X.env.cells.lookup x=some c->∀v,s.heap.IsCell c v->h'.IsCell c v:=fun x c e v zz1_0=>by
  obtain⟨o,ho,hd⟩:=zz1_0
  have nch:c∉ch:=fun z=>(hch c z).2.2.1 x c e rfl
  by_cases hc:c∈X.fs
  ·obtain⟨sl,q⟩:=slot c o (I.cne x c e) hc nch ho (I.freeC x c e)
   exact⟨_,q,hd⟩
  ·exact⟨o,keep c o (I.cne x c e) hc nch ho (I.freeC x c e),hd⟩
 refine⟨I.ok,I.os,hg,⟨fun b o e n hb hx=>?_,fun b o e n hb hx=>?_,fun b o e n hx=>?_,fun b o e hx=>?_,fun b xs e=>tups b xs (I.base.tups b xs e),fun b o xs e=>frzs b o xs (I.base.frzs b o xs e),fun b ps e=>?_⟩,?_,fun x c e=>?_,?_,fun x c e=>?_,fun p hp=>?_,hok,I.len⟩
 ·exact keep b o (neL b o e) hb (neC b o e hx) (I.base.keep b o e n hb hx) (I.base.free b o e n hx)
 ·obtain⟨sl,e1⟩:=I.base.slot b o e n hb hx
  obtain⟨sl',e2⟩:=slot b _ (neL b o e) hb (neC b o e hx) e1 (I.base.free b o e n hx)
  exact⟨sl',e2⟩
 ·obtain⟨o',e1⟩:=I.base.there b o e hx
  exact free b o' (neC b o e hx) e1 (I.base.free b o e n hx)
 ·obtain⟨o',e1⟩:=I.base.there b o e hx
  exact there b o' (neC b o e hx) e1
 ·obtain⟨m1,e1⟩:=I.base.tbls b ps e
  obtain⟨m2,e2⟩:=tbls b _ e1
  exact⟨m1++m2,by rw[e2,Array.append_assoc]⟩
 ·obtain⟨m,hn,hl⟩:=I.loc
  refine⟨m,ns m hn,fun i x v e1 e2 e3=>?_⟩
  obtain⟨u,r,l⟩:=hl i x v e1 e2 e3
  refine⟨u,r,?_⟩
  rcases l with l|⟨k,c,e,z⟩
  ·exact .inl l
  ·exact .inr ⟨k,c,e,cellK x c e _ z⟩
 ·obtain⟨v,z⟩:=I.cell x c e
  exact⟨v,cellK x c e v z⟩
 ·obtain⟨m,⟨o,_,_,ho,_⟩,_⟩:=I.loc
  exact free _ o (fun z=>(hch _ z).2.1 rfl) ho I.free
 ·obtain⟨v,o,ho,hd⟩:=I.cell x c e
  exact free c o (fun z=>(hch c z).2.2.1 x c e rfl) ho (I.freeC x c e)
 ·obtain⟨e,n,ne,nf,d⟩:=I.pin p hp
  have nch:p.1∉ch:=fun z=>(hch p.1 z).2.2.2 p hp rfl
  exact⟨keep p.1 p.2 ne nf nch e n,free p.1 p.2 nch e n,ne,nf,d⟩
theorem Inv.un{t':Nat}(I:Inv X pins σ H s)(u:Un X.fs [] H H' s.heap h')(hok:HOk X.prog X.w H' h'):Inv X pins σ H' { s with heap:=h',toks:=t' }:=by
 obtain⟨m,⟨o,es,ep,ho,r⟩,_⟩:=id I.loc;obtain⟨sl,hL⟩:=u.any ho I.free (by simp)
 exact I.step (g':=s.gens) (d':=s.drawn) (ch:=[]) (fun _ z=>nomatch z) (fun b o _ hb _ e n=>u.keep b o e n hb (by simp)) (fun b o _ hb _ e n=>u.slot b o e n hb (by simp)) (fun b o _ e n=>u.free b o e n (by simp)) (fun b o _ e=>u.there b o e (by simp)) u.tups u.frzs u.tbls (fun m' hm=>by
  obtain⟨o',es',ep',ho',r'⟩:=hm
  rw[ho]at ho';cases ho'
  exact⟨_,es',ep',hL,r'⟩) hok I.bare
theorem Inv.call{g':Array GenState}{t':Nat}{d':Drawn}{ch:List Addr}(I:Inv X pins σ H s)(u:Un (frs X.stack) ch H H' s.heap h')(hok:HOk X.prog X.w H' h')(hg:AllBare g') (hch:∀b∈ch,(b∈X.ex\/X.s₀.heap.objs.size<=b)/\b≠X.env.locals/\(∀x c,X.env.cells.lookup x=some c->c≠b)/\∀p∈X.pn++pins,p.1≠b) : Inv X pins σ H' { s with heap:=h',gens:=g',drawn:=d',toks:=t' }:=by
 obtain⟨m,⟨o,es,ep,ho,r⟩,_⟩:=id I.loc;obtain⟨sl,hL⟩:=u.any ho I.free fun z=>(hch _ z).2.1 rfl
 exact I.step (ch:=ch) hch (fun b o hL hb hc e n=>u.keep b o e n (fun z=>(GO.mp (I.rk b z)).elim hL hb) hc) (fun b o _ _ hc e n=>u.any e n hc) (fun b o hc e n=>u.free b o e n hc) (fun b o hc e=>u.there b o e hc) u.tups u.frzs u.tbls (fun m' hm=>by
  obtain⟨o',es',ep',ho',r'⟩:=hm
  rw[ho]at ho';cases ho'
  exact⟨_,es',ep',hL,r'⟩) hok hg
theorem Inv.turned{t':Nat}{it:Addr}(I:Inv X pins σ H s)(k:∀b o,b≠it->s.heap.get? b=some o->h'.get? b=some o)(hn:H it=none)(hL:it≠X.env.locals)
 (h1:it∈X.ex\/X.s₀.heap.objs.size<=it) (h2:∀x c,X.env.cells.lookup x=some c->c≠it) (h3:∀p∈X.pn++pins,p.1≠it):Inv X pins σ H { s with heap:=h',toks:=t' }:=by
 have nit:∀b u,H b=some u->b≠it:=fun b u e z=>by rw[z,hn]at e;cases e
 refine I.step (g':=s.gens) (d':=s.drawn) (ch:=[it]) (fun b hb=>?_) (fun b o _ _ hc e _=>k b o (fun z=>hc (by simp[z])) e) (fun b o _ _ hc e _=>⟨o.slots,k b o (fun z=>hc (by simp[z])) e⟩) (fun _ _ _ _ n=>n)
  (fun b o hc e=>⟨o,k b o (fun z=>hc (by simp[z])) e⟩) (fun _ _ e=>e) (fun _ _ _ e=>e) (fun b ps e=>⟨#[],by rw[e];simp⟩) (fun m hm=>?_) (fun b u e=>?_) I.bare
 ·have e:b=it:=by simpa using hb
  subst e
  exact⟨h1,hL,h2,h3⟩
 ·obtain⟨o,es,ep,ho,r⟩:=hm
  exact⟨o,es,ep,k _ o (Ne.symm hL) ho,r⟩
 ·refine(I.hok b u e).gb (fun c v hc q=>k c v ?_ q) (fun _ q=>q) fun _ _ q=>q
  rcases hc with z|z
  ·rw[z];exact nit b u e
  ·exact nit c _ z
theorem Inv.tok(I:Inv X pins σ H s)(t:Nat):Inv X pins σ H { s with toks:=t }:=I.un (h':=s.heap) (t':=t) Un.refl I.hok
theorem Inv.kept{t':Nat}(I:Inv X pins σ H s)(k:∀b u,s.heap.get? b=some u->h'.get? b=some u):Inv X pins σ H { s with heap:=h',toks:=t' }:=I.un (Un.kept k) (I.hok.kept k)
theorem Inv.laid{a:Addr}{o:HO}{t':Nat}(I:Inv X pins σ H s)(k:∀b u,s.heap.get? b=some u->h'.get? b=some u)(hp:s.heap.objs.size<=a)(new:cY X.prog X.w (upd H a o) h' a o) : Inv X pins σ (upd H a o) { s with heap:=h',toks:=t' }:=I.un (Un.laid k hp (I.hok.fresh hp)) (I.hok.laid k hp new)
theorem Inv.write{x e:Addr}{o:HO}{t':Nat}(I:Inv X pins σ H s)(mu:Mut (H x))(he:e=x\/H e=some (.own x))(k:∀b u,b≠e->s.heap.get? b=some u->h'.get? b=some u)(heo:∃u,h'.get? e=some u) (new:cY X.prog X.w (upd H x o) h' x o):Inv X pins σ (upd H x o) { s with heap:=h',toks:=t' }:=I.un (Un.write mu he k heo) (I.hok.write mu he k heo new)
theorem Inv.uz{pins':List (Addr×Obj)}(I:Inv X pins σ H s)(h:∀p∈pins',s.heap.get? p.1=some p.2/\H p.1=none/\p.1≠X.env.locals/\p.1∉X.fs/\∀v,p.2.data≠.cell v):Inv X pins' σ H s:=⟨I.ok,I.os,I.bare,I.base,I.loc,I.cell,I.free,I.freeC,fun p hp=>(GS.mp hp).elim (fun z=>I.pin p (List.mem_append_left _ z)) (h p),I.hok,I.len⟩
theorem kz{N:List Str}(hN:N.Nodup){i j:Nat}{x:Str}(a:N[i]?=some x)(b:N[j]?=some x):i=j:=by obtain⟨h1,e1⟩:=GN.mp a;obtain⟨h2,e2⟩:=GN.mp b;exact(List.getElem_inj hN).mp (e1.trans e2.symm)
theorem m7{M:Model}{A:He}{E:G0->G3->Prop}{i:Nat}{x:Str}{v:V}{u:G0}{Q:Unit->G3->Prop}(I:Inv X pins σ H s)(hN:X.N.Nodup)(hi:X.N[i]?=some x)(hx:Loc X.env.scope x)(r:RelV v u)
 (h:∀s',Inv X pins (σ.set i (some v)) H s'->(∃a,Heap.SameBut a s.heap s'.heap/\(a=X.env.locals\/X.env.cells.lookup x=some a))->Q () s') (hf:X.fn x=true\/X.env.scope.names.lookup x=some .local:=by first|exact .inl rfl|exact .inr rfl|assumption):GA M A (storeName X.env x u) Q E s:=by
 obtain⟨m,hn,hl⟩:=id I.loc
 have hcls:(X.env.scope.kind==.class||(X.env.scope.kind==.module&&X.env.locals != X.env.globals))=false:=by rw[I.ok.kind];rfl
 have hiσ:i<σ.length:=by rw[I.len];exact(GN.mp hi).1
 have cne:=I.cne
 have tracked:∀{a:Addr} {h':Heap},(∃o,s.heap.get? a=some o/\H a=none)->Heap.SameBut a s.heap h'->HOk X.prog X.w H h':=fun{a h'} ha hs b ob e=>by
  obtain⟨_,_,hfree⟩:=ha
  refine(I.hok b ob e).gb (fun c w' hc q=>(hs.2 c ?_).trans q) (fun _ q=>q) fun _ _ q=>q
  rintro rfl
  rcases hc with rfl|hc
  ·rw[hfree]at e;cases e
  ·rw[hfree]at hc;cases hc
 rcases hx with hk|hk
 ·refine wpAny_storeName_local hk hn (fun h' hn' hs=>?_) hcls
  obtain⟨oL,_,_,hoL,_⟩:=id hn
  refine h _ ⟨I.ok,I.os,I.bare,⟨fun b o e n hb hx=>?_,fun b o e n hb hx=>?_,I.base.free,fun b o e hx=>?_,I.base.tups,I.base.frzs,I.base.tbls⟩,⟨_,hn',fun j y v' e1 e2 e3=>?_⟩,fun y c e=>?_,I.free,I.freeC,fun p hp=>?_,tracked ⟨oL,hoL,I.free⟩ hs,by simpa using I.len⟩ ⟨_,hs,.inl rfl⟩
  ·exact(hs.2 b (GZ (G6 (Gu e) I.ok.above))).trans (I.base.keep b o e n hb hx)
  ·obtain⟨sl,e1⟩:=I.base.slot b o e n hb hx
   exact⟨sl,(hs.2 b (GZ (G6 (Gu e) I.ok.above))).trans e1⟩
  ·obtain⟨o',e1⟩:=I.base.there b o e hx
   exact⟨o',(hs.2 b (GZ (G6 (Gu e) I.ok.above))).trans e1⟩
  ·by_cases hj:j=i
   ·subst hj
    rw[hi]at e1;cases e1
    rw[List.getElem?_set_self hiσ]at e2
    cases e2
    exact⟨u,r,.inl ⟨hk,by simp⟩⟩
   ·rw[List.getElem?_set_ne (Ne.symm hj)]at e2
    obtain⟨u',r',q⟩:=hl j y v' e1 e2 e3
    refine⟨u',r',?_⟩
    rcases q with⟨k,e⟩|⟨k,c,e,z⟩
    ·refine .inl ⟨k,?_⟩
     have:y≠x:=fun e=>hj (kz hN e1 (e▸hi))
     simp[this,e]
    ·exact .inr ⟨k,c,e,z.sameBut hs (cne y c e)⟩
  ·obtain⟨w',z⟩:=I.cell y c e
   exact⟨w',z.sameBut hs (cne y c e)⟩
  ·obtain⟨e,n,ne,nf,d⟩:=I.pin p hp
   exact⟨(hs.2 p.1 ne).trans e,n,ne,nf,d⟩
 ·have hfn:X.fn x=true:=by
   rcases hf with z|z
   ·exact z
   ·rw[z]at hk;cases hk
  obtain⟨c,hc⟩:=I.ok.has x (.inl hk)
  obtain⟨w',z⟩:=I.cell x c hc
  refine wpAny_storeName_cell I.ok.kind hk hc z (fun h' hc' hs=>?_)
  obtain⟨oc,hoc,hocd⟩:=id z
  refine h { s with heap:=h' } ⟨I.ok,I.os,I.bare,⟨fun b o e n hb hx=>?_,fun b o e n hb hx=>?_,I.base.free,fun b o e hx=>?_,I.base.tups,I.base.frzs,I.base.tbls⟩,⟨m,hn.sameBut hs (Ne.symm (cne x c hc)),fun j y v' e1 e2 e3=>?_⟩,fun y c' e=>?_,I.free,I.freeC,fun p hp=>?_,tracked ⟨oc,hoc,I.freeC x c hc⟩ hs,by simpa using I.len⟩ ⟨c,hs,.inr hc⟩
  ·exact(hs.2 b (GZ (G6 (Gu e) (I.ok.cab x c hfn hc)))).trans (I.base.keep b o e n hb hx)
  ·obtain⟨sl,e1⟩:=I.base.slot b o e n hb hx
   exact⟨sl,(hs.2 b (GZ (G6 (Gu e) (I.ok.cab x c hfn hc)))).trans e1⟩
  ·obtain⟨o',e1⟩:=I.base.there b o e hx
   exact⟨o',(hs.2 b (GZ (G6 (Gu e) (I.ok.cab x c hfn hc)))).trans e1⟩
  ·by_cases hj:j=i
   ·subst hj
    rw[hi]at e1;cases e1
    rw[List.getElem?_set_self hiσ]at e2
    cases e2
    exact⟨u,r,.inr ⟨.inl hk,c,hc,hc'⟩⟩
   ·rw[List.getElem?_set_ne (Ne.symm hj)]at e2
    obtain⟨u',r',q⟩:=hl j y v' e1 e2 e3
    refine⟨u',r',?_⟩
    rcases q with q|⟨k,c',e,z'⟩
    ·exact .inl q
    ·refine .inr ⟨k,c',e,z'.sameBut hs ?_⟩
     rintro rfl
     exact hj (kz hN e1 (I.ok.inj _ _ _ e hc▸hi))
  ·by_cases hcc:c'=c
   ·subst hcc;exact⟨_,hc'⟩
   ·obtain⟨w2,z2⟩:=I.cell y c' e
    exact⟨w2,z2.sameBut hs hcc⟩
  ·obtain⟨e,n,ne,nf,d⟩:=I.pin p hp
   refine⟨(hs.2 p.1 ?_).trans e,n,ne,nf,d⟩
   intro q
   rw[q,hoc]at e
   have q':oc=p.2:=Option.some.inj e
   exact d w' (by rw[<-q'];exact hocd)
theorem gx{M:Model}{A:He}{E:G0->G3->Prop}{i:Nat}{x:Str}{v:V}{u:G0}{Q:Unit->G3->Prop}(I:Inv X pins σ H s)(hN:X.N.Nodup)(hi:X.N[i]?=some x)(hx:Loc X.env.scope x)(r:RelV v u) (h:∀s',Inv X pins (σ.set i (some v)) H s'->Q () s') (hf:X.fn x=true\/X.env.scope.names.lookup x=some .local:=by first|exact .inl rfl|exact .inr rfl|assumption):GA M A (storeName X.env x u) Q E s:=m7 I hN hi hx r (fun s' I' _=>h s' I') hf
theorem Inv.wD{s':G3}{ch:List Addr}(I:Inv X pins σ H s)(ho:s'.os=s.os)(u:Un (frs X.stack) ch H H' s.heap s'.heap)(hok:HOk X.prog X.w H' s'.heap)(hg:AllBare s'.gens)
 (hch:∀b∈ch,(b∈X.ex\/X.s₀.heap.objs.size<=b)/\b≠X.env.locals/\(∀x c,X.env.cells.lookup x=some c->c≠b)/\∀p∈X.pn++pins,p.1≠b):Inv X pins σ H' s':=by
 obtain⟨h',g',d',t',o'⟩:=s'
 have e:o'=s.os:=ho
 subst e
 exact I.call (g':=g') (t':=t') (d':=d') u hok hg hch
end
abbrev XK:=G0->Option Addr->Hp->Prop
abbrev St:=List (Option V)
abbrev VK:=V->Hp->Prop
abbrev TE:=St->Hp->VK->Prop
abbrev TT:=St->Hp->(Bool->Hp->Prop)->Prop
abbrev TA:=St->Hp->(List V->Hp->Prop)->Prop
structure Ends where
 nx:St->Hp->Prop
 rt:VK
 bk:St->Hp->Prop:=fun _ _=>False
 ct:St->Hp->Prop:=fun _ _=>False
abbrev TS:=Ends->St->Hp->Prop
def EP(X:Cx)(pins:List (Addr×Obj))(σ:St)(Q:VK)(u:G0)(s':G3):Prop:=∃v H',Inv X pins σ H' s'/\RelV v u/\Q v H'
def TP(X:Cx)(pins:List (Addr×Obj))(σ:St)(Q:Bool->Hp->Prop)(b:Bool)(s':G3):Prop:=∃H',Inv X pins σ H' s'/\Q b H'
def AP(X:Cx)(pins:List (Addr×Obj))(σ:St)(Q:List V->Hp->Prop)(us:List G0)(s':G3):Prop:=∃vs H',Inv X pins σ H' s'/\Vals vs us/\Q vs H'
def SP(X:Cx)(pins:List (Addr×Obj))(D:Ends)(f:Flow)(s':G3):Prop:=
 match f with
 |.next=>∃σ' H',Inv X pins σ' H' s'/\D.nx σ' H'
 |.brk=>∃σ' H',Inv X pins σ' H' s'/\D.bk σ' H'
 |.cont=>∃σ' H',Inv X pins σ' H' s'/\D.ct σ' H'
 |.ret u=>∃v σ' H',Inv X pins σ' H' s'/\RelV v u/\D.rt v H'
def PE(X:Cx)(e:Expr)(t:TE):Prop:=
 ∀(pins:List (Addr×Obj)) (s:G3) (σ:St) (H:Hp) (Q:VK),Inv X pins σ H s->t σ H Q->GA (GD X.prog X.w) X.A (eval e X.env) (EP X pins σ Q) X.xe s
def PT(X:Cx)(e:Expr)(t:TT):Prop:=
 ∀(pins:List (Addr×Obj)) (s:G3) (σ:St) (H:Hp) (Q:Bool->Hp->Prop),Inv X pins σ H s->t σ H Q->GA (GD X.prog X.w) X.A (isTrue e X.env (eval e X.env)) (TP X pins σ Q) X.xe s
def PW(X:Cx)(e:Expr)(t:TT):Prop:=
 ∀(whole:Sem G0) (pins:List (Addr×Obj)) (s:G3) (σ:St) (H:Hp) (Q:Bool->Hp->Prop),Inv X pins σ H s->t σ H Q->GA (GD X.prog X.w) X.A (isTrue e X.env whole) (TP X pins σ Q) X.xe s
theorem PW.pt{X:Cx}{e:Expr}{t:TT}(h:PW X e t):PT X e t:=h _
def PA(X:Cx)(es:List Expr)(t:TA):Prop:=
 ∀(pos:Pos) (pins:List (Addr×Obj)) (s:G3) (σ:St) (H:Hp) (Q:List V->Hp->Prop),Inv X pins σ H s->t σ H Q->GA (GD X.prog X.w) X.A (spliced (Ik pos (Gx es X.env))) (AP X pins σ Q) X.xe s
def PS(X:Cx)(st:Stmt)(t:TS):Prop:=
 ∀(pins:List (Addr×Obj)) (s:G3) (σ:St) (H:Hp) (D:Ends),Inv X pins σ H s->t D σ H->GA (GD X.prog X.w) X.A (exec st X.env) (SP X pins D) X.xe s
def PSs(X:Cx)(st:List Stmt)(t:TS):Prop:=
 ∀(pins:List (Addr×Obj)) (s:G3) (σ:St) (H:Hp) (D:Ends),Inv X pins σ H s->t D σ H->GA (GD X.prog X.w) X.A (execs st X.env) (SP X pins D) X.xe s
theorem thn{α:Type}{t:Sem α}{Q Q':α->G3->Prop}{M:Model}{A:He}{E:G0->G3->Prop}{s:G3}(h:GA M A t Q E s)(hQ:∀a s,Q a s->Q' a s):GA M A t Q' E s:=Hl h hQ fun _ _ x=>x
section
variable{X:Cx}
def yH(i:Nat):TE:=fun σ H Q=>∃v,σ[i]?=some (some v)/\Q v H
def tC(v:V):TE:=fun _ H Q=>Q v H
theorem yn{i:Nat}{x:Str}{pos:Pos}(hN:X.N[i]?=some x)(hv:Vis X.env.scope x)(hd:(x==("__debug__":Str))=false:=by decide)(hcd:(x==("__classdict__":Str))=false:=by decide):PE X (.Name x pos) (yH i):=by
 intro pins s σ H Q I h;obtain⟨v,e,h⟩:=h;obtain⟨m,hn,hl⟩:=I.loc;obtain⟨u,r,l⟩:=hl i x v hN e hv;have fin:EP X pins σ Q u s:=⟨v,H,I,r,h⟩;rcases l with⟨hk,hm⟩|⟨hk,c,hc,hcell⟩
 ·exact wpAny_Name (wpAny_loadName_local I.ok.kind hk hn hm fin) hd
 ·rcases hk with hk|hk
  ·exact wpAny_Name (wpAny_loadName_cell I.ok.kind hk hc hcell fin) hd
  ·exact wpAny_Name (wpAny_loadName_free I.ok.kind hk hc hcell fin hcd) hd
theorem CP{i j pos}:PE X (.Constant (.int i) j pos) (tC (.int i)):=fun _ _ _ H _ I h=>wpAny_Constant_int ⟨.int i,H,I.tok _,⟨_,rfl⟩,h⟩
theorem Ed{b j pos}:PE X (.Constant (.bool b) j pos) (tC (.bl b)):=fun _ _ _ H _ I h=>Constant_bool ⟨.bl b,H,I,rfl,h⟩
theorem BN{j pos}:PE X (.Constant .none j pos) (tC .non):=fun _ _ _ H _ I h=>Constant_none ⟨.non,H,I,rfl,h⟩
theorem Dv{x j pos}:PE X (.Constant (.str x) j pos) (tC (.str x)):=fun _ _ _ H _ I h=>Calls.Constant_str ⟨.str x,H,I.tok _,⟨_,rfl⟩,h⟩
def Gl(X:Cx)(x:Str):Prop:=X.env.kindOf x=some .globalImplicit
theorem gJ{E:G0->G3->Prop}{pins:List (Addr×Obj)}{s:G3}{σ:St}{H:Hp}{x:Str}{u:G0}{pos:Pos}{Q:G0->G3->Prop}(I:Inv X pins σ H s)(hg:Gl X x)(hm:X.mg x=some u)(h:Q u s) (hd:(x==("__debug__":Str))=false:=by decide):GA (GD X.prog X.w) X.A (eval (.Name x pos) X.env) Q E s:=Calls.Name_function_global I.ok.kind hg (Calls.loadGlobal_global (by rw[I.ok.glob];exact I.mod.glob.keeps I.bk) hm h) hd
theorem kQ{E:G0->G3->Prop}{pins:List (Addr×Obj)}{s:G3}{σ:St}{H:Hp}{x:Str}{u:G0}{pos:Pos}{Q:G0->G3->Prop}(I:Inv X pins σ H s)(hg:Gl X x)(hm:X.mg x=none)(hv:Hj x=some u)(h:Q u s) (hn:x≠"__name__":=by decide) (hd:(x==("__debug__":Str))=false:=by decide):GA (GD X.prog X.w) X.A (eval (.Name x pos) X.env) Q E s:=by obtain⟨mb,h1,h2⟩:=I.mod.blt;exact Calls.Name_function_global I.ok.kind hg (Calls.loadGlobal_builtin (by rw[I.ok.glob];exact I.mod.glob.keeps I.bk) hm (by rw[I.ok.blt];exact h1.keeps I.bk) ((h2 x hn).trans hv) h) hd
theorem t7{x:Str}{v:V}{u:G0}{pos:Pos}(hg:Gl X x)(hm:X.mg x=some u)(r:RelV v u)(hd:(x==("__debug__":Str))=false:=by decide):PE X (.Name x pos) (tC v):=fun _ _ _ H _ I h=>gJ I hg hm ⟨v,H,I,r,h⟩ hd
theorem zz{x:Str}{v:V}{u:G0}{pos:Pos}(hg:Gl X x)(hm:X.mg x=none)(hv:Hj x=some u)(r:RelV v u)(hn:x≠"__name__":=by decide)(hd:(x==("__debug__":Str))=false:=by decide):PE X (.Name x pos) (tC v):=fun _ _ _ H _ I h=>kQ I hg hm hv ⟨v,H,I,r,h⟩ hn hd
variable{a b:Expr}{ta tb:TE}{pos:Pos}
def tB(t:TE):TT:=fun σ H Q=>t σ H fun x H1=>∃c,x=.bl c/\Q c H1
theorem BK{e:Expr}{t:TE}(h:PE X e t)(he:∀whole,isTrue e X.env whole=(do let v <-whole;standAt e.pos;holding [v] (truthy v)):=by intro _;rfl):PT X e (tB t):=by intro pins s σ H Q I hw;refine isTrue_plain (thn (h pins s σ H _ I hw) fun v s1 zz7_0=>?_) (he _);obtain⟨x,H1,I1,r1,q1⟩:=zz7_0;obtain⟨d,rfl,q⟩:=q1;cases r1;exact HF ⟨H1,I1,q⟩
variable{tA tB':TT}{rest:List Expr}
def Fm(t u:TT):TT:=fun σ H Q=>t σ H fun c H1=>if c=true then u σ H1 Q else Q false H1
def tOr(t u:TT):TT:=fun σ H Q=>t σ H fun c H1=>if c=true then Q true H1 else u σ H1 Q
def F2(t:TT):TT:=fun σ H Q=>t σ H fun c H1=>Q (!c) H1
theorem zQ(ha:PT X a tA):PW X (.BoolOp .And [a] pos) tA:=by
 intro wh pins s σ H Q I h;refine isTrue_and (thn (ha pins s σ H Q I h) fun c s1 e=>?_);cases c with
 |true=>exact isTrue_and_nil e
 |false=>exact e
theorem BG(ha:PT X a tA):PW X (.BoolOp .Or [a] pos) tA:=by
 intro wh pins s σ H Q I h;refine isTrue_or (thn (ha pins s σ H Q I h) fun c s1 e=>?_);cases c with
 |false=>exact isTrue_or_nil e
 |true=>exact e
theorem CI(ha:PT X a tA)(hb:PW X (.BoolOp .And (b::rest) pos) tB'):PW X (.BoolOp .And (a::b::rest) pos) (Fm tA tB'):=by
 intro wh pins s σ H Q I h;refine isTrue_and (thn (ha pins s σ H _ I h) fun c s1 zz8_0=>?_);obtain⟨H1,I1,q1⟩:=zz8_0;cases c with
 |true=>exact hb wh pins s1 σ H1 Q I1 q1
 |false=>exact⟨H1,I1,q1⟩
theorem D3(ha:PT X a tA)(hb:PW X (.BoolOp .Or (b::rest) pos) tB'):PW X (.BoolOp .Or (a::b::rest) pos) (tOr tA tB'):=by
 intro wh pins s σ H Q I h;refine isTrue_or (thn (ha pins s σ H _ I h) fun c s1 zz9_0=>?_);obtain⟨H1,I1,q1⟩:=zz9_0;cases c with
 |true=>exact⟨H1,I1,q1⟩
 |false=>exact hb wh pins s1 σ H1 Q I1 q1
theorem BW(ha:PT X a tA):PT X (.UnaryOp .Not a pos) (F2 tA):=by intro pins s σ H Q I h;exact isTrue_not (ha pins s σ H (fun c H1=>Q (!c) H1) I h)
def E3(ta tb:TE):TE:=fun σ H Q=>ta σ H fun x H1=>∃c,x=.bl c/\if c=true then tb σ H1 Q else Q (.bl false) H1
def Gb(ta tb:TE):TE:=fun σ H Q=>ta σ H fun x H1=>∃c,x=.bl c/\if c=true then Q (.bl true) H1 else tb σ H1 Q
theorem BS{op}{t:TE}(h:PE X a t):PE X (.BoolOp op [a] pos) t:=fun pins s σ H Q I hw=>BoolOp_one (h pins s σ H Q I hw)
theorem Co(ha:PE X a ta)(hb:PE X (.BoolOp .And (b::rest) pos) tb):PE X (.BoolOp .And (a::b::rest) pos) (E3 ta tb):=by
 intro pins s σ H Q I h;refine BoolOp_and (thn (ha pins s σ H _ I h) fun v s1 zz10_0=>?_);obtain⟨x,H1,I1,r1,q1⟩:=zz10_0;obtain⟨c,rfl,q1⟩:=q1;cases r1;refine HF ?_;cases c with
 |true=>exact hb pins s1 σ H1 Q I1 q1
 |false=>exact⟨.bl false,H1,I1,rfl,q1⟩
theorem DJ(ha:PE X a ta)(hb:PE X (.BoolOp .Or (b::rest) pos) tb):PE X (.BoolOp .Or (a::b::rest) pos) (Gb ta tb):=by
 intro pins s σ H Q I h;refine BoolOp_or (thn (ha pins s σ H _ I h) fun v s1 zz11_0=>?_);obtain⟨x,H1,I1,r1,q1⟩:=zz11_0;obtain⟨c,rfl,q1⟩:=q1;cases r1;refine HF ?_;cases c with
 |false=>exact hb pins s1 σ H1 Q I1 q1
 |true=>exact⟨.bl true,H1,I1,rfl,q1⟩
def tIf(t:TT)(ta tb:TE):TE:=fun σ H Q=>t σ H fun c H1=>if c=true then ta σ H1 Q else tb σ H1 Q
theorem wW{c:Expr}(hc:PT X c tA)(ha:PE X a ta)(hb:PE X b tb):PE X (.IfExp c a b pos) (tIf tA ta tb):=by
 intro pins s σ H Q I h;refine wpAny_IfExp (thn (hc pins s σ H _ I h) fun d s1 zz13_0=>?_);obtain⟨H1,I1,q1⟩:=zz13_0;cases d with
 |true=>exact ha pins s1 σ H1 Q I1 q1
 |false=>exact hb pins s1 σ H1 Q I1 q1
end
def SqL(K:cc)(H:Hp)(a:Addr)(xs:List V):Prop:=
 Rd H a (.lst xs)\/
  ∃(o:Obj) (its:Array G0) (n:Nat),K.lookup a=some o/\o.cls=.type "list"/\o.dict=none/\o.data=.seq its n/\its.size<=Gp/\Vals xs its.toList
def SqT(K:cc)(H:Hp)(a:Addr)(xs:List V):Prop:=
 Rd H a (.tup xs)\/
  ∃(o:Obj) (its:Array G0) (n:Nat),K.lookup a=some o/\o.cls=.type "tuple"/\o.data=.seq its n/\its.size<=Gp/\Vals xs its.toList
def Fw:G0->Option V
 |.none=>some .non
 |.bool b=>some (.bl b)
 |.int i _=>some (.int i)
 |.str x _=>some (.str x)
 |.bytes b _=>some (.byt b)
 |.float b _=>some (.flt b)
 |.ref a=>some (.ref a)
 |.type n=>some (.ty n)
 |_=>none
theorem RelV.abs{x:V}{u:G0}(r:RelV x u):Fw u=some x:=by
 cases x with
 |non=>cases r;rfl
 |bl _=>cases r;rfl
 |int _=>obtain⟨t,rfl⟩:=r;rfl
 |str _=>obtain⟨t,rfl⟩:=r;rfl
 |byt _=>obtain⟨t,rfl⟩:=r;rfl
 |flt _=>obtain⟨t,rfl⟩:=r;rfl
 |ref _=>cases r;rfl
 |ty _=>cases r;rfl
theorem RelV.inj{x y:V}{u:G0}(r:RelV x u)(q:RelV y u):x=y:=Option.some.inj (r.abs.symm.trans q.abs)
theorem Vals.inj:∀{xs ys:List V} {us:List G0},Vals xs us->Vals ys us->xs=ys
 |_,_,_,.nil,.nil=>rfl
 |_,_,_,.cons r t,.cons r' t'=>by rw[r.inj r',Vals.inj t t']
section
variable{X:Cx}{pins:List (Addr×Obj)}{σ:St}{H:Hp}{s:G3}{a:Addr}{xs ys:List V}
theorem SqL.of{K:cc}(h:H a=some (.lst xs)):SqL K H a xs:=.inl (.inl h)
theorem SqT.of{K:cc}(h:H a=some (.tup xs)):SqT K H a xs:=.inl (.inl h)
theorem Inv.list(I:Inv X pins σ H s)(h:SqL X.K H a xs):∃its:List G0,Vals xs its/\PlainL s.heap a its.toArray/\xs.length<=Gp:=by
 rcases h with h|⟨o,its,n,hk,hc,hd,hs,hz,r⟩
 ·obtain⟨z,its,n,r,e⟩:=h.ok I.hok;exact⟨its,r,⟨_,n,e,rfl,rfl,rfl⟩,z⟩
 ·refine⟨its.toList,r,⟨o,n,I.kIn a o hk,hc,hd,by simpa using hs⟩,?_⟩;have e:=r.length;simp only[IQ]at e;omega
theorem Inv.tuple(I:Inv X pins σ H s)(h:SqT X.K H a xs):∃its:List G0,Vals xs its/\IsTup s.heap a its.toArray/\xs.length<=Gp:=by
 rcases h with h|⟨o,its,n,hk,hc,hs,hz,r⟩
 ·obtain⟨z,its,r,p⟩:=h.ok I.hok;exact⟨its,r,p,z⟩
 ·refine⟨its.toList,r,⟨o,I.kIn a o hk,hc,n,by simpa using hs⟩,?_⟩;have e:=r.length;simp only[IQ]at e;omega
theorem Inv.qS(I:Inv X pins σ H s)(h:SqL X.K H a xs)(h':SqL X.K H a ys):xs=ys:=by
 obtain⟨its,r,⟨o,n,e,_,_,d⟩,_⟩:=I.list h;obtain⟨its',r',⟨o',n',e',_,_,d'⟩,_⟩:=I.list h';rw[e]at e';cases e';rw[d]at d';injection d' with d1 _;have:its=its':=by simpa using congrArg Array.toList d1
 subst this;exact r.inj r'
theorem Inv.uZ(I:Inv X pins σ H s)(h:SqT X.K H a xs)(h':SqT X.K H a ys):xs=ys:=by
 obtain⟨its,r,⟨o,e,_,n,d⟩,_⟩:=I.tuple h;obtain⟨its',r',⟨o',e',_,n',d'⟩,_⟩:=I.tuple h';rw[e]at e';cases e';rw[d]at d';injection d' with d1 _;have:its=its':=by simpa using congrArg Array.toList d1
 subst this;exact r.inj r'
end
abbrev Cx.lI(X:Cx)(E:G0->G3->Prop):Cx:={ X with xe:=E }
abbrev Cx.nox(X:Cx):Cx:=X.lI fun _ _=>False
theorem Cx.Ok.lI{X:Cx}(ok:X.Ok)(E:G0->G3->Prop):(X.lI E).Ok:=⟨ok.mod,ok.kind,ok.glob,ok.blt,ok.above,ok.inj,ok.has,ok.cab,ok.hd,ok.frames,ok.stk,ok.exf,ok.bs,ok.bsz,ok.noex,ok.exfs,ok.jb,ok.frf⟩
theorem Cx.Ok.gg{X:Cx}{E:G0->G3->Prop}(ok:(X.lI E).Ok):X.Ok:=⟨ok.mod,ok.kind,ok.glob,ok.blt,ok.above,ok.inj,ok.has,ok.cab,ok.hd,ok.frames,ok.stk,ok.exf,ok.bs,ok.bsz,ok.noex,ok.exfs,ok.jb,ok.frf⟩
section
variable{X:Cx}{pins:List (Addr×Obj)}{σ:St}{H:Hp}{s:G3}{E:G0->G3->Prop}
theorem Inv.lI(I:Inv X pins σ H s)(E:G0->G3->Prop):Inv (X.lI E) pins σ H s:=⟨I.ok.lI E,I.os,I.bare,I.base,I.loc,I.cell,I.free,I.freeC,I.pin,I.hok,I.len⟩
theorem Inv.gg(I:Inv (X.lI E) pins σ H s):Inv X pins σ H s:=⟨I.ok.gg,I.os,I.bare,I.base,I.loc,I.cell,I.free,I.freeC,I.pin,I.hok,I.len⟩
theorem SP.gg{D:Ends}{f:Flow}{s':G3}(h:SP (X.lI E) pins D f s'):SP X pins D f s':=by
 cases f with
 |next=>obtain⟨σ',H',I,q⟩:=h;exact⟨σ',H',I.gg,q⟩
 |brk=>obtain⟨σ',H',I,q⟩:=h;exact⟨σ',H',I.gg,q⟩
 |cont=>obtain⟨σ',H',I,q⟩:=h;exact⟨σ',H',I.gg,q⟩
 |ret u=>obtain⟨v,σ',H',I,r,q⟩:=h;exact⟨v,σ',H',I.gg,r,q⟩
theorem PSs.nox{st:List Stmt}{t:TS}(h:PSs X.nox st t):PSs X st t:=fun pins s σ H D I hw=>Hl (h pins s σ H D (I.lI _) hw) (fun _ _ q=>q.gg) fun _ _ z=>Ij z
end
section
variable{X:Cx}{st:Stmt}{rest:List Stmt}{t u:TS}{e:Expr}{te:TE}{pos:Pos}
def EO:TS:=fun D σ H=>D.nx σ H
def E4(t u:TS):TS:=fun D σ H=>t { D with nx:=u D } σ H
theorem Ai:PSs X [] EO:=fun _ _ σ H _ I h=>wpAny_execs_nil ⟨σ,H,I,h⟩
theorem qo(h1:PS X st t)(h2:PSs X rest u):PSs X (st::rest) (E4 t u):=by
 intro pins s σ H D I h;refine wpAny_execs_cons (thn (h1 pins s σ H { D with nx:=u D } I h) fun f s1 q=>?_);cases f with
 |next=>
  obtain⟨σ',H',I',q⟩:=q
  exact h2 pins s1 σ' H' D I' q
 |ret v=>exact q
 |brk=>exact q
 |cont=>exact q
theorem uh(h1:PS X st t):PSs X [st] t:=by
 intro pins s σ H D I h;refine wpAny_execs_cons (thn (h1 pins s σ H D I h) fun f s1 q=>?_);cases f with
 |next=>exact wpAny_execs_nil q
 |ret v=>exact q
 |brk=>exact q
 |cont=>exact q
theorem Inv.quiet{pins:List (Addr×Obj)}{σ:St}{H:Hp}{s:G3}(I:Inv X pins σ H s):interactive X.env=false:=by simp[interactive,I.ok.kind]
def Bo(te:TE):TS:=fun D σ H=>te σ H fun _ H1=>D.nx σ H1
theorem uJ(he:PE X e te)(hs:swapsWith e none pos.line X.env=pure false:=by rfl):PS X (.Expr e pos) (Bo te):=by intro pins s σ H D I h;exact wpAny_Expr_any (thn (he pins s σ H _ I h) fun v s1 zz16_0=>by obtain⟨x,H1,I1,r1,q1⟩:=zz16_0;exact(⟨σ,H1,I1,q1⟩)) I.quiet hs
def FL(te:TE):TS:=fun D σ H=>te σ H D.rt
theorem BV(he:PE X e te):PS X (.Return (some e) pos) (FL te):=by intro pins s σ H D I h;exact wpAny_Return_some (thn (he pins s σ H _ I h) fun v s1 zz17_0=>by obtain⟨x,H1,I1,r1,q1⟩:=zz17_0;exact(⟨x,σ,H1,I1,r1,q1⟩))
def Ge(c:TT)(t u:TS):TS:=fun D σ H=>c σ H fun b H1=>if b=true then t D σ H1 else u D σ H1
theorem DD{c:Expr}{a b:List Stmt}{tc:TT}(hc:PT X c tc)(ha:PSs X a t)(hb:PSs X b u):PS X (.If c a b pos) (Ge tc t u):=by
 intro pins s σ H D I h;refine wpAny_If (thn (hc pins s σ H _ I h) fun d s1 zz18_0=>?_);obtain⟨H1,I1,q1⟩:=zz18_0;cases d with
 |true=>exact ha pins s1 σ H1 D I1 q1
 |false=>exact hb pins s1 σ H1 D I1 q1
def xp:TS:=fun _ _ _=>False
theorem xy:PS X st xp:=fun _ _ _ _ _ _ h=>h.elim
theorem vJ{sts:List Stmt}:PSs X sts xp:=fun _ _ _ _ _ _ h=>h.elim
end
abbrev TG:=V->St->Hp->(St->Hp->Prop)->Prop
abbrev TGs:=List V->St->Hp->(St->Hp->Prop)->Prop
def PG(X:Cx)(target:Expr)(t:TG):Prop:=
 ∀(pins:List (Addr×Obj)) (s:G3) (σ:St) (H:Hp) (v:V) (u:G0) (Q:St->Hp->Prop),Inv X pins σ H s->RelV v u->t v σ H Q->
  GA (GD X.prog X.w) X.A (assign target X.env u) (fun _ s'=>∃σ' H',Inv X pins σ' H' s'/\Q σ' H') X.xe s
def PGs(X:Cx)(ts:List Expr)(t:TGs):Prop:=
 ∀(pins:List (Addr×Obj)) (s:G3) (σ:St) (H:Hp) (vs:List V) (us:List G0) (Q:St->Hp->Prop),Inv X pins σ H s->Vals vs us->t vs σ H Q->
  GA (GD X.prog X.w) X.A (assignInOrder ((Hv ts X.env).map (·.2)) us) (fun _ s'=>∃σ' H',Inv X pins σ' H' s'/\Q σ' H') X.xe s
abbrev BY:=V->V->V->Hp->(Hp->Prop)->Prop
def EJ(X:Cx)(t:BY):Prop:=
 ∀(pins:List (Addr×Obj)) (s:G3) (σ:St) (H:Hp) (o i v:V) (ov iv u:G0) (Q:Hp->Prop),Inv X pins σ H s->RelV o ov->RelV i iv->RelV v u->t o i v H Q->
  GA (GD X.prog X.w) X.A (setItem ov iv u) (fun _ s'=>∃H',Inv X pins σ H' s'/\Q H') X.xe s
section
variable{X:Cx}{pos:Pos}
def jd(i:Nat):TG:=fun v σ H Q=>Q (σ.set i (some v)) H
theorem tD{i:Nat}{x:Str}(hN:X.N.Nodup)(hi:X.N[i]?=some x)(hx:Loc X.env.scope x)(hf:X.fn x=true\/X.env.scope.names.lookup x=some .local:=by first|exact .inl rfl|exact .inr rfl|assumption):PG X (.Name x pos) (jd i):=by intro pins s σ H v u Q I r h;exact wpAny_assign_Name (gx I hN hi hx r (fun s' I'=>⟨_,H,I',h⟩) hf)
def Dr:TGs:=fun vs σ H Q=>vs=[]/\Q σ H
def pW(t:TG)(u:TGs):TGs:=fun vs σ H Q=>∃v r,vs=v::r/\t v σ H fun σ' H'=>u r σ' H' Q
theorem uH:PGs X [] Dr:=by intro pins s σ H vs us Q I r h;obtain⟨e,h⟩:=h;subst e;cases r;exact assignInOrder_nil ⟨σ,H,I,h⟩
theorem lX{e:Expr}{es:List Expr}{t:TG}{u:TGs}(h1:PG X e t)(h2:PGs X es u) (hs:(Hv (e::es) X.env).map (·.2)=assign e X.env::(Hv es X.env).map (·.2):=by rfl):PGs X (e::es) (pW t u):=by
 intro pins s σ H vs us Q I r h;obtain⟨v,vr,e1,h⟩:=h;subst e1;cases r with
 |cons r rr=>
  rw[hs]
  refine assignInOrder_cons (thn (h1 pins s σ H _ _ _ I r h) fun _ s1 zz19_0=>?_)
  obtain⟨σ1,H1,I1,q1⟩:=zz19_0
  exact h2 pins s1 σ1 H1 _ _ Q I1 rr q1
def B9(K:cc)(n:Nat)(t:TGs):TG:=fun v σ H Q=>∃a xs,v=.ref a/\SqT K H a xs/\xs.length=n/\t xs σ H Q
theorem yP{es:List Expr}{k:Nat}{t:TGs}{n:Nat}(hc:X.calm=true)(h:PGs X es t)
 (hn:(Hv es X.env).length=n:=by rfl) (hst:(Hv es X.env).findIdx? (·.1)=none:=by rfl):PG X (.Tuple es k pos) (B9 X.K n t):=by
 intro pins s σ H v u Q I r hw
 obtain⟨a,xs,e1,hq,hl,hw⟩:=hw
 subst e1
 cases r
 obtain⟨its,rv,ht,hz⟩:=I.tuple hq
 refine assign_Tuple_tuple (I.ok.hd hc) ht (by simp[hn,<-hl,rv.length]) hst fun h' hx=>?_
 have I1:Inv X pins σ H { s with heap:=h' }:=I.kept (t':=s.toks) fun b o e=>hx b o (GZ (Gu e)) e
 exact h pins _ σ H xs _ Q I1 (by simpa using rv) hw
def FE(to ti:TE)(t:BY):TG:=fun v σ H Q=>to σ H fun o H1=>ti σ H1 fun i H2=>t o i v H2 fun H3=>Q σ H3
theorem CD{o i:Expr}{to ti:TE}{t:BY}(ho:PE X o to)(hi:PE X i ti)(hs:EJ X t)
 (ha:∀v,assign (.Subscript o i pos) X.env v=(do
  let ov <-holding [v] (eval o X.env)
  let iv <-holding [v,ov] (eval i X.env)
  standAt pos
  holding [v,ov,iv] (setItem ov iv v)
  release [v,ov,iv] []):=by intro _;rfl):PG X (.Subscript o i pos) (FE to ti t):=by
 intro pins s σ H v u Q I r h
 rw[ha]
 refine G2 (HQ (thn (ho pins s σ H _ I h) fun ov s1 zz20_0=>?_))
 obtain⟨x,H1,I1,r1,q1⟩:=zz20_0
 refine G2 (HQ (thn (hi pins s1 σ H1 _ I1 q1) fun iv s2 zz21_0=>?_))
 obtain⟨y,H2,I2,r2,q2⟩:=zz21_0
 refine G2 (Jg (G2 (HQ (thn (hs pins s2 σ H2 x y v ov iv u _ I2 r1 r2 r q2) fun _ s3 zz22_0=>?_))))
 obtain⟨H3,I3,q3⟩:=zz22_0
 exact wpAny_release ⟨σ,H3,I3,q3⟩
def Cn(te:TE)(g:TG):TS:=fun D σ H=>te σ H fun x H1=>g x σ H1 D.nx
theorem BQ{tg e:Expr}{te:TE}{g:TG}(he:PE X e te)(hg:PG X tg g)(hs:swapsWithSole [tg] e pos.line X.env=pure false:=by rfl)(hw:swappedStores [tg] e X.env=pure none:=by rfl) (h1:(Hv [tg] X.env).map (·.2)=[assign tg X.env]:=by rfl):PS X (.Assign [tg] e pos) (Cn te g):=by intro pins s σ H D I h;refine wpAny_Assign_stores (thn (he pins s σ H _ I h) fun v s1 zz23_0=>?_) hs hw;obtain⟨x,H1,I1,r1,q1⟩:=zz23_0;rw[h1];exact thn (hg pins s1 σ H1 x v _ I1 r1 q1) fun _ s2 q=>q
theorem Dc{i:Nat}{x:Str}{e:Expr}{te:TE}{pos':Pos}(hN:X.N.Nodup)(hi:X.N[i]?=some x)(hx:Loc X.env.scope x)(he:PE X e te)(hs:swapsWith e (some (.Name x pos')) pos.line X.env=pure false:=by rfl)(hf:X.fn x=true\/X.env.scope.names.lookup x=some .local:=by first|exact .inl rfl|exact .inr rfl|assumption) : PS X (.Assign [.Name x pos'] e pos) (Cn te (jd i)):=by intro pins s σ H D I h;refine wpAny_Assign_Name (thn (he pins s σ H _ I h) fun v s1 zz24_0=>?_) hs;obtain⟨y,H1,I1,r1,q1⟩:=zz24_0;exact gx I1 hN hi hx r1 (fun s2 I2=>⟨_,H1,I2,q1⟩) hf
def FH(i j:Nat)(ta:TA):TS:=fun D σ H=>ta σ H fun vs H1=>∃v w,vs=[v,w]/\D.nx ((σ.set i (some v)).set j (some w)) H1
theorem C7{i j:Nat}{x y:Str}{a b:Expr}{ta:TA}{px py pt:Pos}{kt k2 pt2}(hc:X.calm=true)(hN:X.N.Nodup)(hi:X.N[i]?=some x)(hj:X.N[j]?=some y)(hij:i≠j)
 (hx:X.env.scope.names.lookup x=some .local) (hy:X.env.scope.names.lookup y=some .local) (ha:PA X [a,b] ta)
 (hw:swappedStores [.Tuple [.Name x px,.Name y py] kt pt] (.Tuple [a,b] k2 pt2) X.env=pure (some [x,y]))
 (hs:swapsWithSole [.Tuple [.Name x px,.Name y py] kt pt] (.Tuple [a,b] k2 pt2) pos.line X.env=pure false:=by rfl) :
 PS X (.Assign [.Tuple [.Name x px,.Name y py] kt pt] (.Tuple [a,b] k2 pt2) pos) (FH i j ta):=by
 intro pins s σ H D I h
 rw[exec_Assign_arm]
 refine G2 (Jg ?_)
 rw[hs]
 refine G2 (Gw ?_)
 rw[if_neg (by decide)]
 refine G2 (Tuple_ (thn (ha _ pins s σ H _ I h) fun us s1 zz25_0=>?_))
 obtain⟨vs,H1,I1,r1,q1⟩:=zz25_0
 obtain⟨v,w,e1,q1⟩:=q1
 subst e1
 obtain⟨u1,u2,rfl,rv,rw'⟩:∃u1 u2,us=[u1,u2]/\RelV v u1/\RelV w u2:=by
  cases r1 with
  |cons p q=>
   cases q with
   |cons p' q'=>
    cases q'
    exact⟨_,_,rfl,p,p'⟩
 refine HY ?_ (by show 2<=Gp;decide)
 have I2:Inv X pins σ H1 { s1 with heap:=s1.heap.push { cls:=.type "tuple",data:=.seq [u1,u2].toArray } }:=I1.kept (t':=s1.toks) fun b o e=>G4 _ e
 rw[hw]
 refine G2 (Gw ?_)
 show GA (GD X.prog X.w) X.A (do rule "assign.swapped-stores";let items <-unpackItems (.ref s1.heap.objs.size) 2 none;assignInOrder [fun v=>bindName X.env y v,fun v=>bindName X.env x v] items.reverse;pure Flow.next) _ _ _
 refine G2 (wpAny_rule (G2 (unpackItems_tuple (items:=#[u1,u2]) (I.ok.hd hc) (IsTup.new s1.heap _) fun h' hx'=>?_)))
 have I3:=I2.kept (h':=h') (t':=s1.toks) fun b o e=>hx' b o (GZ (Gu e)) e
 show GA _ _ (assignInOrder [fun v=>bindName X.env y v,fun v=>bindName X.env x v] [u2,u1] >>= fun _=>pure Flow.next) _ _ _
 refine G2 (assignInOrder_cons (wpAny_bindName (gx I3 hN hj (.inl hy) rw' (fun s2 I4=>?_) (.inr hy))))
 refine assignInOrder_cons (wpAny_bindName (gx I4 hN hi (.inl hx) rv (fun s3 I5=>assignInOrder_nil (Gw ?_)) (.inr hx)))
 rw[List.set_comm _ _ (Ne.symm hij)]at I5
 exact⟨_,H1,I5,q1⟩
end
section
variable{X:Cx}{pos:Pos}
def Cr(c:TT)(tb:TS):TS:=fun D σ H=>∃W:Nat->St->Hp->Prop,(∃m,W m σ H)/\∀m σ H,W m σ H->
 c σ H fun b H1=>if b=true then ∃N:St->Hp->Prop,(∀σ' H',N σ' H'->∃m',m'<m/\W m' σ' H')/\tb { D with nx:=N,ct:=N,bk:=D.nx } σ H1 else D.nx σ H1
theorem xK{c:Expr}{body:List Stmt}{tc:TT}{tb:TS}(hp:PassesOwn (GD X.prog X.w) X.A X.env X.xe)(hc:PT X c tc)(hb:PSs X body tb):PS X (.While c body [] pos) (Cr tc tb):=by
 intro pins s σ H D I h;obtain⟨W,⟨m0,w0⟩,turn⟩:=h;refine wpAny_While (codeAny_whileLoop (fun n s'=>∃σ' H',Inv X pins σ' H' s'/\W n σ' H') ?_ m0 ⟨σ,H,I,w0⟩);rintro n s1 ⟨σ1,H1,I1,w1⟩;refine J5 hp (thn (hc pins s1 σ1 H1 _ I1 (turn n σ1 H1 w1)) fun b s2 zz34_0=>?_);obtain⟨H2,I2,q2⟩:=zz34_0;cases b with
 |true=>
  obtain⟨N,hN,q2⟩:=q2
  rw[if_pos rfl]
  refine J5 hp (thn (hb pins s2 σ1 H2 _ I2 q2) fun f s3 q3=>?_)
  cases f with
  |next=>
   obtain⟨σ3,H3,I3,n3⟩:=q3
   obtain⟨m',hm,w3⟩:=hN σ3 H3 n3
   exact⟨m',hm,σ3,H3,I3,w3⟩
  |cont=>
   obtain⟨σ3,H3,I3,n3⟩:=q3
   obtain⟨m',hm,w3⟩:=hN σ3 H3 n3
   exact⟨m',hm,σ3,H3,I3,w3⟩
  |brk=>exact q3
  |ret v=>exact q3
 |false=>
  rw[if_neg G5]
  exact wpAny_execs_nil ⟨σ1,H2,I2,q2⟩
end
structure It where
 go:Nat->Hp->Prop
 yld:Nat->Hp->V->Hp->Prop
 stop:Nat->Hp->Prop
def gp(X:Cx)(pins:List (Addr×Obj))(H:Hp)(b:Addr):Prop:=
 H b=none/\b≠X.env.locals/\b∉X.fs/\(b∈X.ex\/X.s₀.heap.objs.size<=b)/\(∀x c,X.env.cells.lookup x=some c->c≠b)/\∀p∈X.pn++pins,p.1≠b
theorem Inv.wR{X:Cx}{pins:List (Addr×Obj)}{σ:St}{H H':Hp}{s:G3}{b:Addr}(I:Inv X pins σ H s)(hb:s.heap.objs.size<=b)(hn:H' b=none):gp X pins H' b:=by
 refine⟨hn,Nat.ne_of_gt (G6 I.lt hb),I.FK hb,.inr (Gy I.sz hb),fun x c e z=>?_,fun p hp z=>?_⟩
 ·obtain⟨v,q⟩:=I.cell x c e;exact absurd (G6 q.lt (by rw[z];exact hb)) (Im _)
 ·exact absurd (G6 (Gu (I.pin p hp).1) (by rw[z];exact hb)) (Im _)
structure Turn(P:GC)(w:Hd)(K:cc)(tg:Expr)(J:It)(fp:List Addr)(it:Addr)(tn:Nat->Heap->Prop):Prop where
 mem:it∈fp
 obj:∀i h,tn i h->∀b∈fp,∃o,h.get? b=some o/\∀v,o.data≠.cell v
 keep:∀i h h',tn i h->(∀b∈fp,∀o,h.get? b=some o->h'.get? b=some o)->tn i h'
 item:∀(X:Cx),X.prog=P->X.w=w->X.K=K->X.calm=true->∀(i:Nat) (pins:List (Addr×Obj)) (s:G3) (σ:St) (H:Hp) (E:G0->G3->Prop),Inv X pins σ H s->(∀b∈fp,gp X pins H b)->tn i s.heap->J.go i H->
  GA (GD P w) X.A (pyNext (.ref it)) (fun r s1=>∃u,r=some u/\
   GA (GD P w) X.A (letOwnedTupleGo tg (.ref it) u) (fun _ s2=>∃x H',Inv X pins σ H' s2/\RelV x u/\J.yld i H x H'/\tn (i+1) s2.heap/\∀b∈fp,H' b=none) E s1) E s
 done:∀(X:Cx),X.prog=P->X.w=w->X.K=K->X.calm=true->∀(i:Nat) (pins:List (Addr×Obj)) (s:G3) (σ:St) (H:Hp) (E:G0->G3->Prop),Inv X pins σ H s->(∀b∈fp,gp X pins H b)->tn i s.heap->J.stop i H->
  GA (GD P w) X.A (pyNext (.ref it)) (fun r s1=>r=none/\Inv X pins σ H s1) E s
 self:∀(A:He) (i:Nat) (s:G3) (Q:G0->G3->Prop) (E:G0->G3->Prop),tn i s.heap->Q (.ref it) s->GA (GD P w) A (pyIter (.ref it)) Q E s
abbrev TI:=St->Hp->(It->Hp->Prop)->Prop
def PIE(X:Cx)(pins:List (Addr×Obj))(σ:St)(tg:Expr)(R:It->Hp->Prop)(itv:G0)(s2:G3):Prop:=
 ∃(it:Addr) (fp:List Addr) (tn:Nat->Heap->Prop) (J:It) (H':Hp),itv=.ref it/\Inv X pins σ H' s2/\Turn X.prog X.w X.K tg J fp it tn/\tn 0 s2.heap/\(∀b∈fp,gp X pins H' b)/\R J H'
def PI(X:Cx)(tg iter:Expr)(wi:TI):Prop:=
 ∀(pins:List (Addr×Obj)) (s:G3) (σ:St) (H:Hp) (R:It->Hp->Prop),Inv X pins σ H s->wi σ H R->
  GA (GD X.prog X.w) X.A (eval iter X.env) (fun v s1=>GA (GD X.prog X.w) X.A (pyIter v) (PIE X pins σ tg R) X.xe s1) X.xe s
theorem tS{M:Model}{A:He}{E:G0->G3->Prop}{s:G3}{tg:Expr}{it:Addr}{u:G0}{o:Obj}{n:String}{vs:Array G0}{Q:Unit->G3->Prop}(ho:s.heap.get? it=some o)(hc:o.cls=.type n)(hd:o.data=.fields vs) (hn:["enumerate","zip","dict_itemiterator","dict_reverseitemiterator","odict_iterator","itertools.zip_longest","itertools.pairwise"].contains n=false) (hQ:Q () s):GA M A (letOwnedTupleGo tg (.ref it) u) Q E s:=by
 unfold letOwnedTupleGo
 cases tg<;>first
  |exact Gw hQ
  |(cases u<;>first
   |exact Gw hQ
   |(refine G2 (wpAny_load ho ?_)
     rw[hc,hd]
     show GA M A (if(["enumerate","zip","dict_itemiterator","dict_reverseitemiterator","odict_iterator","itertools.zip_longest","itertools.pairwise"].contains n&&vs[0]?==some (rawInt _))=true then _ else _) Q E s
     rw[if_neg (by intro h;rw[hn,Bool.false_and]at h;cases h)]
     exact Gw hQ))
def Itl(K:cc)(a:Addr):It:=
 ⟨fun i H=>∃xs x,SqL K H a xs/\xs[i]?=some x,fun i H x H'=>H'=H/\∀xs,SqL K H a xs->xs[i]?=some x,fun i H=>∃xs,SqL K H a xs/\xs.length<=i⟩
def Itt(K:cc)(a:Addr):It:=
 ⟨fun i H=>∃xs x,SqT K H a xs/\xs[i]?=some x,fun i H x H'=>H'=H/\∀xs,SqT K H a xs->xs[i]?=some x,fun i H=>∃xs,SqT K H a xs/\xs.length<=i⟩
def Itr(lo:Int)(n:Nat):It:=⟨fun i _=>i<n,fun i H x H'=>H'=H/\x=.int (lo+i),fun i _=>n<=i⟩
theorem vL{P:GC}{w:Hd}{K:cc}{tg:Expr}(a it:Addr):Turn P w K tg (Itl K a) [it] it (fun i h=>h.IsListIter it a i) where
 mem:=by simp
 obj:=fun i h st b hb=>by
  have e:b=it:=by simpa using hb
  subst e
  obtain⟨o,e,c,d⟩:=st
  exact⟨o,e,fun v z=>by rw[d]at z;cases z⟩
 keep:=fun i h h' st k=>st.at fun o e=>k it (by simp) o e
 item:=by
  intro X hP hw hK hc i pins s σ H E I hf st hg
  subst hP hw hK
  obtain⟨xs,x,hq,hx⟩:=hg
  obtain⟨its,rv,p,hz⟩:=I.list hq
  obtain⟨u,hu,ru⟩:=rv.get hx
  obtain⟨f0,f1,f2,f3,f4,f5⟩:=hf it (by simp)
  refine wpAny_pyNext_list_item st p.isList (x:=u) (by simpa using hu) fun h' st' sb=>?_
  have I1:Inv X pins σ H { s with heap:=h' }:=I.turned (t':=s.toks) (fun b o hb e=>(sb.2 b hb).trans e) f0 f1 f3 f4 f5
  obtain⟨o,e,c,d⟩:=id st'
  exact⟨u,rfl,tS (s:={ s with heap:=h' }) e c d (by decide) ⟨x,H,I1,ru,⟨rfl,fun ys hy=>by rw[I.qS hy hq];exact hx⟩,st',fun b hb=>(hf b hb).1⟩⟩
 done:=by
  intro X hP hw hK hc i pins s σ H E I hf st hg
  subst hP hw hK
  obtain⟨xs,hq,hx⟩:=hg
  obtain⟨its,rv,p,hz⟩:=I.list hq
  obtain⟨f0,f1,f2,f3,f4,f5⟩:=hf it (by simp)
  have hl:=rv.length
  exact wpAny_pyNext_list_end (I.ok.hd hc) st p.isList (by simp;omega) fun h' eb=>⟨rfl,I.turned (t':=s.toks) (fun b o hb e=>eb b o hb e) f0 f1 f3 f4 f5⟩
 self:=fun _ _ _ _ _ st h=>wpAny_pyIter_listiter st h
theorem rV{P:GC}{w:Hd}{K:cc}{tg:Expr}(a it:Addr):Turn P w K tg (Itt K a) [it] it (fun i h=>h.IsTupleIter it a i) where
 mem:=by simp
 obj:=fun i h st b hb=>by
  have e:b=it:=by simpa using hb
  subst e
  obtain⟨o,e,c,d⟩:=st
  exact⟨o,e,fun v z=>by rw[d]at z;cases z⟩
 keep:=fun i h h' st k=>st.at fun o e=>k it (by simp) o e
 item:=by
  intro X hP hw hK hc i pins s σ H E I hf st hg
  subst hP hw hK
  obtain⟨xs,x,hq,hx⟩:=hg
  obtain⟨its,rv,p,hz⟩:=I.tuple hq
  obtain⟨u,hu,ru⟩:=rv.get hx
  obtain⟨f0,f1,f2,f3,f4,f5⟩:=hf it (by simp)
  refine II st (show s.heap.IsTuple a its.toArray from p) (x:=u) (by simpa using hu) fun h' st' sb=>?_
  have I1:Inv X pins σ H { s with heap:=h' }:=I.turned (t':=s.toks) (fun b o hb e=>(sb.2 b hb).trans e) f0 f1 f3 f4 f5
  obtain⟨o,e,c,d⟩:=id st'
  exact⟨u,rfl,tS (s:={ s with heap:=h' }) e c d (by decide) ⟨x,H,I1,ru,⟨rfl,fun ys hy=>by rw[I.uZ hy hq];exact hx⟩,st',fun b hb=>(hf b hb).1⟩⟩
 done:=by
  intro X hP hw hK hc i pins s σ H E I hf st hg
  subst hP hw hK
  obtain⟨xs,hq,hx⟩:=hg
  obtain⟨its,rv,p,hz⟩:=I.tuple hq
  obtain⟨f0,f1,f2,f3,f4,f5⟩:=hf it (by simp)
  have hl:=rv.length
  exact wpAny_pyNext_tuple_end (I.ok.hd hc) st (show s.heap.IsTuple a its.toArray from p) (by simp;omega) fun h' eb=>⟨rfl,I.turned (t':=s.toks) (fun b o hb e=>eb b o hb e) f0 f1 f3 f4 f5⟩
 self:=fun _ _ _ _ _ st h=>wpAny_pyIter_tupleiter st h
theorem sj{P:GC}{w:Hd}{K:cc}{tg:Expr}(it:Addr)(lo:Int)(n:Nat):Turn P w K tg (Itr lo n) [it] it (fun i h=>IsRangeIter h it (lo+(i:Nat)*1) ((n:Int)-(i:Nat)) 1) where
 mem:=by simp
 obj:=fun i h st b hb=>by
  have e:b=it:=by simpa using hb
  subst e
  exact⟨_,st,fun v z=>by
   have z':Data.fields _=Data.cell v:=z
   cases z'⟩
 keep:=fun i h h' st k=>k it (by simp) _ st
 item:=by
  intro X hP hw hK hc i pins s σ H E I hf st hg
  subst hP hw hK
  obtain⟨f0,f1,f2,f3,f4,f5⟩:=hf it (by simp)
  have W:=Walks.range (prog:=X.prog) (w:=X.w) (I.ok.hd hc) it lo 1 n
  refine W.item i s _ _ hg st fun v h' tk hv st' kk=>?_
  obtain⟨t,rfl⟩:=hv
  have I1:Inv X pins σ H { s with heap:=h',toks:=tk }:=I.turned (fun b o hb e=>kk b o (by simpa using hb) e) f0 f1 f3 f4 f5
  refine⟨_,rfl,tS (s:={ s with heap:=h',toks:=tk }) (n:="range_iterator") st' rfl rfl (by decide) ⟨.int (lo+i),H,I1,⟨t,?_⟩,⟨rfl,rfl⟩,st',fun b hb=>(hf b hb).1⟩⟩
  rw[Int.mul_one]
 done:=by
  intro X hP hw hK hc i pins s σ H E I hf st hg
  subst hP hw hK
  obtain⟨f0,f1,f2,f3,f4,f5⟩:=hf it (by simp)
  exact wpAny_pyNext_range_end (I.ok.hd hc) st (by have:n<=i:=hg;omega) fun h' eb=>⟨rfl,I.turned (t':=s.toks) (fun b o hb e=>eb b o hb e) f0 f1 f3 f4 f5⟩
 self:=fun _ _ _ _ _ st h=>wpAny_pyIter_rangeiter st h
section
variable{X:Cx}{tg:Expr}
theorem yt{pins:List (Addr×Obj)}{σ:St}{H:Hp}{s:G3}{R:It->Hp->Prop}{E:G0->G3->Prop}{lo hi:Int}{t u v:Tok}{tk:Nat}(I:Inv X pins σ H s)(h1:-(2^62)<=lo)(h2:lo<2^62)(h3:-(2^62)<=hi)(h4:hi<2^62)
 (q:R (Itr lo (hi-lo).toNat) H):GA (GD X.prog X.w) X.A (pyIter (.ref s.heap.objs.size)) (PIE X pins σ tg R) E { s with heap:=s.heap.push { cls:=.type "range",data:=.fields #[.int lo t,.int hi u,.int 1 v] },toks:=tk }:=by
 refine wpAny_pyIter_range (IsRange.new ..) (small_one h1 h2 h3 h4) ?_
 have I1:Inv X pins σ H { s with heap:=s.heap.push { cls:=.type "range",data:=.fields #[.int lo t,.int hi u,.int 1 v] },toks:=tk }:=I.kept fun b o e=>G4 _ e
 refine⟨(s.heap.push { cls:=.type "range",data:=.fields #[.int lo t,.int hi u,.int 1 v] }).objs.size,[(s.heap.push { cls:=.type "range",data:=.fields #[.int lo t,.int hi u,.int 1 v] }).objs.size],_,_,H,rfl,
  I1.kept (t':=tk) fun b o e=>G4 _ e,sj _ lo (hi-lo).toNat,?_,fun b hb=>?_,q⟩
 ·have e1:lo+((0:Nat):Int)*1=lo:=by simp
  have e2:(((hi-lo).toNat:Nat):Int)-((0:Nat):Int)=Builtin.Range.rangeSize lo hi 1:=by rw[rangeSize_one];split<;>omega
  show IsRangeIter _ _ (lo+((0:Nat):Int)*1) ((((hi-lo).toNat:Nat):Int)-((0:Nat):Int)) 1
  rw[e1,e2]
  exact GB _ rfl
 ·have e:b=(s.heap.push { cls:=.type "range",data:=.fields #[.int lo t,.int hi u,.int 1 v] }).objs.size:=by simpa using hb
  subst e
  exact I1.wR (G9 _) (I1.hok.fresh (G9 _))
def DP(ta:TA):TI:=fun σ H R=>ta σ H fun vs H1=>∃j:Int,vs=[.int j]/\-(2^62)<=j/\j<2^62/\R (Itr 0 j.toNat) H1
theorem m5{a:Expr}{ta:TA}{p pos:Pos}(hg:Gl X "range")(hm:X.mg "range"=none)(ha:PA X [a] ta)(hs:Gx [a] X.env=[(false,eval a X.env)]:=by rfl):PI X tg (.Call (.Name "range" p) [a] [] pos) (DP ta):=by
 intro pins s σ H R I h;refine Call_ (kQ I hg hm boot_range (PyProof.Rows.callWith_type1 (thn (ha pos pins s σ H _ I h) fun us s1 zz37_0=>?_) hs rfl));obtain⟨vs,H1,I1,r1,q1⟩:=zz37_0;obtain⟨j,e,q1,q2,q⟩:=q1;subst e;cases r1 with
 |cons r rr=>
  cases rr
  obtain⟨t,rfl⟩:=r
  exact call_range_1 (yt I1 (by omega) (by omega) q1 q2 (by simpa using q))
def FY(wi:TI)(g:TG)(tb:TS):TS:=fun D σ H=>wi σ H fun J H1=>∃W:Nat->Nat->St->Hp->Prop,(∃m,W 0 m σ H1)/\∀i m σ H,W i m σ H->
 (J.stop i H/\D.nx σ H)\/(J.go i H/\∃N:St->Hp->Prop,(∀σ' H',N σ' H'->∃m',m'<m/\W (i+1) m' σ' H')/\∀x H',J.yld i H x H'->g x σ H' fun σ2 H2=>tb { D with nx:=N,ct:=N,bk:=D.nx } σ2 H2)
def kW(fp:List Addr)(h:Heap):List (Addr×Obj):=fp.filterMap fun b=>(h.get? b).map fun o=>(b,o)
theorem fO{fp:List Addr}{h:Heap}{b:Addr}{o:Obj}(hb:b∈fp)(e:h.get? b=some o):(b,o)∈kW fp h:=IZ.mpr ⟨b,hb,by rw[e];rfl⟩
theorem vN{fp:List Addr}{h:Heap}{p:Addr×Obj}(hp:p∈kW fp h):p.1∈fp/\h.get? p.1=some p.2:=by
 obtain⟨b,hb,e⟩:=IZ.mp hp;cases q:h.get? b with
 |none=>rw[q]at e;cases e
 |some o=>
  rw[q]at e
  have e':(b,o)=p:=Option.some.inj e
  subst e'
  exact⟨hb,q⟩
theorem Inv.pinned{pins:List (Addr×Obj)}{σ:St}{H:Hp}{s:G3}{fp:List Addr}(I:Inv X pins σ H s)(hf:∀b∈fp,gp X pins H b)(ho:∀b∈fp,∃o,s.heap.get? b=some o/\∀v,o.data≠.cell v):Inv X (pins++kW fp s.heap) σ H s:=
 I.uz fun p hp=>(GS.mp hp).elim (fun z=>I.pin p (Hn _ z)) fun z=>by
  obtain⟨hb,e⟩:=vN z
  obtain⟨f0,f1,f2,_⟩:=hf p.1 hb
  obtain⟨o,e',d⟩:=ho p.1 hb
  rw[e]at e';cases e'
  exact⟨e,f0,f1,f2,d⟩
theorem Inv.iS{pins pl:List (Addr×Obj)}{σ:St}{H:Hp}{s:G3}(I:Inv X (pins++pl) σ H s):Inv X pins σ H s:=I.uz fun p hp=>I.pin p (Hn _ (List.mem_append_left _ hp))
theorem xH{iter:Expr}{body:List Stmt}{wi:TI}{g:TG}{tb:TS}{pos:Pos}(hp:PassesOwn (GD X.prog X.w) X.A X.env X.xe)(hc:X.calm=true)(hi:PI X tg iter wi)(hg:PG X tg g)(hb:PSs X body tb)
 (hs:∀x,HZ iter X.env x=pure x:=by intro _;rfl):PS X (.For tg iter body [] pos) (FY wi g tb):=by
 intro pins s σ H D I h
 refine wpAny_For (thn (hi pins s σ H _ I h) fun v s1 h1=>thn h1 fun itv s2 h2=>?_) hs
 obtain⟨it,fp,tn,J,H2,e,I2,T,st2,f2,W,⟨m0,w0⟩,turn⟩:=h2
 subst e
 have stat:∀{H':Hp},(∀b∈fp,H' b=none)->∀b∈fp,gp X pins H' b:=fun hn b hb=>⟨hn b hb,(f2 b hb).2⟩
 refine codeAny_forLoop_any (fun n s'=>∃i σ' H',Inv X pins σ' H' s'/\tn i s'.heap/\(∀b∈fp,H' b=none)/\W i n σ' H') ?_ m0 ⟨0,σ,H2,I2,st2,fun b hb=>(f2 b hb).1,w0⟩
 rintro n s3 ⟨i,σ3,H3,I3,st3,fr3,w3⟩
 rcases turn i n σ3 H3 w3 with⟨stop,qn⟩|⟨go,N,hN,step⟩
 ·refine J5 hp (thn (T.done X rfl rfl rfl hc i pins s3 σ3 H3 X.xe I3 (stat fr3) st3 stop) fun r s4 zz38_0=>?_)
  obtain⟨hr,I4⟩:=zz38_0
  subst hr
  exact wpAny_execs_nil ⟨σ3,H3,I4,qn⟩
 ·refine J5 hp (thn (T.item X rfl rfl rfl hc i pins s3 σ3 H3 X.xe I3 (stat fr3) st3 go) fun r s4 zz39_0=>?_)
  obtain⟨u,hr,h4⟩:=zz39_0
  subst hr
  refine J5 hp (thn h4 fun _ s5 zz40_0=>?_)
  obtain⟨x,H5,I5,r5,y5,st5,fr5⟩:=zz40_0
  have I5':=I5.pinned (stat fr5) (T.obj _ _ st5)
  refine J5 hp (thn (hg _ s5 σ3 H5 x u _ I5' r5 (step x H5 y5)) fun _ s6 zz41_0=>?_)
  obtain⟨σ6,H6,I6,q6⟩:=zz41_0
  refine J5 hp (thn (hb _ s6 σ6 H6 _ I6 q6) fun f s7 q7=>?_)
  have again:∀{σ7:St} {H7:Hp},Inv X (pins++kW fp s5.heap) σ7 H7 s7->N σ7 H7->∃m,m<n/\∃i σ' H',Inv X pins σ' H' s7/\tn i s7.heap/\(∀b∈fp,H' b=none)/\W i m σ' H':=fun{σ7 H7} I7 n7=>by
   obtain⟨m',hm,w7⟩:=hN σ7 H7 n7
   refine⟨m',hm,i+1,σ7,H7,I7.iS,T.keep _ _ _ st5 fun b hb o e=>(I7.pin (b,o) (Hn _ (Hn _ (fO hb e)))).1,fun b hb=>?_,w7⟩
   obtain⟨o,e,d⟩:=T.obj _ _ st5 b hb
   exact(I7.pin (b,o) (Hn _ (Hn _ (fO hb e)))).2.1
  cases f with
  |next=>obtain⟨σ7,H7,I7,n7⟩:=q7;exact again I7 n7
  |cont=>obtain⟨σ7,H7,I7,n7⟩:=q7;exact again I7 n7
  |brk=>obtain⟨σ7,H7,I7,q7⟩:=q7;exact⟨σ7,H7,I7.iS,q7⟩
  |ret v=>obtain⟨x7,σ7,H7,I7,r7,q7⟩:=q7;exact⟨x7,σ7,H7,I7.iS,r7,q7⟩
end
theorem vt{lo:Int}{n:Nat}{g:TG}{tb:TS}{D:Ends}{σ:St}{H:Hp}(Pv:Nat->St->Hp->Prop)(h0:Pv 0 σ H)
 (hs:∀i σ H,i<n->Pv i σ H->g (.int (lo+i)) σ H fun σ2 H2=>tb { D with nx:=Pv (i+1),ct:=Pv (i+1),bk:=D.nx } σ2 H2) (hd:∀σ H,Pv n σ H->D.nx σ H) :
 ∃W:Nat->Nat->St->Hp->Prop,(∃m,W 0 m σ H)/\∀i m σ H,W i m σ H->
  ((Itr lo n).stop i H/\D.nx σ H)\/((Itr lo n).go i H/\∃N:St->Hp->Prop,(∀σ' H',N σ' H'->∃m',m'<m/\W (i+1) m' σ' H')/\∀x H',(Itr lo n).yld i H x H'->g x σ H' fun σ2 H2=>tb { D with nx:=N,ct:=N,bk:=D.nx } σ2 H2):=by
 refine⟨fun i m σ H=>m=n-i/\i<=n/\Pv i σ H,⟨n,by simp,IU _,h0⟩,?_⟩
 rintro i m σ H ⟨rfl,hi,p⟩
 by_cases hlt:i<n
 ·refine .inr ⟨hlt,Pv (i+1),fun σ' H' p'=>⟨n-(i+1),by omega,rfl,hlt,p'⟩,fun x H' y=>?_⟩
  obtain⟨e,y⟩:=y
  subst e y
  exact hs i σ _ hlt p
 ·have e:i=n:=by omega
  subst e
  exact .inl ⟨G9 _,hd σ H p⟩
abbrev R2:=V->V->Hp->VK->Prop
def OpR(X:Cx)(f:G0->G0->Sem G0)(r:R2):Prop:=
 ∀(pins:List (Addr×Obj)) (s:G3) (σ:St) (H:Hp) (x y:V) (v u:G0) (Q:VK),Inv X pins σ H s->RelV x v->RelV y u->r x y H Q->
  GA (GD X.prog X.w) X.A (f v u) (EP X pins σ Q) X.xe s
def UnR(X:Cx)(f:G0->Sem G0)(r:V->Hp->VK->Prop):Prop:=
 ∀(pins:List (Addr×Obj)) (s:G3) (σ:St) (H:Hp) (x:V) (v:G0) (Q:VK),Inv X pins σ H s->RelV x v->r x H Q->
  GA (GD X.prog X.w) X.A (f v) (EP X pins σ Q) X.xe s
def b5(X:Cx)(f:G0)(r:List V->Hp->VK->Prop):Prop:=
 ∀(pins:List (Addr×Obj)) (s:G3) (σ:St) (H:Hp) (xs:List V) (us:List G0) (Q:VK),Inv X pins σ H s->Vals xs us->r xs H Q->
  GA (GD X.prog X.w) X.A (call f us) (EP X pins σ Q) X.xe s
def F9(X:Cx)(r:V->Hp->(Bool->Hp->Prop)->Prop):Prop:=
 ∀(pins:List (Addr×Obj)) (s:G3) (σ:St) (H:Hp) (x:V) (v:G0) (Q:Bool->Hp->Prop),Inv X pins σ H s->RelV x v->r x H Q->
  GA (GD X.prog X.w) X.A (truthy v) (TP X pins σ Q) X.xe s
def tOp(r:R2)(ta tb:TE):TE:=fun σ H Q=>ta σ H fun x H1=>tb σ H1 fun y H2=>r x y H2 Q
def tUn(r:V->Hp->VK->Prop)(ta:TE):TE:=fun σ H Q=>ta σ H fun x H1=>r x H1 Q
def rI(C:Int->Int->Prop)(g:Int->Int->V):R2:=fun x y H Q=>∃i j,x=.int i/\y=.int j/\C i j/\Q (g i j) H
def rI0(g:Int->Int->V):R2:=fun x y H Q=>∃i j,x=.int i/\y=.int j/\Q (g i j) H
def rU(g:Int->V):V->Hp->VK->Prop:=fun x H Q=>∃i,x=.int i/\Q (g i) H
section
variable{X:Cx}{a b c:Expr}{ta tb tc:TE}{pos:Pos}
theorem CU(ha:PE X a ta)(hb:PE X b tb){pins:List (Addr×Obj)}{s:G3}{σ:St}{H:Hp}{R:V->V->Hp->Prop}(I:Inv X pins σ H s) (h:ta σ H fun x H1=>tb σ H1 fun y H2=>R x y H2) {Q:G0->G3->Prop} {f:G0->G0->Sem G0} (hf:∀v u s2 x y H2,Inv X pins σ H2 s2->RelV x v->RelV y u->R x y H2->GA (GD X.prog X.w) X.A (f v u) Q X.xe s2) : GA (GD X.prog X.w) X.A (eval a X.env) (fun v s₁=>GA (GD X.prog X.w) X.A (eval b X.env) (fun u s₂=>GA (GD X.prog X.w) X.A (f v u) Q X.xe s₂) X.xe s₁) X.xe s:=by refine thn (ha pins s σ H _ I h) fun v s1 zz43_0=>?_;obtain⟨x,H1,I1,r1,q1⟩:=zz43_0;refine thn (hb pins s1 σ H1 _ I1 q1) fun u s2 zz44_0=>?_;obtain⟨y,H2,I2,r2,q2⟩:=zz44_0;exact hf v u s2 x y H2 I2 r1 r2 q2
theorem Ee{op:Operator}{r:R2}(ho:OpR X (Iu op) r)(ha:PE X a ta)(hb:PE X b tb):PE X (.BinOp a op b pos) (tOp r ta tb):=by intro pins s σ H Q I h;exact wpAny_BinOp (CU ha hb I h fun v u s2 x y H2 I2 rx ry q=>ho pins s2 σ H2 x y v u Q I2 rx ry q)
theorem En{op:UnaryOp}{r:V->Hp->VK->Prop}(ho:UnR X (unaryOp op) r)(ha:PE X a ta):PE X (.UnaryOp op a pos) (tUn r ta):=by intro pins s σ H Q I h;exact UnaryOp_ (thn (ha pins s σ H _ I h) fun v s1 zz45_0=>by obtain⟨x,H1,I1,r1,q1⟩:=zz45_0;exact(ho pins s1 σ H1 x v Q I1 r1 q1))
theorem opI{f:G0->G0->Sem G0}{C:Int->Int->Prop}{g:Int->Int->Int} (rule:∀(i j:Int) (t u:Tok) (s:G3) (Q:G0->G3->Prop) (E:G0->G3->Prop),C i j->Q (.int (g i j) s.toks) { s with toks:=s.toks+1 }->GA (GD X.prog X.w) X.A (f (.int i t) (.int j u)) Q E s) : OpR X f (rI C fun i j=>.int (g i j)):=by intro pins s σ H x y v u Q I rx ry h;obtain⟨i,j,rfl,rfl,hc,q⟩:=h;obtain⟨t,rfl⟩:=rx;obtain⟨t',rfl⟩:=ry;exact rule i j t t' s _ _ hc ⟨.int (g i j),H,I.tok _,⟨_,rfl⟩,q⟩
theorem D8{f:G0->G0->Sem G0}{g:Int->Int->Int} (rule:∀(i j:Int) (t u:Tok) (s:G3) (Q:G0->G3->Prop) (E:G0->G3->Prop),Q (.int (g i j) s.toks) { s with toks:=s.toks+1 }->GA (GD X.prog X.w) X.A (f (.int i t) (.int j u)) Q E s) : OpR X f (rI0 fun i j=>.int (g i j)):=by intro pins s σ H x y v u Q I rx ry h;obtain⟨i,j,rfl,rfl,q⟩:=h;obtain⟨t,rfl⟩:=rx;obtain⟨t',rfl⟩:=ry;exact rule i j t t' s _ _ ⟨.int (g i j),H,I.tok _,⟨_,rfl⟩,q⟩
theorem AM{f:G0->G0->Sem G0}{g:Int->Int->Bool} (rule:∀(i j:Int) (t u:Tok) (s:G3) (Q:G0->G3->Prop) (E:G0->G3->Prop),Q (.bool (g i j)) s->GA (GD X.prog X.w) X.A (f (.int i t) (.int j u)) Q E s) : OpR X f (rI0 fun i j=>.bl (g i j)):=by intro pins s σ H x y v u Q I rx ry h;obtain⟨i,j,rfl,rfl,q⟩:=h;obtain⟨t,rfl⟩:=rx;obtain⟨t',rfl⟩:=ry;exact rule i j t t' s _ _ ⟨.bl (g i j),H,I,rfl,q⟩
def DY(i j:Int):Prop:=0<=j/\j<=1000000/\i.natAbs<2^64
theorem Ct:OpR X (Iu .Add) (rI0 fun i j=>.int (i+j)):=D8 fun _ _ _ _ _ _ _ q=>add_int q
theorem CT:OpR X (Iu .Sub) (rI0 fun i j=>.int (i-j)):=D8 fun _ _ _ _ _ _ _ q=>sub_int q
theorem zW:OpR X (Iu .Mod) (rI (fun _ j=>j≠0) fun i j=>.int (i.fmod j)):=opI fun _ _ _ _ _ _ _ hc q=>mod_int' hc q
theorem CM:OpR X (Iu .Pow) (rI DY fun i j=>.int (i^j.toNat)):=opI fun _ _ _ _ _ _ _ hc q=>pow_int_small hc.1 hc.2.1 hc.2.2 q
theorem unI{f:G0->Sem G0}{g:Int->Int} (rule:∀(i:Int) (t:Tok) (s:G3) (Q:G0->G3->Prop) (E:G0->G3->Prop),Q (.int (g i) s.toks) { s with toks:=s.toks+1 }->GA (GD X.prog X.w) X.A (f (.int i t)) Q E s) : UnR X f (rU fun i=>.int (g i)):=by intro pins s σ H x v Q I rx h;obtain⟨i,rfl,q⟩:=h;obtain⟨t,rfl⟩:=rx;exact rule i t s _ _ ⟨.int (g i),H,I.tok _,⟨_,rfl⟩,q⟩
theorem Df:UnR X (unaryOp .USub) (rU fun i=>.int (-i)):=unI fun _ _ _ _ _ q=>neg_int q
end
def DC:V->V->Bool
 |.non,.non=>true|.non,.int _=>true|.int _,.non=>true|.non,.bl _=>true|.bl _,.non=>true|.non,.str _=>true|.str _,.non=>true
 |.int _,.int _=>true|.bl _,.bl _=>true|.str _,.str _=>true|.byt _,.byt _=>true
 |.int _,.str _=>true|.str _,.int _=>true|.bl _,.str _=>true|.str _,.bl _=>true
 |_,_=>false
def rEq:R2:=fun x y H Q=>DC x y=true/\Q (.bl (decide (x=y))) H
def rNe:R2:=fun x y H Q=>DC x y=true/\Q (.bl (!decide (x=y))) H
theorem t5{i j:Int}:decide (V.int i=V.int j)=(i==j):=by rw[GU];simp
theorem yk{i j:Bool}:decide (V.bl i=V.bl j)=(i==j):=by rw[GU];simp
theorem tG{i j:Str}:decide (V.str i=V.str j)=(i==j):=by rw[GU];simp
theorem ur{i j:Array UInt8}:decide (V.byt i=V.byt j)=(i.toList==j.toList):=by rw[GU];cases i;cases j;simp
section
variable{X:Cx}{a b c:Expr}{ta tb tc:TE}{pos:Pos}
theorem bh{pins:List (Addr×Obj)}{σ:St}{H:Hp}{s:G3}{Q:VK}{k k':Bool}(I:Inv X pins σ H s)(q:Q (.bl k) H)(e:k=k'):EP X pins σ Q (.bool k') s:=by subst e;exact⟨.bl k,H,I,rfl,q⟩
theorem Fd:OpR X (GF .Eq) rEq:=by
 intro pins s σ H x y v u Q I rx ry h;obtain⟨hs,q⟩:=h;cases x with
 |non=>
  cases rx
  cases y with
  |non=>cases ry;exact PySem.EqNone.eq_none_none (bh I q (by simp))
  |bl j=>cases ry;exact PySem.EqNone.eq_none_bool (bh I q (by simp))
  |int j=>obtain⟨t',rfl⟩:=ry;exact PySem.EqNone.eq_none_int (bh I q (by simp))
  |str j=>obtain⟨t',rfl⟩:=ry;exact PySem.EqNone.eq_none_str (bh I q (by simp))
  |_=>exact absurd (show false=true from hs) G5
 |bl i=>
  cases rx
  cases y with
  |non=>cases ry;exact PySem.EqNone.eq_bool_none (bh I q (by simp))
  |bl j=>cases ry;exact eq_bool (bh I q yk)
  |str j=>obtain⟨t',rfl⟩:=ry;exact PySem.EqMixed.eq_bool_str (bh I q (by simp))
  |_=>exact absurd (show false=true from hs) G5
 |int i=>
  obtain⟨t,rfl⟩:=rx
  cases y with
  |non=>cases ry;exact PySem.EqNone.eq_int_none (bh I q (by simp))
  |int j=>obtain⟨t',rfl⟩:=ry;exact eq_int (bh I q t5)
  |str j=>obtain⟨t',rfl⟩:=ry;exact PySem.EqMixed.eq_int_str (bh I q (by simp))
  |_=>exact absurd (show false=true from hs) G5
 |str i=>
  obtain⟨t,rfl⟩:=rx
  cases y with
  |non=>cases ry;exact PySem.EqNone.eq_str_none (bh I q (by simp))
  |bl j=>cases ry;exact PySem.EqMixed.eq_str_bool (bh I q (by simp))
  |int j=>obtain⟨t',rfl⟩:=ry;exact PySem.EqMixed.eq_str_int (bh I q (by simp))
  |str j=>obtain⟨t',rfl⟩:=ry;exact eq_str (bh I q tG)
  |_=>exact absurd (show false=true from hs) G5
 |byt i=>
  obtain⟨t,rfl⟩:=rx
  cases y with
  |byt j=>obtain⟨t',rfl⟩:=ry;exact PySem.W.eq_bytes (bh I q ur)
  |_=>exact absurd (show false=true from hs) G5
 |_=>cases y<;>exact absurd (show false=true from hs) G5
theorem D0:OpR X (GF .NotEq) rNe:=by
 intro pins s σ H x y v u Q I rx ry h;obtain⟨hs,q⟩:=h;cases x with
 |non=>
  cases rx
  cases y with
  |non=>cases ry;exact PySem.EqNone.ne_none_none (bh I q (by simp))
  |bl j=>cases ry;exact PySem.EqNone.ne_none_bool (bh I q (by simp))
  |int j=>obtain⟨t',rfl⟩:=ry;exact PySem.EqNone.ne_none_int (bh I q (by simp))
  |str j=>obtain⟨t',rfl⟩:=ry;exact PySem.EqNone.ne_none_str (bh I q (by simp))
  |_=>exact absurd (show false=true from hs) G5
 |bl i=>
  cases rx
  cases y with
  |non=>cases ry;exact PySem.EqNone.ne_bool_none (bh I q (by simp))
  |bl j=>cases ry;exact ne_bool (bh I q (congrArg not yk))
  |str j=>obtain⟨t',rfl⟩:=ry;exact PySem.EqMixed.ne_bool_str (bh I q (by simp))
  |_=>exact absurd (show false=true from hs) G5
 |int i=>
  obtain⟨t,rfl⟩:=rx
  cases y with
  |non=>cases ry;exact PySem.EqNone.ne_int_none (bh I q (by simp))
  |int j=>obtain⟨t',rfl⟩:=ry;exact ne_int (bh I q (congrArg not t5))
  |str j=>obtain⟨t',rfl⟩:=ry;exact PySem.EqMixed.ne_int_str (bh I q (by simp))
  |_=>exact absurd (show false=true from hs) G5
 |str i=>
  obtain⟨t,rfl⟩:=rx
  cases y with
  |non=>cases ry;exact PySem.EqNone.ne_str_none (bh I q (by simp))
  |bl j=>cases ry;exact PySem.EqMixed.ne_str_bool (bh I q (by simp))
  |int j=>obtain⟨t',rfl⟩:=ry;exact PySem.EqMixed.ne_str_int (bh I q (by simp))
  |str j=>obtain⟨t',rfl⟩:=ry;exact ne_str (bh I q (congrArg not tG))
  |_=>exact absurd (show false=true from hs) G5
 |byt i=>
  obtain⟨t,rfl⟩:=rx
  cases y with
  |byt j=>obtain⟨t',rfl⟩:=ry;exact PySem.W.ne_bytes (bh I q (congrArg not ur))
  |_=>exact absurd (show false=true from hs) G5
 |_=>cases y<;>exact absurd (show false=true from hs) G5
theorem ER:OpR X (GF .Lt) (rI0 fun i j=>.bl (decide (i<j))):=AM fun _ _ _ _ _ _ _ q=>lt_int q
theorem Ec:OpR X (GF .LtE) (rI0 fun i j=>.bl (decide (i<=j))):=AM fun _ _ _ _ _ _ _ q=>le_int q
theorem DL:OpR X (GF .Gt) (rI0 fun i j=>.bl (decide (j<i))):=AM fun _ _ _ _ _ _ _ q=>gt_int q
theorem Eg:OpR X (GF .GtE) (rI0 fun i j=>.bl (decide (j<=i))):=AM fun _ _ _ _ _ _ _ q=>ge_int q
theorem pL:OpR X (GF .NotIn) (fun x y H Q=>∃i j,x=.str i/\y=.str j/\Q (.bl (!(!(Builtin.Str.occurrences j i 0 j.length 1).isEmpty))) H):=by intro pins s σ H x y v u Q I rx ry h;obtain⟨i,j,rfl,rfl,q⟩:=h;obtain⟨t,rfl⟩:=rx;obtain⟨t',rfl⟩:=ry;exact notIn_str (bh I q rfl)
theorem OpR.or{f:G0->G0->Sem G0}{r r':R2}(h:OpR X f r)(h':OpR X f r'):OpR X f (fun x y H Q=>r x y H Q\/r' x y H Q):=by
 intro pins s σ H x y v u Q I rx ry q;rcases q with q|q
 ·exact h pins s σ H x y v u Q I rx ry q
 ·exact h' pins s σ H x y v u Q I rx ry q
theorem xk(b:Expr){op:CmpOp}(h:op≠.In:=by decide)(h2:op≠.NotIn:=by decide):behindInMarks op b=false:=by
 have e1:(op==CmpOp.In)=false:=by cases op<;>first|rfl|exact absurd rfl h
 have e2:(op==CmpOp.NotIn)=false:=by cases op<;>first|rfl|exact absurd rfl h2
 cases b<;>simp[behindInMarks,e1,e2]
theorem zw{op:CmpOp}{r:R2}(ho:OpR X (GF op) r)(ha:PE X a ta)(hb:PE X b tb)(hm:behindInMarks op b=false):PE X (.Compare a [op] [b] pos) (tOp r ta tb):=by intro pins s σ H Q I h;exact wpAny_Compare1 (CU ha hb I h fun v u s2 x y H2 I2 rx ry q=>ho pins s2 σ H2 x y v u Q I2 rx ry q) hm
def yF(t:TE):TT:=fun σ H Q=>t σ H fun x H'=>∃k,x=.bl k/\Q k H'
theorem Ax{op:CmpOp}{r:R2}(ho:OpR X (GF op) r)(ha:PE X a ta)(hb:PE X b tb)(hm:behindInMarks op b=false):PT X (.Compare a [op] [b] pos) (yF (tOp r ta tb)):=by intro pins s σ H Q I h;refine wpAny_isTrue_Compare1 (thn (ha pins s σ H _ I h) fun v s1 ⟨x,H1,I1,r1,q1⟩=>thn (hb pins s1 σ H1 _ I1 q1) fun u s2 ⟨y,H2,I2,r2,q2⟩=>thn (ho pins s2 σ H2 x y v u _ I2 r1 r2 q2) fun c s3 ⟨z,H3,I3,r3,k,e,q3⟩=>?_) hm;subst e;cases r3;exact HF ⟨H3,I3,q3⟩
def rW(r r':R2)(ta tb tc:TE):TE:=fun σ H Q=>ta σ H fun x H1=>tb σ H1 fun y H2=>r x y H2 fun z H3=>∃k,z=.bl k/\
 (if k=true then tc σ H3 fun w' H4=>r' y w' H4 Q else Q (.bl false) H3)
theorem wy{op op':CmpOp}{r r':R2}(ho:OpR X (GF op) r)(ho':OpR X (GF op') r')(ha:PE X a ta)(hb:PE X b tb)(hc:PE X c tc) (hm:lastMarks [op,op'] [b,c]=false:=by with_unfolding_all rfl):PE X (.Compare a [op,op'] [b,c] pos) (rW r r' ta tb tc):=by
 intro pins s σ H Q I h;refine Compare_chain (thn (ha pins s σ H _ I h) fun v s1 ⟨x,H1,I1,r1,q1⟩=>chain_link (thn (hb pins s1 σ H1 _ I1 q1) fun u s2 ⟨y,H2,I2,r2,q2⟩=>thn (ho pins s2 σ H2 x y v u _ I2 r1 r2 q2) fun d s3 ⟨z,H3,I3,r3,k,e,q3⟩=>?_)) hm;subst e;cases r3;refine HF ?_;cases k with
 |false=>exact ite_ff ⟨.bl false,H3,I3,rfl,q3⟩
 |true=>exact ite_tt (chain_last (thn (hc pins s3 σ H3 _ I3 q3) fun w' s4 zz46_0=>by obtain⟨z',H4,I4,r4,q4⟩:=zz46_0;exact(ho' pins s4 σ H4 y z' u w' Q I4 r2 r4 q4)))
theorem wV{op op':CmpOp}{r r':R2}(ho:OpR X (GF op) r)(ho':OpR X (GF op') r')(ha:PE X a ta)(hb:PE X b tb)(hc:PE X c tc) (hm:lastMarks [op,op'] [b,c]=false:=by with_unfolding_all rfl):PT X (.Compare a [op,op'] [b,c] pos) (yF (rW r r' ta tb tc)):=by
 intro pins s σ H Q I h;refine isTrue_chain (thn (ha pins s σ H _ I h) fun v s1 ⟨x,H1,I1,r1,q1⟩=>test_link (thn (hb pins s1 σ H1 _ I1 q1) fun u s2 ⟨y,H2,I2,r2,q2⟩=>thn (ho pins s2 σ H2 x y v u _ I2 r1 r2 q2) fun d s3 ⟨z,H3,I3,r3,k,e,q3⟩=>?_)) hm;subst e;cases r3;refine HF ?_;cases k with
 |false=>
  obtain⟨k',e',q'⟩:=q3
  cases e'
  exact ite_ff ⟨H3,I3,q'⟩
 |true=>
  refine ite_tt (test_last (thn (hc pins s3 σ H3 _ I3 q3) fun w' s4 ⟨z',H4,I4,r4,q4⟩=>thn (ho' pins s4 σ H4 y z' u w' _ I4 r2 r4 q4) fun d' s5 zz47_0=>?_))
  obtain⟨z2,H5,I5,r5,k2,e2,q5⟩:=zz47_0
  subst e2
  cases r5
  exact HF ⟨H5,I5,q5⟩
def DN(K:cc)(x:V)(H:Hp)(k:Bool):Prop:=
 match x with
 |.non=>k=false
 |.bl b=>k=b
 |.int i=>k=(i != 0)
 |.str y=>y.length<=Gp/\k=((y.length:Int) != 0)
 |.byt y=>y.size<=Gp/\k=((y.size:Int) != 0)
 |.ref p=>(∃xs,SqL K H p xs/\k=!xs.isEmpty)\/(∃xs,SqT K H p xs/\k=!xs.isEmpty)\/∃kvs,H p=some (.dK kvs)/\k=!kvs.isEmpty
 |_=>False
theorem tf{κ:Type}{kvs:List (κ×V)}{vs:List (κ×G0)}(r:KV kvs vs):(!vs.isEmpty)=!kvs.isEmpty:=by cases r<;>rfl
theorem lQ{xs:List V}{its:List G0}(r:Vals xs its):(!its.toArray.isEmpty)=!xs.isEmpty:=by cases r<;>simp
theorem iz:(Gp:Nat)<2^63:=by rw[sizeLine_eq];decide
theorem Bz:F9 X (fun x H Q=>∃k,DN X.K x H k/\Q k H):=by
 intro pins s σ H x v Q I rx h;obtain⟨k,e,q⟩:=h;have hl:=iz;have hs:Gp=16777216:=sizeLine_eq;cases x with
 |non=>
  cases rx
  have e':k=false:=e
  subst e'
  exact truthy_none ⟨H,I,q⟩
 |bl b=>
  cases rx
  have e':k=b:=e
  subst e'
  exact HF ⟨H,I,q⟩
 |int i=>
  obtain⟨t,rfl⟩:=rx
  have e':k=(i != 0):=e
  subst e'
  exact PySem.P.truthy_int ⟨H,I,q⟩
 |str y=>
  obtain⟨t,rfl⟩:=rx
  obtain⟨hy,e'⟩:y.length<=Gp/\k=((y.length:Int) != 0):=e
  subst e'
  exact PySem.P.truthy_str (by omega) ⟨H,I.tok _,q⟩
 |byt y=>
  obtain⟨t,rfl⟩:=rx
  obtain⟨hy,e'⟩:y.size<=Gp/\k=((y.size:Int) != 0):=e
  subst e'
  exact PySem.W.truthy_bytes (by omega) ⟨H,I.tok _,q⟩
 |ref p=>
  cases rx
  have e':(∃xs,SqL X.K H p xs/\k=!xs.isEmpty)\/(∃xs,SqT X.K H p xs/\k=!xs.isEmpty)\/∃kvs,H p=some (.dK kvs)/\k=!kvs.isEmpty:=e
  rcases e' with⟨xs,hx,e'⟩|⟨xs,hx,e'⟩|⟨kvs,hx,e'⟩
  ·subst e';obtain⟨its,r,pl,hz⟩:=I.list hx;have hlen:=r.length;exact wpAny_truthy_list pl.isList (by simp only[Gz];omega) ⟨H,I.tok _,by rw[lQ r];exact q⟩
  ·subst e';obtain⟨its,r,pl,hz⟩:=I.tuple hx;have hlen:=r.length;exact truthy_tuple pl (by simp only[Gz];omega) ⟨H,I.tok _,by rw[lQ r];exact q⟩
  ·subst e';obtain⟨hz,hS,vs,r,m⟩:kvs.length<=Gp/\(p==sysModules)=false/\∃vs,KV kvs vs/\s.heap.DictOf (oa X.prog X.w) p vs:=I.hok p _ hx;have hlen:kvs.length=vs.length:=Paired.length r;exact wpAny_truthy_dict hS m (by omega) ⟨H,I.tok _,by rw[tf r];exact q⟩
 |_=>exact(show False from e).elim
theorem xw(ha:PE X a ta)(he:∀whole,isTrue a X.env whole=(do let v <-whole;standAt a.pos;holding [v] (truthy v))) :
 PT X a (fun σ H Q=>ta σ H fun x H'=>∃k,DN X.K x H' k/\Q k H'):=by
 intro pins s σ H Q I h
 exact isTrue_plain (thn (ha pins s σ H _ I h) fun v s1 zz48_0=>by obtain⟨x,H1,I1,r1,q1⟩:=zz48_0;exact(Bz pins s1 σ H1 x v Q I1 r1 q1)) (he _)
theorem sO:OpR X (Iu .Add) (fun x y H Q=>∃i j,x=.str i/\y=.str j/\i.length+j.length<=Gp/\Q (.str (i++j)) H):=by intro pins s σ H x y v u Q I rx ry h;obtain⟨i,j,rfl,rfl,hz,q⟩:=h;obtain⟨t,rfl⟩:=rx;obtain⟨t',rfl⟩:=ry;exact add_str (fun t' tk=>⟨.str (i++j),H,I.tok _,⟨_,rfl⟩,q⟩) hz
theorem vals1{x:V}{us:List G0}(r:Vals [x] us):∃u,us=[u]/\RelV x u:=by
 cases r with
 |cons r1 r2=>cases r2;exact⟨_,rfl,r1⟩
theorem vals2{x y:V}{us:List G0}(r:Vals [x,y] us):∃u w',us=[u,w']/\RelV x u/\RelV y w':=by
 cases r with
 |cons r1 r2=>
  cases r2 with
  |cons r3 r4=>cases r4;exact⟨_,_,rfl,r1,r3⟩
theorem yg:b5 X (.builtin "abs") (fun xs H Q=>∃i,xs=[.int i]/\Q (.int (if i<0 then -i else i)) H):=by intro pins s σ H xs us Q I r h;obtain⟨i,rfl,q⟩:=h;obtain⟨u,rfl,t,rfl⟩:=vals1 r;exact call_abs_int fun u tk=>⟨.int (if i<0 then -i else i),H,I.tok _,⟨_,rfl⟩,q⟩
theorem vR(hc:X.calm=true):b5 X (.builtin "max") (fun xs H Q=>∃i j,xs=[.int i,.int j]/\Q (.int (if j>i then j else i)) H):=by
 intro pins s σ H xs us Q I r h;obtain⟨i,j,rfl,q⟩:=h;obtain⟨u,w',rfl,⟨t,rfl⟩,⟨t',rfl⟩⟩:=vals2 r;refine max_two_ints (I.ok.hd hc) fun h' tk k=>⟨_,H,I.kept k,?_,q⟩;by_cases hj:j>i
 ·rw[if_pos hj,if_pos hj];exact⟨_,rfl⟩
 ·rw[if_neg hj,if_neg hj];exact⟨_,rfl⟩
theorem vg(hc:X.calm=true):b5 X (.builtin "min") (fun xs H Q=>∃i j,xs=[.int i,.int j]/\Q (.int (if j<i then j else i)) H):=by
 intro pins s σ H xs us Q I r h;obtain⟨i,j,rfl,q⟩:=h;obtain⟨u,w',rfl,⟨t,rfl⟩,⟨t',rfl⟩⟩:=vals2 r;refine min_two_ints (I.ok.hd hc) fun h' tk k=>⟨_,H,I.kept k,?_,q⟩;by_cases hj:j<i
 ·rw[if_pos hj,if_pos hj];exact⟨_,rfl⟩
 ·rw[if_neg hj,if_neg hj];exact⟨_,rfl⟩
theorem vE:b5 X (.type "int") (fun xs H Q=>(∃i,xs=[.int i]/\Q (.int i) H)\/∃k,xs=[.bl k]/\Q (.int (if k then 1 else 0)) H):=by
 intro pins s σ H xs us Q I r h;rcases h with⟨i,rfl,q⟩|⟨k,rfl,q⟩
 ·obtain⟨u,rfl,t,rfl⟩:=vals1 r;exact call_int_int ⟨.int i,H,I,⟨_,rfl⟩,q⟩
 ·obtain⟨u,rfl,r1⟩:=vals1 r;cases r1;exact call_int_bool ⟨.int (if k then 1 else 0),H,I.tok _,⟨_,rfl⟩,q⟩
theorem pj:b5 X (.type "str") (fun xs H Q=>∃i,xs=[.int i]/\i.natAbs.log2<1920/\Q (.str (toString i)) H):=by intro pins s σ H xs us Q I r h;obtain⟨i,rfl,hz,q⟩:=h;obtain⟨u,rfl,t,rfl⟩:=vals1 r;exact PySem.P.str_of_int hz ⟨.str _,H,I.tok _,⟨_,rfl⟩,q⟩
end
theorem nY{h:Heap}{dx:Addr}{mA:Str->Option G0}(n:h.Ns1 dx mA):∃od,h.get? dx=some od/\∀name,PySem.W.lookIn name od=some (mA name):=by
 obtain⟨o,es,ep,ho,hd,hk,_,hm⟩:=n;refine⟨o,ho,fun name=>?_⟩;have e:=hm name;unfold nsFind findBy at e;rw[<-Array.find?_toList]at e;unfold PySem.W.lookIn;rw[hd];dsimp only;split
 ·rename_i y q;rw[q]at e;exact congrArg some e
 ·rename_i q;rw[q]at e;have a:es.toList.any (·.refKey)=false:=by rw[List.any_eq_false];intro y hy;obtain⟨z,t,hkey⟩:=hk y (Array.mem_toList_iff.mp hy);simp[DictEntry.refKey,hkey]
  have a':¬es.toList.any (·.refKey)=true:=by rw[a];exact G5
  rw[if_neg a'];exact congrArg some e
section
variable{prog:GC}{w:Hd}{A:He}{E:G0->G3->Prop}{s:G3}{K:cc}{x dx C f:Addr}{mA:Str->Option G0}{name:Str}{v:G0}
end
def lJ(f:Str)(v:V):List (Str×V)->List (Str×V)
 |[]=>[(f,v)]
 |(g,x)::r=>if g=f then(g,v)::r else(g,x)::lJ f v r
theorem jQ(f g:Str)(v:V):∀fs:List (Str×V),(lJ f v fs).lookup g=if g=f then some v else fs.lookup g
 |[]=>by
  show IV g [(f,v)]=_
  by_cases h:g=f
  ·have hb:(g==f)=true:=beq_iff_eq.mpr h
   simp only[IV,hb,if_pos h]
  ·have hb:(g==f)=false:=beq_eq_false_iff_ne.mpr h
   simp only[IV,hb,if_neg h]
 |(k,x)::r=>by
  have ih:=jQ f g v r
  rw[show lJ f v ((k,x)::r)=(if k=f then(k,v)::r else(k,x)::lJ f v r)from rfl]
  by_cases hk:k=f
  ·rw[if_pos hk]
   by_cases h:g=k
   ·have hb:(g==k)=true:=beq_iff_eq.mpr h
    simp only[IV,hb,if_pos (h.trans hk)]
   ·have hb:(g==k)=false:=beq_eq_false_iff_ne.mpr h
    simp only[IV,hb,if_neg (fun e:g=f=>h (e.trans hk.symm))]
  ·rw[if_neg hk]
   by_cases h:g=k
   ·have hb:(g==k)=true:=beq_iff_eq.mpr h
    simp only[IV,hb,if_neg (fun e:g=f=>hk (h.symm.trans e))]
   ·have hb:(g==k)=false:=beq_eq_false_iff_ne.mpr h
    simp only[IV,hb]
    exact ih
theorem jy(f:Str)(v:V):∀fs:List (Str×V),f∈(lJ f v fs).map (·.1)/\∀g,g∈fs.map (·.1)->g∈(lJ f v fs).map (·.1)
 |[]=>⟨by simp[lJ],fun g h=>by simp at h⟩
 |(k,x)::r=>by
  obtain⟨i1,i2⟩:=jy f v r
  rw[show lJ f v ((k,x)::r)=(if k=f then(k,v)::r else(k,x)::lJ f v r)from rfl]
  by_cases hk:k=f
  ·rw[if_pos hk]
   subst hk
   exact⟨by simp,fun g h=>by simpa using h⟩
  ·rw[if_neg hk]
   refine⟨?_,fun g h=>?_⟩
   ·rw[GH]
    exact Gr _ i1
   ·rw[GH]at h ⊢
    rcases GO.mp h with e|e
    ·exact GO.mpr (.inl e)
    ·exact Gr _ (i2 g e)
theorem qi.some_of{v:V}{o:Option G0}(r:qi (some v) o):∃u,o=some u/\RelV v u:=by
 cases o with
 |none=>exact(show False from r).elim
 |some u=>exact⟨u,rfl,r⟩
theorem vz{v:V}{u:G0}(r:RelV v u):PySem.W.handedIn u=true:=by
 cases v with
 |non=>cases (show u=HC from r);rfl
 |bl b=>cases (show u=Ib b from r);rfl
 |int i=>obtain⟨t,e⟩:=(show ∃t,u=Value.int i t from r);cases e;rfl
 |str x=>obtain⟨t,e⟩:=(show ∃t,u=Value.str x t from r);cases e;rfl
 |byt b=>obtain⟨t,e⟩:=(show ∃t,u=Value.bytes b t from r);cases e;rfl
 |flt b=>obtain⟨t,e⟩:=(show ∃t,u=Value.float b t from r);cases e;rfl
 |ref a=>cases (show u=Hy a from r);rfl
 |ty n=>cases (show u=Value.type n from r);rfl
section
variable{P:GC}{w:Hd}{H H':Hp}{h h':Heap}{a C dx:Addr}{fs fs':List (Str×V)}
end
section
variable{X:Cx}{pins:List (Addr×Obj)}{σ:St}{H:Hp}{s:G3}{a C dx:Addr}{fs:List (Str×V)}{f:Str}{v:V}{A:He}{E:G0->G3->Prop}
theorem zL{prog:GC}{w:Hd}{env:Env}{e:Expr}{f:Str}{pos:Pos}{s:G3}{Q:G0->G3->Prop}(hb:Iw e f env (eval e env)=eval e env) (h:GA (GD prog w) A (eval e env) (fun o s₁=>GA (GD prog w) A (getAttr o f true) Q E s₁) E s):GA (GD prog w) A (eval (.Attribute e f pos) env) Q E s:=Attribute_any_ h (by rw[arm_eval_Attribute,hb])
end
section
variable{X:Cx}{o e value:Expr}{f:Str}{pos pos' tpos:Pos}{ta tv:TE}
end
section
variable{X:Cx}{pins:List (Addr×Obj)}{σ:St}{H:Hp}{s:G3}{A:He}{E:G0->G3->Prop}{Q:G0->G3->Prop}{c:G0}{b:Bool}
end
structure Room(k:Nat)(A:He):Prop where
 hd:A.handled=none
 dp:A.depth+3*k+5<recursionLimit
 un:A.units+16*k+200<Jc
theorem Room.mono{j k:Nat}{A:He}(r:Room k A)(h:j<=k):Room j A:=⟨r.hd,by have:=r.dp;omega,by have:=r.un;omega⟩
theorem Room.deeper{k:Nat}{A:He}(r:Room (k+1) A)(env:Env):Room k (A.deeper env):=⟨r.hd,by have:=r.dp;show A.depth+1+3*k+5<_;omega,by have:=r.un;show A.units+3+16*k+200<_;omega⟩
theorem rP{A:He}{C:Addr}{us:List G0}{kw:List (Str×G0)}:(A.under (.builtin "type.__call__" ⟨.ref C::us,kw⟩)).depth=A.depth+1:=by first|rfl|simp[Around.under,Code.weight,Code.isCreation,Code.isGuard,Code.isCaller,Code.frames,Code.isFrame,guardIds]
theorem qY{A:He}{C:Addr}{us:List G0}{kw:List (Str×G0)}:(A.under (.builtin "type.__call__" ⟨.ref C::us,kw⟩)).units=A.units+1:=by first|rfl|simp[Around.under,Code.cUnits,Code.frames,Code.isFrame]
theorem Room.make{k:Nat}{A:He}(r:Room (k+1) A)(C:Addr)(us:List G0)(kw:List (Str×G0)):Room k (A.under (.builtin "type.__call__" ⟨.ref C::us,kw⟩)):=⟨r.hd,by have:=r.dp;rw[rP];omega,by have:=r.un;rw[qY];omega⟩
theorem Room.depth{k:Nat}{A:He}(r:Room k A):A.depth<recursionLimit:=by have:=r.dp;omega
theorem Room.units{k:Nat}{A:He}(r:Room k A):A.units+64<Jc:=by have:=r.un;omega
def Ej:TA:=fun _ H Q=>Q [] H
def yd(ta:TE)(tr:TA):TA:=fun σ H Q=>ta σ H fun x H1=>tr σ H1 fun xs H2=>Q (x::xs) H2
section
variable{X:Cx}{e:Expr}{es:List Expr}{te:TE}{t:TA}{pos:Pos}
theorem xB:PA X [] Ej:=fun _ _ _ _ H Q I h=>Calls.spliced_nil ⟨[],H,I,.nil,h⟩
theorem oZ(ha:PE X e te)(hr:PA X es t)(hs:Gx (e::es) X.env=(false,eval e X.env)::Gx es X.env:=by rfl):PA X (e::es) (yd te t):=by intro pos pins s σ H Q I h;rw[hs];show GA _ _ (spliced ((false,eval e X.env)::Ik pos (Gx es X.env))) _ _ s;refine Calls.spliced_cons (thn (ha pins s σ H _ I h) fun u s1 zz55_0=>?_);obtain⟨x,H1,I1,r1,q1⟩:=zz55_0;exact thn (hr pos pins s1 σ H1 _ I1 q1) fun us s2 zz56_0=>by obtain⟨xs,H2,I2,r2,q2⟩:=zz56_0;exact(⟨x::xs,H2,I2,.cons r1 r2,q2⟩)
def Fo(t:TA):TE:=fun σ H Q=>t σ H fun xs H1=>xs.length<=Gp/\∀p,H1 p=none->Q (.ref p) (upd H1 p (.tup xs))
def Gm(t:TA):TE:=fun σ H Q=>t σ H fun xs H1=>xs.length<=Gp/\∀p,H1 p=none->Q (.ref p) (upd H1 p (.lst xs))
theorem C6{x1}(h:PA X es t):PE X (.Tuple es x1 pos) (Fo t):=by intro pins s σ H Q I hq;refine wpAny_Tuple_spliced (thn (h pos pins s σ H _ I hq) fun us s1 ⟨xs,H1,I1,r,z,q⟩=>⟨by rw[<-r.length];exact z,?_⟩);have hf:H1 s1.heap.objs.size=none:=I1.hok.fresh (G9 _);refine⟨.ref s1.heap.objs.size,upd H1 s1.heap.objs.size (.tup xs),I1.laid (t':=s1.toks) (fun b u e=>G4 _ e) (G9 _) ?_,rfl,q _ hf⟩;exact⟨z,us,r,⟨_,GB _ rfl,rfl,_,rfl⟩⟩
theorem By(h:PA X es t):PE X (.List es pos) (Gm t):=by intro pins s σ H Q I hq;refine wpAny_List_spliced (thn (h pos pins s σ H _ I hq) fun us s1 ⟨xs,H1,I1,r,z,q⟩=>⟨by rw[<-r.length];exact z,?_⟩);have hf:H1 s1.heap.objs.size=none:=I1.hok.fresh (G9 _);refine⟨.ref s1.heap.objs.size,upd H1 s1.heap.objs.size (.lst xs),I1.laid (t':=s1.toks) (fun b u e=>G4 _ e) (G9 _) ?_,rfl,q _ hf⟩;exact⟨z,us,0,r,GB _ rfl⟩
end
abbrev Sp:=List V->Hp->VK->XK->Prop
abbrev CXT:=List Env->Hp->G3->XK->G0->G3->Prop
structure Env0(P:GC)(w:Hd)(K:cc)(mg:Str->Option G0)(base:Heap)(A:He)(outer:List Env)(s:G3)(H:Hp):Prop where
 frames:A.frames=some outer
 mod:Mod K mg base
 bs:∀b o,base.get? b=some o->s.heap.get? b=some o/\H b=none
 bsz:base.objs.size<=s.heap.objs.size
 jb:s.heap.FunFrames base outer
 frf:∀b∈frs outer,H b=none
 hok:HOk P w H s.heap
 bare:AllBare s.gens
def CE(outer:List Env)(P:GC)(w:Hd)(H:Hp)(s:G3)(Q:VK)(u:G0)(s':G3):Prop:=
 ∃v H',s'.os=s.os/\AllBare s'.gens/\Un (frs outer) [] H H' s.heap s'.heap/\HOk P w H' s'.heap/\RelV v u/\Q v H'
def CR(CX:CXT)(outer:List Env)(P:GC)(w:Hd)(H:Hp)(s:G3)(Q:VK)(E:XK)(r:Result)(s':G3):Prop:=
 match r with
 |.ok (.ret u)=>CE outer P w H s Q u s'
 |.ok _=>False
 |.error e=>CX outer H s E e s'
structure FnOk(P:GC)(w:Hd)(K:cc)(mg:Str->Option G0)(base:Heap)(CX:CXT)(k:Nat)(f:Addr)(fd:IC)(ps:List Str)(sp:Sp):Prop where
 len:∀vs H Q E,sp vs H Q E->vs.length=ps.length
 run:∀(A:He) (outer:List Env) (s:G3) (H:Hp) (args:Args) (us:List G0) (vs:List V) (Q:VK) (E:XK),Room k A->Env0 P w K mg base A outer s H->BindsTo s fd args (ps.zip us)->Vals vs us->sp vs H Q E->
  codeAny (GD P w) A (.call (.ref f) args) (CR CX outer P w H s Q E) s
theorem FnOk.mono{P:GC}{w:Hd}{K:cc}{mg:Str->Option G0}{base:Heap}{CX:CXT}{j k:Nat}{f:Addr}{fd:IC}{ps:List Str}{sp:Sp}(F:FnOk P w K mg base CX j f fd ps sp)(h:j<=k) : FnOk P w K mg base CX k f fd ps sp:=⟨F.len,fun A outer s H args us vs Q E hr=>F.run A outer s H args us vs Q E (hr.mono h)⟩
theorem Env0.make{P:GC}{w:Hd}{K:cc}{mg:Str->Option G0}{base:Heap}{A:He}{outer:List Env}{s:G3}{H:Hp}(e:Env0 P w K mg base A outer s H)(C:Addr)(us:List G0)(kw:List (Str×G0)) : Env0 P w K mg base (A.under (.builtin "type.__call__" ⟨.ref C::us,kw⟩)) outer s H:=⟨by first|exact e.frames|(simpa[Around.under,Code.envs,Code.isFrame,pushEnvs]using e.frames),e.mod,e.bs,e.bsz,e.jb,e.frf,e.hok,e.bare⟩
section
variable{X:Cx}{pins:List (Addr×Obj)}{σ:St}{H:Hp}{s s':G3}
theorem Inv.Ce(I:Inv X pins σ H s):Env0 X.prog X.w X.K X.mg X.base X.A X.stack s H:=⟨I.ok.frames,I.ok.mod,I.bs,Gy I.ok.bsz I.sz,I.stack,I.gQ,I.hok,I.bare⟩
theorem Inv.after{Q:VK}{u:G0}(I:Inv X pins σ H s)(h:CE X.stack X.prog X.w H s Q u s'):EP X pins σ Q u s':=by obtain⟨v,H',os,bare,un,hok,r,q⟩:=h;obtain⟨hh,g,d,t,os'⟩:=s';obtain rfl:os'=s.os:=os;exact⟨v,H',I.call (h':=hh) (g':=g) (d':=d) (t':=t) (ch:=[]) un hok bare (fun b z=>absurd z (by simp)),r,q⟩
end
def DM(sp:Sp)(dvs:List V)(E:XK)(t:TA):TE:=fun σ H Q=>t σ H fun vs H1=>sp (vs++dvs) H1 Q E
def Binds(K:cc)(fd:IC)(ps:List Str)(ds:List G0):Prop:=
 ∀(s:G3) (us:List G0),K.In s.heap->(us++ds).length=ps.length->BindsTo s fd ⟨us,[]⟩ (ps.zip (us++ds))
theorem Binds.all{K:cc}{fd:IC}{ps:List Str}(h:∀us:List G0,us.length=ps.length->bindArgs fd ⟨us,[]⟩=pure (ps.zip us)):Binds K fd ps []:=fun s us _ hl=>by rw[Iq]at hl ⊢;exact .of_eq (h us hl)
def Passes(CX:CXT)(X:Cx)(E:XK):Prop:=∀(pins:List (Addr×Obj)) (σ:St) (H:Hp) (s:G3) (e:G0) (s':G3),Inv X pins σ H s->CX X.stack H s E e s'->X.xe e s'
section
variable{X:Cx}{CX:CXT}{k:Nat}{f C:Addr}{fd:IC}{ps:List Str}{sp:Sp}{dvs:List V}{ds:List G0}{E:XK}{x m:Str}{p pos apos:Pos}{e o:Expr}{es:List Expr}{ta:TE}{t:TA}
theorem BP{pins:List (Addr×Obj)}{σ:St}{H:Hp}{s:G3}{Q:VK}{us:List G0}{vs:List V}(F:FnOk X.prog X.w X.K X.mg X.base CX k f fd ps sp)(hr:Room k X.A)(hb:Binds X.K fd ps ds)(hd:Vals dvs ds)(hx:Passes CX X E)
 (I:Inv X pins σ H s) (r:Vals vs us) (h:sp (vs++dvs) H Q E):GA (GD X.prog X.w) X.A (call (.ref f) us) (EP X pins σ Q) X.xe s:=by
 have r2:Vals (vs++dvs) (us++ds):=r.append hd
 have hl:(us++ds).length=ps.length:=by rw[<-r2.length];exact F.len _ _ _ _ h
 refine wpAny_call (codeAny_mono (F.run X.A X.stack s H ⟨us,[]⟩ (us++ds) (vs++dvs) Q E hr I.Ce (hb s us I.kIn hl) r2 h) fun r s' hq=>?_)
 cases r with
 |error e=>exact hx pins σ H s e s' I hq
 |ok fl=>
  cases fl with
  |ret u=>exact I.after hq
  |next=>exact Ij hq
  |brk=>exact Ij hq
  |cont=>exact Ij hq
theorem zJ(F:FnOk X.prog X.w X.K X.mg X.base CX k f fd ps sp)(hr:Room k X.A)(hg:Gl X x)(hm:X.mg x=some (.ref f))(hk:ID X.K (.ref f)=true)(hb:Binds X.K fd ps ds)(hd:Vals dvs ds)(hx:Passes CX X E) (ha:PA X (e::es) t) (hdb:(x==("__debug__":Str))=false:=by decide) (he:Gx (e::es) X.env=(false,eval e X.env)::Gx es X.env:=by rfl) (hpl:(Ik pos (Gx es X.env)).any (·.1)=false:=by rfl) : PE X (.Call (.Name x p) (e::es) [] pos) (DM sp dvs E t):=by intro pins s σ H Q I h;refine wpAny_Call_Name_kw (gJ I hg hm ?_ hdb);refine PySem.W.callWith_K (h₀:=X.base) I.ok.mod.kin hk (thn (ha pos pins s σ H _ I h) fun us s1 ⟨vs,H1,I1,r,q⟩=>⟨I1.kIn,?_⟩) he hpl;exact BP F hr hb hd hx I1 r q
end
section
variable{X:Cx}{CX:CXT}{k:Nat}{f C:Addr}{fd:IC}{ps ks:List Str}{sp:Sp}{E:XK}{x m:Str}{p pos apos kpos:Pos}{e o:Expr}{es:List Expr}{kws:List Keyword}{te ta:TE}{t tk:TA}{nm:Option Str}
variable{g:List G0->List G0->List G0}{gV:List V->List V->List V}
end
structure FnScope(N P:List Str)(sc:Jb):Prop where
 kind:sc.kind=.function
 co:sc.isCoroutine=false
 gen:sc.isGenerator=false
 nd:N.Nodup
 pre:N.take P.length=P
 par:∀x∈P,sc.names.lookup x=some .local\/sc.names.lookup x=some .cell
 nofree:∀y∈sc.names,y.2≠.free
theorem mY{kindOf:Str->Option IS}{x:Str}:∀{binds:List (Str×G0)} {m:Str->Option G0},(∀v,(x,v)∉binds)->bindL kindOf binds m x=m x
 |[],_,_=>rfl
 |(n,v)::r,m,h=>by
  unfold bindL
  rw[mY fun w hw=>h w (Gr _ hw)]
  split
  ·have:x≠n:=by rintro rfl;exact h v GR
   simp[this]
  ·rfl
theorem nM{kindOf:Str->Option IS}{x:Str}:∀{binds:List (Str×G0)} {m:Str->Option G0},(∀v,(x,v)∉binds)->bindC kindOf binds m x=m x
 |[],_,_=>rfl
 |(n,v)::r,m,h=>by
  unfold bindC
  rw[nM fun w hw=>h w (Gr _ hw)]
  split
  ·rfl
  ·have:x≠n:=by rintro rfl;exact h v GR
   simp[this]
theorem nD{kindOf:Str->Option IS}{x:Str}{v:G0}:∀{P:List Str} {vs:List G0} {i:Nat} {m:Str->Option G0},P.Nodup->P[i]?=some x->vs[i]?=some v->kindOf x=some .local->
 bindL kindOf (P.zip vs) m x=some v
 |[],_,_,_,_,h,_,_=>by simp at h
 |_::_,[],_,_,_,_,h,_=>by simp at h
 |p::P,w::vs,0,m,nd,h1,h2,hk=>by
  simp at h1 h2;subst h1;subst h2
  show bindL kindOf ((p,w)::P.zip vs) m p=_
  unfold bindL
  rw[mY fun v hv=>(List.nodup_cons.mp nd).1 (List.of_mem_zip hv).1,if_pos hk]
  simp
 |p::P,w::vs,i+1,m,nd,h1,h2,hk=>by
  show bindL kindOf ((p,w)::P.zip vs) m x=_
  unfold bindL
  exact nD (i:=i) (List.nodup_cons.mp nd).2 (by simpa using h1) (by simpa using h2) hk
theorem nZ{kindOf:Str->Option IS}{x:Str}{v:G0}:∀{P:List Str} {vs:List G0} {i:Nat} {m:Str->Option G0},P.Nodup->P[i]?=some x->vs[i]?=some v->kindOf x≠some .local->
 bindC kindOf (P.zip vs) m x=some v
 |[],_,_,_,_,h,_,_=>by simp at h
 |_::_,[],_,_,_,_,h,_=>by simp at h
 |p::P,w::vs,0,m,nd,h1,h2,hk=>by
  simp at h1 h2;subst h1;subst h2
  show bindC kindOf ((p,w)::P.zip vs) m p=_
  unfold bindC
  rw[nM fun v hv=>(List.nodup_cons.mp nd).1 (List.of_mem_zip hv).1,if_neg hk]
  simp
 |p::P,w::vs,i+1,m,nd,h1,h2,hk=>by
  show bindC kindOf ((p,w)::P.zip vs) m x=_
  unfold bindC
  exact nZ (i:=i) (List.nodup_cons.mp nd).2 (by simpa using h1) (by simpa using h2) hk
def start(N:List Str)(vs:List V):St:=vs.map some++J0 (N.length-vs.length) none
def bI(CX:CXT)(P:GC)(w:Hd)(K:cc)(mg:Str->Option G0)(base:Heap)(N:List Str)(qual:Str)(scope:Jb)(f:Addr)(cd:G0)(A:He)(outer:List Env)(s:G3)(H:Hp)(E:XK):Cx where
 prog:=P
 w:=w
 K:=K
 mg:=mg
 base:=base
 A:=A.deeper (envOfC qual scope s.heap.objs.size f cd)
 N:=N
 s₀:=s
 H₀:=H
 env:=envOfC qual scope s.heap.objs.size f cd
 outer:=outer
 stack:=envOfC qual scope s.heap.objs.size f cd::outer
 ex:=[]
 calm:=true
 fn:=fun _=>true
 pn:=[]
 xe:=fun e s'=>GA (GD P w) (A.deeper (envOfC qual scope s.heap.objs.size f cd)) (leaving (envOfC qual scope s.heap.objs.size f cd) e) (fun _ s''=>CX outer H s E e s'') (fun e' s''=>CX outer H s E e' s'') s'
theorem kP{sc:Jb}{n:Nat}{x:Str}(h:sc.names.lookup x=some .cell):∃c,(Il n sc.names []).lookup x=some c:=by have q:=PySem.W.cellsFrom_some sc.names n [] (.inl h);exact Option.isSome_iff_exists.mp q
theorem vB{CX:CXT}{P:GC}{w:Hd}{K:cc}{mg:Str->Option G0}{base:Heap}{N ps:List Str}{qual:Str}{scope:Jb}{f:Addr}{cd:G0}{A:He}{outer:List Env}{s s1:G3}{H:Hp}{E:XK}{us:List G0}{vs:List V}
 (S:FnScope N ps scope) (hd:A.handled=none) (e0:Env0 P w K mg base A outer s H) (hl:vs.length=ps.length) (r:Vals vs us)
 (x:InCallC s s.heap.objs.size (bindL (envOfC qual scope s.heap.objs.size f cd).kindOf (ps.zip us) fun _=>none) (Il (s.heap.objs.size+1) scope.names []) (bindC (envOfC qual scope s.heap.objs.size f cd).kindOf (ps.zip us) fun _=>none) s1) :
 Inv (bI CX P w K mg base N qual scope f cd A outer s H E) [] (start N vs) H s1:=by
 have hpl:ps.length<=N.length:=by have:=congrArg List.length S.pre;rw[List.length_take]at this;omega
 obtain⟨h1,tk,rfl,hk⟩:=x.done
 have noA:∀b:Addr,b∉(bI CX P w K mg base N qual scope f cd A outer s H E).ex:=fun b z=>absurd (show b∈([]:List Addr)from z) (by simp)
 refine⟨⟨e0.mod,S.kind,rfl,rfl,G9 _,fun y z c h1 h2=>?_,fun y hy=>?_,fun y c _ h=>?_,fun _=>hd,Around.frames_deeper e0.frames,.inr ⟨rfl,rfl⟩,fun b z=>absurd z (noA b),e0.bs,e0.bsz,fun b _ _=>noA b,fun b z=>absurd z (noA b),e0.jb,e0.frf⟩,
  rfl,e0.bare,Un.kept hk,⟨_,x.toInCall.ns,fun i y v h1 h2 h3=>?_⟩,fun y c h=>⟨_,x.cell y c h⟩,e0.hok.fresh (G9 _),fun y c h=>?_,fun p hp=>absurd (show p∈([]:List (Addr×Obj))from hp) (by simp),e0.hok.kept hk,?_⟩
 ·exact name_of_addr x.apart (Hh h1) (Hh h2)
 ·have hy:scope.names.lookup y=some .cell\/scope.names.lookup y=some .free:=hy
  rcases hy with hy|hy
  ·exact kP hy
  ·exact absurd rfl (S.nofree _ (Hh hy))
 ·exact Nat.le_of_lt (x.above y c (Hh h))
 ·have hi:i<vs.length:=by
   unfold start at h2
   by_cases hi:i<vs.length
   ·exact hi
   ·rw[Hm (by simpa using hi)]at h2
    rw[List.getElem?_replicate]at h2
    split at h2<;>cases h2
  have ha:vs[i]?=some v:=by
   unfold start at h2
   rw[Hq (by simpa using hi),Gs]at h2
   cases e:vs[i]? with
   |none=>rw[e]at h2;cases h2
   |some a=>rw[e]at h2;cases h2;rfl
  obtain⟨u,hu,rv⟩:=r.get ha
  have hp:ps[i]?=some y:=by
   rw[<-S.pre,List.getElem?_take_of_lt (by omega)];exact h1
  have ndP:ps.Nodup:=by rw[<-S.pre];exact S.nd.sublist (List.take_sublist _ _)
  refine⟨u,rv,?_⟩
  rcases S.par y (GL hp)with k|k
  ·exact .inl ⟨k,nD ndP hp hu k⟩
  ·obtain⟨c,e⟩:=kP (n:=s.heap.objs.size+1) k
   refine .inr ⟨.inl k,c,e,?_⟩
   have q:=x.cell y c e
   rw[nZ ndP hp hu (by show scope.names.lookup y≠_;rw[k];decide)]at q
   exact q
 ·exact e0.hok.fresh (Nat.le_of_lt (x.above y c (Hh h)))
 ·unfold start
  show _=N.length
  rw[HM,G7,List.length_replicate]
  omega
theorem Bu{CX:CXT}{P:GC}{w:Hd}{K:cc}{mg:Str->Option G0}{base:Heap}{k:Nat}{f:Addr}{name qual:Str}{params:Arguments}{body:List Stmt}{scope:Jb}{dV kV doc pm cdv ct oc:G0}{an od:Option Addr}
 {osl:Array (Option G0)} {N ps:List Str} {sp:Sp} (lk:K.lookup f=some ⟨oc,od,.func (Ie name qual params body scope dV kV doc pm an cdv ct),osl⟩) (hcd:PySem.W.codeIn K cdv qual=true) (S:FnScope N ps scope)
 (len:∀vs H Q E,sp vs H Q E->vs.length=ps.length)
 (hbody:∀(A:He) (outer:List Env) (s:G3) (H:Hp) (vs:List V) (Q:VK) (E:XK),Room k (A.deeper (envOfC qual scope s.heap.objs.size f cdv))->sp vs H Q E->
  ∃t,PSs (bI CX P w K mg base N qual scope f cdv A outer s H E) body t/\t { nx:=fun _ H'=>Q .non H',rt:=Q } (start N vs) H) :
 FnOk P w K mg base CX (k+1) f (Ie name qual params body scope dV kV doc pm an cdv ct) ps sp:=by
 refine⟨len,fun A outer s H args us vs Q E hr e0 hb r hsp=>?_⟩
 have hl:=len _ _ _ _ hsp
 have KX:K.In s.heap:=e0.mod.kin.keeps fun b o e=>(e0.bs b o e).1
 have lim:s.heap.NoLimit:=e0.mod.nolimit.keeps fun b o e=>(e0.bs b o e).1
 have hkind:∀y∈ps.zip us,scope.names.lookup y.1=some .local\/(scope.names.lookup y.1=some .cell/\((Il (s.heap.objs.size+1) scope.names []).lookup y.1).isSome=true):=fun zz62_0 hy=>by
  obtain⟨n,v⟩:=zz62_0
  rcases S.par n (List.of_mem_zip hy).1 with q|q
  ·exact .inl q
  ·exact .inr ⟨q,PySem.W.cellsFrom_some _ _ _ (.inl q)⟩
 refine codeAny_call_function hr.depth (KX _ _ lk) rfl S.co S.gen rfl (PySem.W.codeRec_of KX hcd) (hb _ _ _ _ ?_)
 refine wpAny_newFunctionEnv_cells S.kind hkind fun env he s1 x=>?_
 subst he
 refine⟨lim.keeps x.toInCall.keep,codeAny_func ?_⟩
 obtain⟨t,ht,hq⟩:=hbody A outer s H vs Q E (hr.deeper _) hsp
 have I:Inv (bI CX P w K mg base N qual scope f cdv A outer s H E) [] (start N vs) H s1:=vB S hr.hd e0 hl r x
 refine Hl (ht [] s1 (start N vs) H _ I hq) (fun fl s' hs=>?_) fun e s' hs=>hs
 have fin:∀{σ':St} {H':Hp} {v:V} {u:G0},Inv (bI CX P w K mg base N qual scope f cdv A outer s H E) [] σ' H' s'->RelV v u->Q v H'->CE outer P w H s Q u s':=
  fun{σ' H' v u} J rv q=>⟨v,H',J.os,J.bare,J.base,J.hok,rv,q⟩
 cases fl with
 |ret u=>
  obtain⟨v,σ',H',J,rv,q⟩:=hs
  exact fin J rv q
 |next=>
  obtain⟨σ',H',J,q⟩:=hs
  exact fin (v:=V.non) (u:=HC) J rfl q
 |brk=>
  obtain⟨_,_,_,q⟩:=hs
  exact Ij q
 |cont=>
  obtain⟨_,_,_,q⟩:=hs
  exact Ij q
section
variable{X:Cx}{x:Str}{p pos:Pos}{e:Expr}{es:List Expr}{t:TA}{id T:String}{r:List V->Hp->VK->Prop}
def tCB(r:List V->Hp->VK->Prop)(t:TA):TE:=fun σ H Q=>t σ H fun vs H1=>r vs H1 Q
theorem yy(hc:b5 X (.builtin id) r)(hg:Gl X x)(hm:X.mg x=none)(hv:Hj x=some (.builtin id))(ha:PA X (e::es) t)(hn:x≠"__name__":=by decide)(hdb:(x==("__debug__":Str))=false:=by decide) (he:Gx (e::es) X.env=(false,eval e X.env)::Gx es X.env:=by rfl) (hpl:(Ik pos (Gx es X.env)).any (·.1)=false:=by rfl):PE X (.Call (.Name x p) (e::es) [] pos) (tCB r t):=by intro pins s σ H Q I h;refine wpAny_Call_Name_kw (kQ I hg hm hv ?_ hn hdb);exact PyProof.Rows.callWith_builtin1 (thn (ha pos pins s σ H _ I h) fun us s1 zz63_0=>by obtain⟨vs,H1,I1,r1,q1⟩:=zz63_0;exact(hc pins s1 σ H1 vs us Q I1 r1 q1)) he hpl
theorem vC(hc:b5 X (.type T) r)(hg:Gl X x)(hm:X.mg x=none)(hv:Hj x=some (.type T))(ha:PA X (e::es) t)(hn:x≠"__name__":=by decide)(hdb:(x==("__debug__":Str))=false:=by decide) (he:Gx (e::es) X.env=(false,eval e X.env)::Gx es X.env:=by rfl) (hpl:(Ik pos (Gx es X.env)).any (·.1)=false:=by rfl):PE X (.Call (.Name x p) (e::es) [] pos) (tCB r t):=by intro pins s σ H Q I h;refine wpAny_Call_Name_kw (kQ I hg hm hv ?_ hn hdb);exact PyProof.Rows.callWith_type1 (thn (ha pos pins s σ H _ I h) fun us s1 zz64_0=>by obtain⟨vs,H1,I1,r1,q1⟩:=zz64_0;exact(hc pins s1 σ H1 vs us Q I1 r1 q1)) he hpl
end
end L2
namespace HT
open PySem PyProof.Rows
def lexLt:List Int->List Int->Bool
 |[],[]=>false
 |[],_::_=>true
 |_::_,[]=>false
 |x::xs,y::ys=>if x=y then lexLt xs ys else decide (x<y)
theorem qX(x y:Int)(xs ys:List Int):lexLt (x::xs) (y::ys)=if x=y then lexLt xs ys else decide (x<y):=rfl
theorem mD:lexLt [] []=false:=rfl
theorem mv(y:Int)(ys:List Int):lexLt [] (y::ys)=true:=rfl
theorem k8(x:Int)(xs:List Int):lexLt (x::xs) []=false:=rfl
theorem iF(A:He)(s:G3)(a:Int)(t:Tok)(c:Int)(u:Tok):∃e,SeqAt.EqAt A s (.int a t) (.int c u) e/\(e=true↔a=c):=⟨(a==c),SeqAt.EqAt.int_int a t c u,by simp⟩
theorem wz(A:He)(s:G3)(a:Int)(t:Tok)(c:Int)(u:Tok)(prog:GC)(w:Hd)(E:G0->G3->Prop)(Q:G0->G3->Prop)(h:Q (.bool (decide (a<c))) s) : GA (GD prog w) A (richCompare .Lt (.int a t) (.int c u)) Q E s:=(PyProof.Rows.lt_int h:GA (GD prog w) A (GF .Lt (.int a t) (.int c u)) Q E s)
section
open PySem.SeqAt
open PySem.AutoSeq1 (wpAny_loadPart')
open PySem.MeetsSeq PySem.MeetsSeq2 PySem.MeetsSeq3
theorem mQ(l b:Addr)(items items2:Array G0)(n n2:Nat)(dd dd2:Option Addr)(sl sl2:Array (Option G0))(ns ms:List Int)(hi:HN items.toList ns)(hj:HN items2.toList ms) :
 Meets (Builtin.«tuple.__lt__» ⟨[.ref l,.ref b],[]⟩)
  (fun _ R s=>s.heap.get? l=some { cls:=.type "tuple",dict:=dd,data:=.seq items n,slots:=sl }/\s.heap.get? b=some { cls:=.type "tuple",dict:=dd2,data:=.seq items2 n2,slots:=sl2 }/\
   R (.ok (.ret (.bool (lexLt ns ms)))) s):=
 .of_wp fun prog w A R s h=>by
  obtain⟨hp,g,d,tk,os⟩:=s;obtain⟨hl,hb,h⟩:=h
  have f2:=AutoSeq1.sub_tuple_tuple
  have z1:items.size=ns.length:=by rw[<-hi.length];simp
  have z2:items2.size=ms.length:=by rw[<-hj.length];simp
  wp_walk using HP hl,HP hb,wpAny_forIn_list _ (fun rest b s'=>b.1=none/\s'=⟨hp,g,d,tk,os⟩/\∃(vs ws:List G0) (ns' ms':List Int),rest=vs.zip ws/\
   HN vs ns'/\HN ws ms'/\ns'.length+items2.size=ms'.length+items.size/\R (.ok (.ret (.bool (lexLt ns' ms')))) ⟨hp,g,d,tk,os⟩) _
  case turn=>
   rintro⟨y,x⟩ rest b s' ⟨hb',rfl,vs,ws,ns',ms',hz,hvi,hwi,hlen,hR⟩
   cases hvi with
   |nil=>rw[List.zip_nil_left]at hz;cases hz
   |cons a t hvi'=>
    cases hwi with
    |nil=>rw[List.zip_nil_right]at hz;cases hz
    |cons c u hwi'=>
     rw[Ic]at hz
     injection hz with hyx hrest
     injection hyx with hy hx
     subst hy hx
     rw[qX]at hR
     simp only[GP]at hlen
     obtain⟨e,he,hiff⟩:=iF A.in1 ⟨hp,g,d,tk,os⟩ a t c u
     refine G2 (he prog w _ _ ?_)
     cases e with
     |true=>
      rw[if_pos (hiff.mp rfl)]at hR
      wp_walk
      exact⟨rfl,rfl,_,_,_,_,hrest,hvi',hwi',by omega,hR⟩
     |false=>
      rw[if_neg (fun q=>absurd (hiff.mpr q) G5)]at hR
      have hri:=wz A.in1 ⟨hp,g,d,tk,os⟩ a t c u prog w
      wp_walk using hri
      exact⟨_,rfl,by simpa using hR⟩
  case fin=>
   rintro⟨b1,b2⟩ s' ⟨hb',rfl,vs,ws,ns',ms',hz,hvi,hwi,hlen,hR⟩
   simp only at hb'
   subst hb'
   have hv:lexLt ns' ms'=decide (items.size<items2.size):=by
    cases hvi with
    |nil=>
     cases hwi with
     |nil=>
      simp only[HI]at hlen
      rw[mD]
      exact(decide_eq_false (by omega)).symm
     |cons c u hw=>
      simp only[HI,GP]at hlen
      rw[mv]
      exact(decide_eq_true (by omega)).symm
    |cons a t hv=>
     cases hwi with
     |nil=>
      simp only[HI,GP]at hlen
      rw[k8]
      exact(decide_eq_false (by omega)).symm
     |cons c u hw=>
      rw[Ic]at hz
      cases hz
   rw[hv]at hR
   wp_walk
   exact⟨_,rfl,by simpa[Ir]using hR⟩
  case h=>
   exact⟨rfl,rfl,items.toList,items2.toList,ns,ms,rfl,hi,hj,by omega,h⟩
end
section
variable{prog:GC}{w:Hd}{A:He}{E:G0->G3->Prop}{s:G3}
theorem ml{l b:Addr}{items items2:Array G0}{ns ms:List Int}{Q:G0->G3->Prop}(hl:IsTup s.heap l items)(hb:IsTup s.heap b items2)(hi:HN items.toList ns)(hj:HN items2.toList ms) (hu:A.units<Jc) (h:Q (.bool (lexLt ns ms)) s):GA (GD prog w) A (GF .Lt (.ref l) (.ref b)) Q E s:=by obtain⟨⟨cls,dd,data,sl⟩,ho,hc,n,hd⟩:=id hl;obtain⟨⟨cls2,dd2,data2,sl2⟩,ho2,hc2,n2,hd2⟩:=id hb;simp only at hc hd hc2 hd2;subst hc hd hc2 hd2;exact richCompare_meets_room (op:=.Lt) ⟨_,ho,rfl⟩ ⟨_,ho2,rfl⟩ PySem.F.slot_tuple_lt PySem.F.entry_tuple_lt (PySem.F.args_tuple_lt_2 _ _) (mQ l b items items2 n n2 dd dd2 sl sl2 ns ms hi hj) ⟨ho,ho2,show Ib (lexLt ns ms)≠Value.notImplemented/\Q (.bool (lexLt ns ms)) s from⟨(fun x=>nomatch x),h⟩⟩ hu
theorem zP{t b:Addr}{vs ws:List G0}{Q:G0->G3->Prop}(ht:IsTup s.heap t vs.toArray)(hb:IsTup s.heap b ws.toArray)(hv:vs≠[])
 (h1:ws=[]->Q (.ref t) s) (h2:ws≠[]->Q (.ref s.heap.objs.size) { s with heap:=s.heap.push { cls:=.type "tuple",data:=.seq (vs++ws).toArray } })
 (hsz:vs.length+ws.length<=Gp):GA (GD prog w) A (Iu .Add (.ref t) (.ref b)) Q E s:=by
 obtain⟨⟨cls,dd,data,sl⟩,ho,hc,n,hd⟩:=id ht
 obtain⟨⟨cls2,dd2,data2,sl2⟩,ho2,hc2,n2,hd2⟩:=id hb
 simp only at hc hd hc2 hd2
 subst hc hd hc2 hd2
 have e:vs.toArray++ws.toArray=(vs++ws).toArray:=by simp
 by_cases hw:ws=[]
 ·exact concat_meets ⟨_,ho,rfl⟩ ⟨_,ho2,rfl⟩ noFill_tuple_add seq_tuple_add PySem.F.slot_tuple_add PySem.F.entry_tuple_add (PySem.F.args_tuple_add_2 _ _)
   (tuple_addW1 t b vs.toArray ws.toArray n n2 dd dd2 sl sl2 (by simpa using hv) (by simp[hw])) ⟨ho,ho2,h1 hw⟩
 ·refine concat_meets ⟨_,ho,rfl⟩ ⟨_,ho2,rfl⟩ noFill_tuple_add seq_tuple_add PySem.F.slot_tuple_add PySem.F.entry_tuple_add (PySem.F.args_tuple_add_2 _ _)
   (tuple_addW2 t b vs.toArray ws.toArray n n2 dd dd2 sl sl2 (by simpa using hv) (by simpa using hw) (by rw[Gz,Gz];exact hsz)) ⟨ho,ho2,?_⟩
  rw[e]
  exact h2 hw
def sIx(n d:Nat):Option Int->Nat
 |none=>d
 |some v=>if v<0 then(v+(n:Int)).toNat else min v.toNat n
theorem y8(n d:Nat):sIx n d none=d:=rfl
theorem oS(n d k:Nat):sIx n d (some (k:Int))=min k n:=by show(if(k:Int)<0 then((k:Int)+(n:Int)).toNat else min (k:Int).toNat n)=min k n;rw[if_neg (by omega),Int.toNat_natCast]
theorem BJ(n d:Nat)(hd:d<=n)(o:Option Int):sIx n d o<=n:=by
 cases o with
 |none=>exact hd
 |some v=>
  show(if v<0 then(v+(n:Int)).toNat else min v.toNat n)<=n
  by_cases hv:v<0
  ·rw[if_pos hv];omega
  ·rw[if_neg hv];exact Nat.min_le_right _ _
theorem tu(v:Int)(n d:Nat):(if v<0 then max (v+(n:Int)) 0 else min v (n:Int))=((sIx n d (some v):Nat):Int):=by
 show(if v<0 then max (v+(n:Int)) 0 else min v (n:Int))=(((if v<0 then(v+(n:Int)).toNat else min v.toNat n):Nat):Int);by_cases hv:v<0
 ·simp only[if_pos hv];omega
 ·simp only[if_neg hv];omega
theorem sR(lo hi:Option Int)(n:Nat):Builtin.Slice.sliceAdjust lo hi 1 (n:Int)=(((sIx n 0 lo:Nat):Int),((sIx n n hi:Nat):Int)):=by
 have h1:¬((1:Int)<0):=by omega
 unfold Builtin.Slice.sliceAdjust;simp only[h1,if_false];refine Prod.ext ?_ ?_
 ·cases lo with
  |none=>rfl
  |some v=>exact tu v n 0
 ·cases hi with
  |none=>rfl
  |some v=>exact tu v n n
theorem rK(i j:Nat):Builtin.Slice.slicePlaces (i:Int) (j:Int) 1=j-i:=by
 unfold Builtin.Slice.slicePlaces;have h1:(1:Int)>0:=by omega
 simp only[h1,if_true,Int.ediv_one];split<;>omega
theorem kX{v:G0}{o:Option Int}{Q:Option Int->G3->Prop}(p:IsPart v o)(h:Q o s):GA (GD prog w) A (Builtin.Slice.slicePartIndex v) Q E s:=by
 cases p with
 |none=>exact slicePart_none h
 |int i t=>exact slicePart_int h
theorem jI{sl:Addr}{vl vu:G0}{lo hi:Option Int}{n:Nat}{Q:Int×Int×Nat->G3->Prop}(hs:s.heap.IsSliceOf sl vl vu .none)(pl:IsPart vl lo)(pu:IsPart vu hi)
 (h:Q (((sIx n 0 lo:Nat):Int),1,sIx n n hi-sIx n 0 lo) s):GA (GD prog w) A (Builtin.Slice.sliceApplied (.ref sl) (pure (n:Int))) Q E s:=by
 obtain⟨os,hos,hcs,hds⟩:=id hs
 unfold Builtin.Slice.sliceApplied Builtin.Slice.sliceFields
 refine G2 (G2 (wpAny_field hos hds (x:=vl) rfl (G2 (wpAny_field hos hds (x:=vu) rfl (G2 (wpAny_field hos hds (x:=.none) rfl (Gw ?_)))))))
 refine G2 (slicePart_none ?_)
 show GA _ _ (if((1:Int)==0)=true then _ else _) _ _ s
 rw[if_neg (by decide)]
 refine G2 (kX pl (G2 (kX pu (G2 (Gw ?_)))))
 show GA _ _ (match Builtin.Slice.sliceAdjust lo hi 1 (n:Int)with|(lo,hi)=>pure (lo,(1:Int),Builtin.Slice.slicePlaces lo hi 1)) _ _ s
 rw[sR lo hi n]
 show GA _ _ (pure (((sIx n 0 lo:Nat):Int),(1:Int),Builtin.Slice.slicePlaces ((sIx n 0 lo:Nat):Int) ((sIx n n hi:Nat):Int) 1)) _ _ s
 rw[rK]
 exact Gw h
theorem xR(xs:Array G0)(i k:Nat):((HD k).filterMap fun(m:Nat)=>xs[((i:Int)+(m:Int)*1).toNat]?).toArray=((xs.toList.drop i).take k).toArray:=by
 have e:(fun(m:Nat)=>xs[((i:Int)+(m:Int)*1).toNat]?)=fun m=>xs[i+m]?:=by
  funext m
  have:((i:Int)+(m:Int)*1).toNat=i+m:=by omega
  rw[this]
 rw[e];have:=pick_run xs i k;rw[List.filterMap_map]at this;have e2:((fun x=>xs[x]?)∘fun x=>i+x)=fun m=>xs[i+m]?:=rfl;rw[e2]at this;rw[this]
theorem iH{t sl:Addr}{items:Array G0}{vl vu:G0}{lo hi:Option Int}{Q:G0->G3->Prop}(ht:IsTup s.heap t items)(hs:s.heap.IsSliceOf sl vl vu .none)(pl:IsPart vl lo)(pu:IsPart vu hi)
 (hw:¬(sIx items.size 0 lo=0/\sIx items.size items.size hi=items.size))
 (h:Q (.ref s.heap.objs.size) { s with heap:=s.heap.push { cls:=.type "tuple",data:=.seq ((items.toList.drop (sIx items.size 0 lo)).take (sIx items.size items.size hi-sIx items.size 0 lo)).toArray } })
 (hsz:items.size<=Gp):GA (GD prog w) A (getItem (.ref t) (.ref sl)) Q E s:=by
 have htake:sizeOk (.seq ((items.toList.drop (sIx items.size 0 lo)).take (sIx items.size items.size hi-sIx items.size 0 lo)).toArray):=by
  show((items.toList.drop (sIx items.size 0 lo)).take (sIx items.size items.size hi-sIx items.size 0 lo)).toArray.size<=Gp
  rw[Gz,List.length_take,List.length_drop,IQ]
  omega
 have hj:sIx items.size items.size hi<=items.size:=BJ _ _ (G9 _) hi
 obtain⟨os,hos,hcs,hds⟩:=id hs
 have hTs:s.TypeIs (.ref sl) "slice":=⟨os,hos,hcs⟩
 unfold getItem
 try with_reducible refine HQ ?_
 first|refine G2 (Gw ?_)|skip
 refine G2 (wpAny_sequenceKey ht.typeIs (by decide) ?_)
 refine G2 (wpAny_callSpecial?_slot (name:=G1 "__getitem__") ht.typeIs PyProof.Rows.slot_tuple_getitem
  (wpAny_call_entry PyProof.Rows.slot_tuple_getitem ht.typeIs entry_tuple_getitem ?_ (args_tuple_getitem _ _)))
 show GA _ _ (Builtin.Tuple.tupleItemsOf (.ref t) >>= _) _ _ s
 refine G2 (tupleItemsOf_ ht ?_)
 refine G2 (wpAny_typeOf hTs ?_)
 rw[if_pos (by decide)]
 refine G2 (jI hs pl pu ?_)
 have hno:¬((((sIx items.size 0 lo:Nat):Int)==0&&(1:Int)==1&&(sIx items.size items.size hi-sIx items.size 0 lo)==items.size)=true):=by
  intro q
  rw[GG,GG]at q
  have q1:((sIx items.size 0 lo:Nat):Int)=0:=eq_of_beq q.1.1
  have q2:sIx items.size items.size hi-sIx items.size 0 lo=items.size:=eq_of_beq q.2
  exact hw ⟨by omega,by omega⟩
 show GA _ _ (if(((sIx items.size 0 lo:Nat):Int)==0&&(1:Int)==1&&(sIx items.size items.size hi-sIx items.size 0 lo)==items.size)=true then _ else _) _ _ s
 rw[if_neg hno,xR]
 first
  |exact G2 (m:=Builtin.Tuple.tupleExact _) (HY (Gw ⟨_,rfl,Gw h⟩) htake)
  |exact G2 (m:=Builtin.Tuple.tupleExact _) (HY (G2 (Gw (Gw ⟨_,rfl,Gw h⟩))) htake)
  |exact G2 (G2 (m:=Builtin.Tuple.tupleExact _) (HY (Gw (Gw ⟨_,rfl,Gw h⟩)) htake))
  |exact G2 (G2 (m:=Builtin.Tuple.tupleExact _) (HY (Gw ⟨_,rfl,Gw h⟩) htake))
end
end HT
namespace L2
open PySem PySem.Spec PyProof.Rows
abbrev TO:=St->Hp->(Option Int->Hp->Prop)->Prop
def PO(X:Cx)(e:Option Expr)(t:TO):Prop:=
 ∀(pins:List (Addr×Obj)) (s:G3) (σ:St) (H:Hp) (Q:Option Int->Hp->Prop),Inv X pins σ H s->t σ H Q->
  GA (GD X.prog X.w) X.A (evalPart e X.env) (fun u s'=>∃o H',Inv X pins σ H' s'/\IsPart u o/\Q o H') X.xe s
def Aq:TO:=fun _ H Q=>Q none H
def E2(t:TE):TO:=fun σ H Q=>t σ H fun x H1=>∃i,x=.int i/\Q (some i) H1
theorem intsAre_of{ns:List Int}:∀{us:List G0},Vals (ns.map V.int) us->HN us ns:=by
 induction ns with
 |nil=>intro us r;rw[List.map_nil]at r;cases r;exact .nil
 |cons n ns ih=>
  intro us r
  rw[GH]at r
  cases r with
  |cons r1 r2=>
   obtain⟨t,e⟩:=r1
   subst e
   exact .cons n t (ih r2)
section
variable{X:Cx}{e:Expr}{te:TE}{lo hi:Option Expr}{tl th:TO}{pos p2:Pos}
theorem tW:PO X none Aq:=by intro pins s σ H Q I h;rw[evalPart_none];exact Gw ⟨none,H,I,.none,h⟩
theorem uA(h:PE X e te):PO X (some e) (E2 te):=by intro pins s σ H Q I hw;rw[evalPart_some];refine thn (h pins s σ H _ I hw) fun u s1 zz65_0=>?_;obtain⟨x,H1,I1,r1,q1⟩:=zz65_0;obtain⟨i,rfl,q⟩:=q1;obtain⟨t,rfl⟩:=r1;exact⟨some i,H1,I1,.int i t,q⟩
def SlR(X:Cx)(r:V->Option Int->Option Int->Hp->VK->Prop):Prop:=
 ∀(pins:List (Addr×Obj)) (s:G3) (σ:St) (H:Hp) (x:V) (v vl vu:G0) (lo hi:Option Int) (sl:Addr) (Q:VK),Inv X pins σ H s->RelV x v->s.heap.IsSliceOf sl vl vu .none->IsPart vl lo->IsPart vu hi->r x lo hi H Q->
  ∃T id,typeLookup (.type T) "__getitem__"=pure (some (.builtin id))/\s.TypeIs v T/\GA (GD X.prog X.w) X.A (getItem v (.ref sl)) (EP X pins σ Q) X.xe s
theorem SlR.or{r r':V->Option Int->Option Int->Hp->VK->Prop}(h:SlR X r)(h':SlR X r'):SlR X (fun x lo hi H Q=>r x lo hi H Q\/r' x lo hi H Q):=by
 intro pins s σ H x v vl vu lo hi sl Q I rx hs pl pu q;rcases q with q|q
 ·exact h pins s σ H x v vl vu lo hi sl Q I rx hs pl pu q
 ·exact h' pins s σ H x v vl vu lo hi sl Q I rx hs pl pu q
def tSl(r:V->Option Int->Option Int->Hp->VK->Prop)(te:TE)(tl th:TO):TE:=fun σ H Q=>te σ H fun x H1=>tl σ H1 fun l H2=>th σ H2 fun u H3=>r x l u H3 Q
theorem lW{r:V->Option Int->Option Int->Hp->VK->Prop}(hr:SlR X r)(he:PE X e te)(hl:PO X lo tl)(hu:PO X hi th):PE X (.Subscript e (.Slice lo hi none p2) pos) (tSl r te tl th):=by intro pins s σ H Q I h;refine Subscript_ (thn (he pins s σ H _ I h) fun v s1 zz66_0=>?_);obtain⟨x,H1,I1,r1,q1⟩:=zz66_0;refine wpAny_Slice (thn (hl pins s1 σ H1 _ I1 q1) fun vl s2 ⟨l,H2,I2,pl,q2⟩=>thn (hu pins s2 σ H2 _ I2 q2) fun vu s3 zz67_0=>?_);obtain⟨u,H3,I3,pu,q3⟩:=zz67_0;rw[evalPart_none];refine Gw ?_;have I4:Inv X pins σ H3 { s3 with heap:=s3.heap.push { cls:=.type "slice",data:=.fields #[vl,vu,.none] } }:=I3.kept (t':=s3.toks) fun b ob q=>G4 _ q;obtain⟨T,id,hT,ht,hg⟩:=hr pins { s3 with heap:=s3.heap.push { cls:=.type "slice",data:=.fields #[vl,vu,.none] } } σ H3 x v vl vu l u s3.heap.objs.size Q I4 r1 (Heap.IsSliceOf.new ..) pl pu q3;show GA (GD X.prog X.w) X.A (subscriptTail e (.Slice lo hi none p2) v (.ref s3.heap.objs.size)) (EP X pins σ Q) X.xe { s3 with heap:=s3.heap.push { cls:=.type "slice",data:=.fields #[vl,vu,.none] } };exact tail_any (ops:=[.ref s3.heap.objs.size,v]) ht hT hg (by with_unfolding_all rfl)
def qk(xs:List V)(lo hi:Option Int):List V:=(xs.drop (HT.sIx xs.length 0 lo)).take (HT.sIx xs.length xs.length hi-HT.sIx xs.length 0 lo)
theorem jL(xs:List V)(lo hi:Option Int):(qk xs lo hi).length<=xs.length:=by unfold qk;rw[List.length_take,List.length_drop];omega
def Fv(K:cc):V->Option Int->Option Int->Hp->VK->Prop:=fun x lo hi H Q=>∃a xs,x=.ref a/\SqT K H a xs/\
 ¬(HT.sIx xs.length 0 lo=0/\HT.sIx xs.length xs.length hi=xs.length)/\∀p,H p=none->Q (.ref p) (upd H p (.tup (qk xs lo hi)))
theorem xq:SlR X (Fv X.K):=by
 intro pins s σ H x v vl vu lo hi sl Q I rx hs pl pu h;obtain⟨a,xs,rfl,hx,hw,q⟩:=h;cases rx;obtain⟨its,r,ht,hz⟩:=I.tuple hx;have hlen:its.toArray.size=xs.length:=by rw[Gz];exact r.length.symm
 refine⟨"tuple",_,PyProof.Rows.slot_tuple_getitem.lookup,ht.typeIs,?_⟩;refine HT.iH ht hs pl pu (by rw[hlen];exact hw) ?_ (by rw[hlen];exact hz);rw[hlen];refine⟨.ref s.heap.objs.size,_,I.laid (t':=s.toks) (o:=.tup (qk xs lo hi)) (fun b ob q=>G4 _ q) (G9 _) ?_,rfl,q _ (I.hok.fresh (G9 _))⟩;exact⟨Gy (jL xs lo hi) hz,_,(r.drop (HT.sIx xs.length 0 lo)).take (HT.sIx xs.length xs.length hi-HT.sIx xs.length 0 lo),IsTup.new _ _⟩
def Gi(K:cc):R2:=fun x y H Q=>∃a b ns ms,x=.ref a/\y=.ref b/\SqT K H a (ns.map V.int)/\SqT K H b (ms.map V.int)/\Q (.bl (HT.lexLt ns ms)) H
theorem BX(hu:X.A.units<Jc):OpR X (GF .Lt) (Gi X.K):=by intro pins s σ H x y v u Q I rx ry h;obtain⟨a,b,ns,ms,rfl,rfl,ha,hb,q⟩:=h;cases rx;cases ry;obtain⟨its,r1,p1,_⟩:=I.tuple ha;obtain⟨its2,r2,p2,_⟩:=I.tuple hb;have i1:HN its.toArray.toList ns:=intsAre_of r1;have i2:HN its2.toArray.toList ms:=intsAre_of r2;exact HT.ml p1 p2 i1 i2 hu ⟨.bl (HT.lexLt ns ms),H,I,rfl,q⟩
def E5(K:cc):R2:=fun x y H Q=>∃a b xs ys,x=.ref a/\y=.ref b/\SqT K H a xs/\SqT K H b ys/\xs≠[]/\xs.length+ys.length<=Gp/\
 (ys=[]->Q (.ref a) H)/\(ys≠[]->∀p,H p=none->Q (.ref p) (upd H p (.tup (xs++ys))))
theorem Vals.oM{xs:List V}{us:List G0}(r:Vals xs us):us=[]↔xs=[]:=by
 cases r with
 |nil=>simp
 |cons _ _=>simp
theorem AE:OpR X (Iu .Add) (E5 X.K):=by intro pins s σ H x y v u Q I rx ry h;obtain⟨a,b,xs,ys,rfl,rfl,ha,hb,hx,hz,q1,q2⟩:=h;cases rx;cases ry;obtain⟨its,r1,p1,_⟩:=I.tuple ha;obtain⟨its2,r2,p2,_⟩:=I.tuple hb;refine HT.zP p1 p2 (fun z=>hx (r1.oM.mp z)) (fun z=>⟨.ref a,H,I,rfl,q1 (r2.oM.mp z)⟩) (fun z=>?_) (by rw[<-r1.length,<-r2.length];exact hz);refine⟨.ref s.heap.objs.size,_,I.laid (t':=s.toks) (o:=.tup (xs++ys)) (fun b ob q=>G4 _ q) (G9 _) ?_,rfl,q2 (fun w=>z (r2.oM.mpr w)) _ (I.hok.fresh (G9 _))⟩;exact⟨by rw[HM];exact hz,_,r1.append r2,IsTup.new _ _⟩
end
def ixN(n:Nat)(i:Int):Option Nat:=if 0<=i then(if i<n then some i.toNat else none)else if -(n:Int)<=i then some (i+n).toNat else none
def atI{α:Type}(xs:List α)(i:Int):Option α:=(ixN xs.length i).bind fun j=>xs[j]?
theorem uP{n:Nat}{i:Int}{j:Nat}(h:ixN n i=some j):seqIndex? i n=some j/\j<n/\-(n:Int)<=i/\i<n:=by
 unfold ixN at h;by_cases h0:0<=i
 ·rw[if_pos h0]at h;by_cases h1:i<n
  ·rw[if_pos h1]at h;have e:i.toNat=j:=Option.some.inj h;exact⟨by rw[seqIndex_of h0 h1,e],by omega,by omega,h1⟩
  ·rw[if_neg h1]at h;cases h
 ·rw[if_neg h0]at h;by_cases h1:-(n:Int)<=i
  ·rw[if_pos h1]at h;have e:(i+n).toNat=j:=Option.some.inj h;exact⟨by rw[seqIndex_neg (by omega) h1,e],by omega,h1,by omega⟩
  ·rw[if_neg h1]at h;cases h
theorem oE{α:Type}{xs:List α}{i:Int}{v:α}(h:atI xs i=some v):∃j,seqIndex? i xs.length=some j/\xs[j]?=some v/\j<xs.length/\-(xs.length:Int)<=i/\i<xs.length:=by
 unfold atI at h;cases e:ixN xs.length i with
 |none=>rw[e]at h;cases h
 |some j=>
  rw[e]at h
  obtain⟨h1,h2,h3,h4⟩:=uP e
  exact⟨j,h1,h,h2,h3,h4⟩
theorem fL{α:Type}{xs:List α}{j:Nat}{v:α}(h:xs[j]?=some v):atI xs (j:Int)=some v:=by
 have hj:j<xs.length:=(GN.mp h).1;have e:ixN xs.length (j:Int)=some j:=by unfold ixN;rw[if_pos (by omega),if_pos (by omega)];simp
 unfold atI;rw[e];exact h
def kl(b:Expr):Prop:=∀o i,subscripted b false o i=operate [o,i] (getItem o i)
def IxR(X:Cx)(r:R2):Prop:=
 ∀(value slice:Expr) (pins:List (Addr×Obj)) (s:G3) (σ:St) (H:Hp) (x y:V) (v u:G0) (Q:VK),Inv X pins σ H s->RelV x v->RelV y u->r x y H Q->
  subscripted slice false v u=operate [v,u] (getItem v u)->GA (GD X.prog X.w) X.A (subscriptTail value slice v u) (EP X pins σ Q) X.xe s
def MtR(X:Cx)(id:String)(r:V->List V->Hp->VK->Prop):Prop:=
 ∀(pins:List (Addr×Obj)) (s:G3) (σ:St) (H:Hp) (x:V) (xs:List V) (v:G0) (us:List G0) (Q:VK),Inv X pins σ H s->RelV x v->Vals xs us->r x xs H Q->
  GA (GD X.prog X.w) X.A (call (.builtin id) (v::us)) (EP X pins σ Q) X.xe s
section
variable{X:Cx}{a b:Expr}{ta tb:TE}{pos:Pos}
theorem IxR.or{r r':R2}(h:IxR X r)(h':IxR X r'):IxR X (fun x y H Q=>r x y H Q\/r' x y H Q):=by
 intro value slice pins s σ H x y v u Q I rx ry q hs;rcases q with q|q
 ·exact h value slice pins s σ H x y v u Q I rx ry q hs
 ·exact h' value slice pins s σ H x y v u Q I rx ry q hs
theorem EH{r:R2}(hr:IxR X r)(ha:PE X a ta)(hb:PE X b tb)(hs:kl b):PE X (.Subscript a b pos) (tOp r ta tb):=by intro pins s σ H Q I h;exact Subscript_ (CU ha hb I h fun v u s2 x y H2 I2 rx ry q=>hr a b pins s2 σ H2 x y v u Q I2 rx ry q (hs _ _))
def EE(K:cc):R2:=fun x y H Q=>∃p xs i v,x=.ref p/\y=.int i/\SqL K H p xs/\atI xs i=some v/\Q v H
def Ep(K:cc):R2:=fun x y H Q=>∃p xs i v,x=.ref p/\y=.int i/\SqT K H p xs/\atI xs i=some v/\Q v H
def EC:R2:=fun x y H Q=>∃z i c,x=.str z/\y=.int i/\z.length<=Gp/\atI z.cps.toList i=some c/\Q (.str ⟨#[c]⟩) H
theorem zk:IxR X (EE X.K):=by
 intro value slice pins s σ H x y v u Q I rx ry h hs;obtain⟨p,xs,i,z,rfl,rfl,hq,he,q⟩:=h;cases rx;obtain⟨t,rfl⟩:=ry;obtain⟨its,r,pl,hz⟩:=I.list hq;obtain⟨j,h1,h2,h3,h4,h5⟩:=oE he;obtain⟨w,ew,rw'⟩:=r.get h2;have hl:=r.length;have hn:=iz;have fin:EP X pins σ Q w s:=⟨z,H,I,rw',q⟩;by_cases h0:0<=i
 ·have hj:i.toNat=j:=by rw[seqIndex_of h0 h5]at h1;exact Option.some.inj h1
  exact item_listR pl.isList h0 (by omega) (by rw[hj];simpa using ew) fin hs
 ·have hj:(i+(its.toArray.size:Int)).toNat=j:=by rw[seqIndex_neg (by omega) h4]at h1;rw[Gz,<-hl];exact Option.some.inj h1
  exact subscriptTail_builtinR (x:=w) pl.isList.typeIs slot_list_getitem.lookup (wpAny_getItem_list_neg (Q:=fun r s'=>r=w/\EP X pins σ Q r s') pl.isList (by omega) (by rw[Gz]<;>omega) (by omega) (by rw[hj];simpa using ew) ⟨rfl,fin⟩) hs
theorem C1:IxR X (Ep X.K):=by intro value slice pins s σ H x y v u Q I rx ry h hs;obtain⟨p,xs,i,z,rfl,rfl,hq,he,q⟩:=h;cases rx;obtain⟨t,rfl⟩:=ry;obtain⟨its,r,pl,hz⟩:=I.tuple hq;obtain⟨j,h1,h2,h3,h4,h5⟩:=oE he;obtain⟨w,ew,rw'⟩:=r.get h2;have hl:=r.length;have hn:=iz;have fin:EP X pins σ Q w s:=⟨z,H,I,rw',q⟩;exact subscriptTail_builtinR (x:=w) pl.typeIs slot_tuple_getitem.lookup (getItem_tuple (j:=j) (Q:=fun r s'=>r=w/\EP X pins σ Q r s') pl (by omega) (by omega) (by rw[Gz,<-hl];exact h1) (by simpa using ew) ⟨rfl,fin⟩) hs
theorem sZ:IxR X EC:=by
 intro value slice pins s σ H x y v u Q I rx ry h hs;obtain⟨z,i,c,rfl,rfl,hz,he,q⟩:=h;obtain⟨t,rfl⟩:=rx;obtain⟨t',rfl⟩:=ry;obtain⟨j,h1,h2,h3,h4,h5⟩:=oE he;have hl:z.cps.toList.length=z.length:=by simp[Str.length]
 rw[hl]at h1 h4 h5;have hn:=iz
 exact tail_any (J1 s z t) slot_str_getitem.lookup (getItem_str (c:=c) (by
  have e1:decide (i < -(2^63:Int))=false:=decide_eq_false (by omega)
  have e2:decide (i≥2^63)=false:=decide_eq_false (by omega)
  rw[e1,e2,Bool.or_false]) (by rw[h1];simpa using h2) ⟨.str ⟨#[c]⟩,H,I.tok _,⟨_,rfl⟩,q⟩) hs
def rIx(K:cc):R2:=fun x y H Q=>EE K x y H Q\/Ep K x y H Q\/EC x y H Q
theorem xW:IxR X (rIx X.K):=zk.or (C1.or sZ)
theorem qW(its:List G0)(n j:Nat)(u:G0):Obj.mapSeq (·.setIfInBounds j u) { cls:=.type "list",data:=.seq its.toArray n }={ cls:=.type "list",data:=.seq (its.set j u).toArray n }:=by simp[Obj.mapSeq]
theorem Inv.lst{pins:List (Addr×Obj)}{σ:St}{H:Hp}{s:G3}{p:Addr}{xs:List V}(I:Inv X pins σ H s)(h:H p=some (.lst xs)) : ∃(its:List G0) (n:Nat),Vals xs its/\s.heap.get? p=some { cls:=.type "list",data:=.seq its.toArray n }/\xs.length<=Gp:=by obtain⟨z,its,n,r,e⟩:=I.hok p _ h;exact⟨its,n,r,e,z⟩
theorem Inv.CV{pins:List (Addr×Obj)}{σ:St}{H:Hp}{s:G3}{p:Addr}{xs ys:List V}{its its':List G0}{n n':Nat}{f:Obj->Obj}(I:Inv X pins σ H s)(h:H p=some (.lst xs))
 (ho:s.heap.get? p=some { cls:=.type "list",data:=.seq its.toArray n }) (hf:f { cls:=.type "list",data:=.seq its.toArray n }={ cls:=.type "list",data:=.seq its'.toArray n' }) (r:Vals ys its') (hz:ys.length<=Gp) (t:Nat) :
 Inv X pins σ (upd H p (.lst ys)) { s with heap:=s.heap.update p f,toks:=t }:=by
 have e:(s.heap.update p f).get? p=some { cls:=.type "list",data:=.seq its'.toArray n' }:=by
  rw[HH f ho (by rw[hf]<;>rfl),hf]
 refine I.write (x:=p) (e:=p) (by rw[h];trivial) (.inl rfl) (fun b u hb q=>(GJ _ _ (Ne.symm hb)).trans q) ⟨_,e⟩ ?_
 exact⟨hz,its',n',r,e⟩
def EZ:V->V->V->Hp->(Hp->Prop)->Prop:=fun o i v H Q=>∃p xs k j,o=.ref p/\i=.int k/\H p=some (.lst xs)/\ixN xs.length k=some j/\Q (upd H p (.lst (xs.set j v)))
theorem set_list:EJ X EZ:=by
 intro pins s σ H o i v ov iv u Q I ro ri rv h;obtain⟨p,xs,k,j,rfl,rfl,hp,hj,q⟩:=h;cases ro;obtain⟨t,rfl⟩:=ri;obtain⟨its,n,r,ho,hz⟩:=I.lst hp;obtain⟨h1,h2,h3,h4⟩:=uP hj;have hl:=r.length;have hn:=iz;have I':Inv X pins σ (upd H p (.lst (xs.set j v))) { s with heap:=s.heap.update p (Obj.mapSeq (·.setIfInBounds j u)) }:=I.CV hp ho (qW its n j u) (r.set rv j) (by rw[List.length_set];exact hz) s.toks;by_cases h0:0<=k
 ·have hk:k.toNat=j:=by rw[seqIndex_of h0 h4]at h1;exact Option.some.inj h1
  exact PySem.W.ki_setAt ho h0 (by omega) (by rw[Gz,<-hl];exact h4) (by rw[hk];exact⟨_,I',q⟩)
 ·have hk:(k+(its.toArray.size:Int)).toNat=j:=by rw[seqIndex_neg (by omega) h3]at h1;rw[Gz,<-hl];exact Option.some.inj h1
  exact PySem.W.ki_setBack ho (by omega) (by rw[Gz,<-hl];exact h3) (by omega) (by rw[hk];exact⟨_,I',q⟩)
theorem pJ(lo hi:Option Int)(n:Nat):(sliceBounds lo hi none n).1=((HT.sIx n 0 lo:Nat):Int)/\(sliceBounds lo hi none n).2.1=((HT.sIx n n hi:Nat):Int)/\(sliceBounds lo hi none n).2.2=1:=by
 refine⟨?_,?_,rfl⟩
 ·cases lo with
  |none=>simp[sliceBounds,HT.sIx]
  |some i=>
   simp only[sliceBounds,HT.sIx,Option.getD_none,show(1:Int)>0 by decide,if_true]
   by_cases h:i<0
   ·simp only[h,if_true]<;>omega
   ·simp only[h,if_false]<;>omega
 ·cases hi with
  |none=>simp[sliceBounds,HT.sIx]
  |some i=>
   simp only[sliceBounds,HT.sIx,Option.getD_none,show(1:Int)>0 by decide,if_true]
   by_cases h:i<0
   ·simp only[h,if_true]<;>omega
   ·simp only[h,if_false]<;>omega
theorem mx(its:List G0)(lo hi:Option Int):slicePick its.toArray lo hi none=((its.drop (HT.sIx its.length 0 lo)).take (HT.sIx its.length its.length hi-HT.sIx its.length 0 lo)).toArray:=by obtain⟨h1,h2,h3⟩:=pJ lo hi its.toArray.size;unfold slicePick;rw[h1,h2,h3];simp only[sliceRange_one,pick_run,Gz]<;>rfl
def Fq(K:cc):V->Option Int->Option Int->Hp->VK->Prop:=fun x lo hi H Q=>∃a xs,x=.ref a/\SqL K H a xs/\∀p,H p=none->Q (.ref p) (upd H p (.lst (qk xs lo hi)))
theorem uC:SlR X (Fq X.K):=by intro pins s σ H x v vl vu lo hi sl Q I rx hs pl pu h;obtain⟨a,xs,rfl,hx,q⟩:=h;cases rx;obtain⟨its,r,ht,hz⟩:=I.list hx;have hlen:=r.length;refine⟨"list",_,slot_list_getitem.lookup,ht.isList.typeIs,?_⟩;refine wpAny_getItem_list_slice ht.isList hs pl pu .none (by simp) ?_ (by rw[Gz]<;>omega);rw[mx,<-hlen];refine⟨.ref s.heap.objs.size,_,I.laid (t':=s.toks) (o:=.lst (qk xs lo hi)) (fun b ob q=>G4 _ q) (G9 _) ?_,rfl,q _ (I.hok.fresh (G9 _))⟩;exact⟨Gy (jL xs lo hi) hz,_,0,(r.drop (HT.sIx xs.length 0 lo)).take (HT.sIx xs.length xs.length hi-HT.sIx xs.length 0 lo),GB _ rfl⟩
theorem oQ:b5 X (.builtin "len") (fun xs H Q=>∃p ys,xs=[.ref p]/\(SqL X.K H p ys\/SqT X.K H p ys)/\Q (.int ys.length) H):=by
 intro pins s σ H xs us Q I r h;obtain⟨p,ys,rfl,hq,q⟩:=h;obtain⟨u,rfl,rx⟩:=vals1 r;cases rx;have hn:=iz;rcases hq with hq|hq
 ·obtain⟨its,r',pl,hz⟩:=I.list hq;have hlen:=r'.length;exact Calls.call_len_list pl.isList (by simp only[Gz]<;>omega) ⟨.int ys.length,H,I.tok _,⟨s.toks+1,by rw[Gz,hlen]⟩,q⟩
 ·obtain⟨its,r',pl,hz⟩:=I.tuple hq;have hlen:=r'.length;exact len_tuple pl (by simp only[Gz]<;>omega) ⟨.int ys.length,H,I.tok _,⟨s.toks+1,by rw[Gz,hlen]⟩,q⟩
theorem pG:b5 X (.builtin "len") (fun xs H Q=>∃z,xs=[.str z]/\z.length<=Gp/\Q (.int z.length) H):=by intro pins s σ H xs us Q I r h;obtain⟨z,rfl,hz,q⟩:=h;obtain⟨u,rfl,t,rfl⟩:=vals1 r;have hn:=iz;exact len_str (by omega) ⟨.int z.length,H,I.tok _,⟨_,rfl⟩,q⟩
theorem b5.or{f:G0}{r r':List V->Hp->VK->Prop}(h:b5 X f r)(h':b5 X f r'):b5 X f (fun xs H Q=>r xs H Q\/r' xs H Q):=by
 intro pins s σ H xs us Q I rs q;rcases q with q|q
 ·exact h pins s σ H xs us Q I rs q
 ·exact h' pins s σ H xs us Q I rs q
theorem oq:b5 X (.type "list") (fun xs H Q=>∃p ys,xs=[.ref p]/\(SqL X.K H p ys\/SqT X.K H p ys)/\∀l,H l=none->Q (.ref l) (upd H l (.lst ys))):=by
 intro pins s σ H xs us Q I r h;obtain⟨p,ys,rfl,hq,q⟩:=h;obtain⟨u,rfl,rx⟩:=vals1 r;cases rx;have fin:∀(its:List G0),Vals ys its->ys.length<=Gp->∀(h':Heap) (c':Nat),(∀b o',s.heap.get? b=some o'->h'.get? b=some o')->h'.get? s.heap.objs.size=some { cls:=.type "list",dict:=none,data:=.seq its.toArray c',slots:=#[] }->EP X pins σ Q (.ref s.heap.objs.size) { s with heap:=h' }:=fun its r' hz h' c' kp e=>⟨.ref s.heap.objs.size,_,I.laid (t':=s.toks) kp (G9 _) (show cY X.prog X.w _ h' _ (.lst ys)from⟨hz,its,c',r',e⟩),rfl,q _ (I.hok.fresh (G9 _))⟩;rcases hq with hq|hq
 ·obtain⟨its,r',pl,hz⟩:=I.list hq;have hlen:=r'.length;obtain⟨o,ho,hc,n,hd⟩:=pl.isList;exact call_list_seq p (.inl rfl) ho hc hd (fun h' c' kp e=>fin its r' hz h' c' kp e) (by simp only[Gz]<;>omega)
 ·obtain⟨its,r',pl,hz⟩:=I.tuple hq;have hlen:=r'.length;obtain⟨o,ho,hc,n,hd⟩:=pl;exact call_list_seq p (.inr rfl) ho hc hd (fun h' c' kp e=>fin its r' hz h' c' kp e) (by simp only[Gz]<;>omega)
theorem mH:b5 X (.type "tuple") (fun xs H Q=>∃p ys,xs=[.ref p]/\((SqL X.K H p ys/\∀l,H l=none->Q (.ref l) (upd H l (.tup ys)))\/(SqT X.K H p ys/\Q (.ref p) H))):=by
 intro pins s σ H xs us Q I r h;obtain⟨p,ys,rfl,h⟩:=h;obtain⟨u,rfl,rx⟩:=vals1 r;cases rx;rcases h with⟨hq,q⟩|⟨hq,q⟩
 ·obtain⟨its,r',pl,hz⟩:=I.list hq;have hlen:=r'.length;refine call_tuple_list pl.isList (fun h' kp=>?_) (by simp only[Gz]<;>omega);have I1:Inv X pins σ H { s with heap:=h' }:=I.kept (t':=s.toks) kp;have I2:Inv X pins σ (upd H h'.objs.size (.tup ys)) { s with heap:=h'.push { cls:=.type "tuple",data:=.seq its.toArray } }:=I1.laid (t':=s.toks) (fun b o e=>G4 _ e) (G9 _) (show cY X.prog X.w _ _ _ (.tup ys)from⟨hz,its,r',IsTup.new _ _⟩);exact⟨.ref h'.objs.size,_,I2,rfl,q _ (I1.hok.fresh (G9 _))⟩
 ·obtain⟨its,r',pl,hz⟩:=I.tuple hq;exact call_tuple_same pl ⟨.ref p,H,I,rfl,q⟩
def tyV(K:cc)(T:String)(x:V)(H:Hp):Prop:=match x with
 |.str _=>T="str"
 |.int _=>T="int"
 |.ref p=>(T="list"/\∃xs,SqL K H p xs)\/(T="tuple"/\∃o,K.lookup p=some o/\o.cls=.type "tuple"/\o.dict=none)\/
  (T="dict"/\((∃kvs,H p=some (.dK kvs))\/∃kvs,H p=some (.dT kvs)))\/(T="set"/\∃S n,H p=some (.set S n))
 |_=>False
theorem Cw{pins:List (Addr×Obj)}{σ:St}{H:Hp}{s:G3}{T:String}{x:V}{v:G0}(I:Inv X pins σ H s)(r:RelV x v)(ty:tyV X.K T x H) : s.TypeIs v T/\∀a,v=.ref a->∃ob,s.heap.get? a=some ob/\ob.dict=none:=by
 cases x with
 |str z=>
  obtain⟨t,rfl⟩:=r
  cases (show T="str" from ty)
  exact⟨J1 s z t,fun _ e=>nomatch e⟩
 |int i=>
  obtain⟨t,rfl⟩:=r
  cases (show T="int" from ty)
  exact⟨typeIs_int s i t,fun _ e=>nomatch e⟩
 |ref p=>
  cases r
  rcases ty with⟨rfl,xs,hq⟩|⟨rfl,o,hk,hc,hd⟩|⟨rfl,hk⟩|⟨rfl,S,n,hk⟩
  ·obtain⟨its,_,pl,_⟩:=I.list hq;refine⟨pl.isList.typeIs,fun a e=>?_⟩;cases e;obtain⟨o,n,e,c,hd,_⟩:=pl;exact⟨o,e,hd⟩
  ·refine⟨⟨o,I.kIn p o hk,hc⟩,fun a e=>?_⟩;cases e;exact⟨o,I.kIn _ o hk,hd⟩
  ·have z:∃o,s.heap.get? p=some o/\o.ExactDict:=by
    rcases hk with⟨kvs,hk⟩|⟨kvs,hk⟩
    ·obtain⟨_,_,_,_,o,_,_,e,ex,_⟩:=I.hok p _ hk;exact⟨o,e,ex⟩
    ·obtain⟨_,_,_,_,o,_,_,e,ex,_⟩:=I.hok p _ hk;exact⟨o,e,ex⟩
   obtain⟨o,e,ex⟩:=z;refine⟨⟨o,e,ex.1⟩,fun a e2=>?_⟩;cases e2;exact⟨o,e,ex.2.1⟩
  ·obtain⟨o,_,_,_,e,ex,_⟩:=I.hok p _ hk;refine⟨⟨o,e,ex.1⟩,fun a e2=>?_⟩;cases e2;exact⟨o,e,ex.2.1⟩
 |_=>exact Ij ty
def tBM(K:cc)(T:String)(r:V->List V->Hp->VK->Prop)(to:TE)(t:TA):TE:=fun σ H Q=>to σ H fun x H1=>tyV K T x H1/\t σ H1 fun xs H2=>r x xs H2 Q
variable{o e:Expr}{es:List Expr}{to:TE}{t:TA}{name:Str}{apos cpos:Pos}{T id:String}{r:V->List V->Hp->VK->Prop}
theorem nW(pa:PlainAttrs T)(slot:Slot T name id)(hty:typeOf (.builtin id)=pure (.type "method_descriptor"))(hm:MtR X id r)(ho:PE X o to)(ha:PA X (e::es) t)
 (hbase:Iw o name X.env (eval o X.env)=eval o X.env:=by rfl)
 (hfew:((Ik cpos (Gx (e::es) X.env)).all (fun x=>!x.1)&&(backToKw cpos (keywordEach [] X.env)).all (fun x=>x.1.isSome)
  && decide ((e::es).length+([]:List Keyword).length+(if([]:List Keyword).isEmpty then 0 else 1)<30))=true:=by rfl)
 (hline:(apos.endLine==cpos.line)=true:=by rfl) (hs:Gx (e::es) X.env=(false,eval e X.env)::Gx es X.env:=by rfl) (hplain:(Ik cpos (Gx es X.env)).any (·.1)=false:=by rfl) :
 PE X (.Call (.Attribute o name apos) (e::es) [] cpos) (tBM X.K T r to t):=by
 intro pins s σ H Q I h
 refine wpAny_Call_method_late hbase hfew hline rfl (thn (ho pins s σ H _ I h) fun v s1 zz69_0=>?_)
 obtain⟨x,H1,I1,r1,ty,q1⟩:=zz69_0
 obtain⟨h1,h2⟩:=Cw I1 r1 ty
 refine⟨T,id,pa,slot,hty,h1,h2,?_⟩
 have hA:=ha cpos pins s1 σ H1 _ I1 q1
 rw[hs]at hA ⊢
 refine Calls.callWith_builtin (by show(false||(Ik cpos (Gx es X.env)).any (·.1))=false;rw[hplain]<;>rfl) (Calls.evalArgs_plain ?_)
 exact thn hA fun us s2 zz70_0=>by obtain⟨vs,H2,I2,r2,q2⟩:=zz70_0;exact(hm pins s2 σ H2 x vs v us Q I2 r1 r2 q2)
/- xs.append(e),list.index on a module's tuple .. are MtR facts of 06m -/
end
def MtM(X:Cx)(id:String)(r:V->List V->Hp->VK->Prop):Prop:=
 ∀(pins:List (Addr×Obj)) (s:G3) (σ:St) (H:Hp) (x:V) (xs:List V) (v:G0) (us:List G0) (Q:VK),Inv X pins σ H s->RelV x v->Vals xs us->r x xs H Q->
  GA (GD X.prog X.w) X.A (call (.builtin id) (v::us)) (EP X pins σ Q) X.xe s
theorem Vals.one:∀{x:V} {us:List G0},Vals [x] us->∃u,us=[u]/\RelV x u
 |_,_,.cons r .nil=>⟨_,rfl,r⟩
section
variable{X:Cx}{pins:List (Addr×Obj)}{σ:St}{H:Hp}{s:G3}{l b:Addr}{xs ys zs:List V}
theorem Inv.FQ{its its':List G0}{n:Nat}{f:Array G0->Array G0}{t':Nat}(I:Inv X pins σ H s)(hH:H l=some (.lst xs))
 (e:s.heap.get? l=some { cls:=.type "list",data:=.seq its.toArray n }) (hf:f its.toArray=its'.toArray) (hv:Vals ys its') (hz:ys.length<=Gp) :
 Inv X pins σ (upd H l (.lst ys)) { s with heap:=s.heap.update l (Obj.mapSeq f),toks:=t' }:=by
 have q:=PySem.IsL.update e f
 rw[hf]at q
 refine I.write (x:=l) (e:=l) (by rw[hH];exact trivial) (.inl rfl) (fun b' u hb hu=>(GJ s.heap (Obj.mapSeq f) (Ne.symm hb)).trans hu) ⟨_,q⟩ ?_
 exact⟨hz,its',_,hv,q⟩
theorem Inv.Gg{its:List G0}{t':Nat}(I:Inv X pins σ H s)(hv:Vals ys its)(hz:ys.length<=Gp) : Inv X pins σ (upd H s.heap.objs.size (.lst ys)) { s with heap:=s.heap.push { cls:=.type "list",data:=.seq its.toArray },toks:=t' }:=I.laid (fun _ _ q=>G4 _ q) (G9 _) ⟨hz,its,0,hv,GB _ rfl⟩
theorem Inv.fresh(I:Inv X pins σ H s):H s.heap.objs.size=none:=I.hok.fresh (G9 _)
theorem Inv.wj(I:Inv X pins σ H s)(hH:H l=some (.lst xs)):xs.length<=Gp/\∃(its:List G0) (n:Nat),Vals xs its/\xs.length=its.length/\s.heap.get? l=some { cls:=.type "list",data:=.seq its.toArray n }:=by obtain⟨z,its,n,r,e⟩:=I.hok l _ hH;exact⟨z,its,n,r,r.length,e⟩
end
section
variable{X:Cx}
def zh:V->List V->Hp->VK->Prop:=fun x vs H Q=>∃l xs y,x=.ref l/\vs=[y]/\H l=some (.lst xs)/\xs.length<Gp/\Q .non (upd H l (.lst (xs++[y])))
theorem nj:MtM X "list.append" zh:=by intro pins s σ H x vs v us Q I rx rv h;obtain⟨l,xs,y,rfl,rfl,hH,hz,q⟩:=h;cases rx;obtain⟨u,rfl,ru⟩:=rv.one;obtain⟨z,its,n,r,hl,e⟩:=I.wj hH;refine call_meets F.slot_list_append ⟨_,e,rfl⟩ F.entry_list_append (F.args_list_append_2 _ _) (PySem.list_append l its.toArray n u (by rw[Gz];omega)) ⟨e,?_⟩;refine⟨.non,_,I.FQ (its':=its++[u]) hH e (by simp) (r.append (.cons ru .nil)) ?_,rfl,q⟩;rw[HM,List.length_singleton];omega
def FF:R2:=fun x y H Q=>∃l b xs zs,x=.ref l/\y=.ref b/\H l=some (.lst xs)/\H b=some (.lst zs)/\xs.length+zs.length<=Gp/\∀p,H p=none->Q (.ref p) (upd H p (.lst (xs++zs)))
theorem Dh:OpR X (Iu .Add) FF:=by
 intro pins s σ H x y v u Q I rx ry h;obtain⟨l,b,xs,zs,rfl,rfl,hH,hB,hz,q⟩:=h;cases rx;cases ry;obtain⟨z,its,n,r,hl,e⟩:=I.wj hH;obtain⟨z2,its2,n2,r2,hl2,e2⟩:=I.wj hB;refine PySem.P.add_list e e2 ?_ (by rw[Gz,Gz];omega);have ea:its.toArray++its2.toArray=(its++its2).toArray:=by simp
 rw[ea];exact⟨.ref _,_,I.Gg (t':=s.toks) (r.append r2) (by rw[HM];omega),rfl,q _ I.fresh⟩
end
section
variable{prog:GC}{w:Hd}{A:He}{E:G0->G3->Prop}{s:G3}
end
section
variable{X:Cx}
end
end L2
namespace Att
open PySem PySem.W PySem.Calls PyProof.Rows
theorem j0{P:Gq}{h:Heap}:∀(ns:List Int) (vs:List G0),WellAll P h vs (ns.map WData.int)->HN vs ns:=by
 intro ns
 induction ns with
 |nil=>
  intro vs w
  rw[List.map_nil]at w
  cases w
  exact .nil
 |cons n ns ih=>
  intro vs w
  rw[GH]at w
  cases w with
  |cons a b=>
   cases a
   exact .cons _ _ (ih _ b)
theorem vm{l:OpenLaw}{n:Nat}(hn:l.most=some n){P:Gq}{h:Heap}{args:List WData}{vals:List G0}
 (hpre:l.row.toRowW.claim.pre args=true) (hwl:WellAll P h vals args) :
 ∃a vs ns,vals=[Hy a]/\args=[WData.list (ns.map WData.int)]/\h.get? a=some { cls:=.type "list",data:=.seq vs.toArray }/\HN vs ns/\ns.length<=n:=by
 have hsh:WShape.hasAll [] args [.list .int]=true:=(pre_splitW hpre).1
 have hc:l.pre.holds [] { args:=args }=true:=(pre_splitW hpre).2
 obtain⟨d,r,rfl,h1,h2⟩:=hasAllW_cons hsh
 obtain rfl:=hasAllW_nil h2
 obtain⟨xs,rfl,h3⟩:=hasW_list h1
 obtain⟨ns,rfl⟩:=items_int h3
 have hlen:ns.length<=n:=by
  unfold OpenLaw.pre at hc
  have h4:(WTm.not (.lt (.lit (.int (n:Int))) (.len (.arg 0)))).holds [] { args:=[.list (ns.map .int)] }=true:=by
   have h4:=(holds_andW hc).1
   rw[hn]at h4
   exact h4
  have h5:=condW_of h4 (w_not (w_lt w_lit (w_len_list (w_arg rfl))))
  rw[G7]at h5
  refine Nat.le_of_not_lt fun q=>?_
  have q':(n:Int)<((ns.length:Nat):Int):=by omega
  first
   |(rw[decide_eq_true q']at h5;exact absurd h5 (by decide))
   |(simp at h5;omega)
 cases hwl with
 |cons w1 w2=>
  cases w2
  cases w1 with
  |list ho hall=>exact⟨_,_,ns,rfl,rfl,ho,j0 ns _ hall,hlen⟩
theorem vp(l:OpenLaw)(args:List WData):l.row.toRowW.claim.post args (.bool true) args=true:=
 postW_of (r:=l.row.toRowW) (X:=(true==true))
  (show WShape.has [] (.bool true) .bool=true by first|rfl|decide|simp[WShape.has,WShape.arms,WShape.armsAll])
  (show(WTm.eq .res (.lit (.bool true))).value [] { args:=args,res:=some (.bool true),after:=args }=some (.bool (true==true))from w_eq_bool (w_res rfl) w_lit) rfl
theorem qg{l:OpenLaw}{n:Nat}{q:GC}{loose:List Str}{XP:(Str->Option G0)->Heap->Prop}{YP:Hd->Heap->Prop}{d:DefRec}
 (hn:l.most=some n) (hdf:d.params.defaults=[])
 (call:∀(w:Hd) (s₀ s₁:G3) (mg mb:Str->Option G0) (fa:Addr) (o:Obj) (pm cd doc:G0) (a:Addr) (vs:List G0) (ns:List Int),
  Ground q loose [] XP w s₀ mg mb s₁.heap->YP w s₁.heap->
  s₁.heap.get? fa=some o->o.data=.func (docDef d.name d.params d.body d.scope pm cd doc)->s₁.heap.CodeRec cd d.name->mg d.name=some (.ref fa)->
  s₁.heap.get? a=some { cls:=.type "list",data:=.seq vs.toArray }->HN vs ns->ns.length<=n->s₁.gens=#[]->
  codeAny (GD l.prog w) callerA (.call (.ref fa) ⟨[.ref a],[]⟩) (fun r s'=>r=.ok (.ret (.bool true))/\OldK s₁.heap s'.heap/\s'.os=s₁.os/\AllBare s'.gens) s₁) :
 WalkO q loose XP YP l.row.toRowW d [] (fun f vs=>PySem.call f vs):=by
 intro w s₀ s₁ mg mb G Y fa o pm cd doc dV kV ho hd hcd hD hmg hg args vals as hpre hlay hrd hwl hlo
 obtain rfl:dV=.none:=Dflts.none hD hdf
 obtain rfl:kV=.none:=Dflts.noKw hD
 obtain⟨a,vs,ns,rfl,rfl,hobj,hints,hlen⟩:=vm hn hpre hwl
 refine enter_call (codeAny_mono (call w s₀ s₁ mg mb fa o pm cd doc a vs ns G Y ho (fd_plain hd) hcd hmg hobj hints hlen hg) fun r s' hq=>?_)
 obtain⟨rfl,h2,h3,h4⟩:=hq
 exact⟨.inl ⟨.bool true,.bool true,[],rfl,fun _=>rfl,.bool true,vp l _,fun _=>⟨List.Pairwise.nil,fun _ hm=>(nomatch hm)⟩⟩,h2,h3,h4⟩
section
variable{prog:GC}{w:Hd}{A:He}{E:G0->G3->Prop}{s:G3}{K:Frag}
end
end Att
namespace L2
open PySem PySem.Spec PyProof.Rows
theorem mW:∀{vs:List G0} {ns:List Int},HN vs ns->Vals (ns.map V.int) vs
 |_,_,.nil=>.nil
 |_,_,.cons n t h=>.cons ⟨t,rfl⟩ (mW h)
def BO(H:Hp):Prop:=∀b,H b=none\/∃o xs,H b=some (.frz o (.lst xs))
theorem wY{P:GC}{w:Hd}{K:cc}{mg mb:Str->Option G0}{CX:CXT}{k:Nat}{fa a:Addr}{fd:IC}{x:Str}{sp:Sp}{s₁:G3}{vs:List G0}{ns:List Int}
 (KX:K.In s₁.heap) (hns:s₁.heap.Ns Hb mg) (hb:s₁.heap.Ns builtinsNs mb) (hbb:∀x:Str,x≠"__name__"->mb x=Hj x) (hlim:s₁.heap.NoLimit) (hg:s₁.gens=#[])
 (ha:s₁.heap.get? a=some { cls:=.type "list",data:=.seq vs.toArray }) (hi:HN vs ns) (hl:ns.length<=Gp) (hr:Room k callerA)
 (F:∀base:Heap,K.In base->base.Ns Hb mg->FnOk P w K mg base CX k fa fd [x] sp) (hbind:∀(s:G3) (u:G0),BindsTo s fd ⟨[u],[]⟩ [(x,u)])
 (hsp:∀H:Hp,BO H->SqL K H a (ns.map V.int)->sp [.ref a] H (fun v _=>v=.bl true) fun _ _ _=>False)
 (hCX:∀H e s',CX [] H s₁ (fun _ _ _=>False) e s'->False) :
 codeAny (GD P w) callerA (.call (.ref fa) ⟨[.ref a],[]⟩) (fun r s'=>r=.ok (.ret (.bool true))/\OldK s₁.heap s'.heap/\s'.os=s₁.os/\AllBare s'.gens) s₁:=by
 have rv:=mW hi
 have lenV:=hi.length
 have core:∀H:Hp,BO H->SqL K H a (ns.map V.int)->HOk P w H s₁.heap->(∀b,H b≠none->b=a)->(H a≠none->K.lookup a=none)->
  codeAny (GD P w) callerA (.call (.ref fa) ⟨[.ref a],[]⟩) (fun r s'=>r=.ok (.ret (.bool true))/\OldK s₁.heap s'.heap/\s'.os=s₁.os/\AllBare s'.gens) s₁:=by
  intro H hO hS hok hA hK
  have base_of:∀{b:Addr} {o:Obj},s₁.heap.get? b=some o->H b=none->(pq s₁.heap H).get? b=some o:=fun e n=>yj e n
  have noA:∀{b:Addr} {o:Obj} {es:Array HL} {ep:Nat},s₁.heap.get? b=some o->o.data=.dict es ep->H b=none:=fun{b o es ep} e d=>by
   cases q:H b with
   |none=>rfl
   |some u=>
    have e':b=a:=hA b (by rw[q];simp)
    subst e'
    rw[ha]at e;cases e
    have d':Data.seq vs.toArray _=Data.dict es ep:=d
    cases d'
  have nsK:∀{b:Addr} {m:Str->Option G0},s₁.heap.Ns b m->(pq s₁.heap H).Ns b m:=fun{b m} zz73_0=>by obtain⟨o,es,ep,e,d,r⟩:=zz73_0;exact(⟨o,es,ep,base_of e (noA e d),d,r⟩)
  have hKb:K.In (pq s₁.heap H):=fun b o e=>base_of (KX b o e) (by
   cases q:H b with
   |none=>rfl
   |some u=>
    have e':b=a:=hA b (by rw[q];simp)
    subst e'
    rw[hK (by rw[q];simp)]at e;cases e)
  have hM:Mod K mg (pq s₁.heap H):=⟨hKb,nsK hns,⟨mb,nsK hb,hbb⟩,let⟨mc,h1,h2⟩:=hlim;⟨mc,nsK h1,h2⟩⟩
  have e0:Env0 P w K mg (pq s₁.heap H) callerA [] s₁ H:=⟨rfl,hM,fun b o e=>Av e,Nat.le_of_eq (vb _ _),trivial,fun b hb=>absurd (show b∈([]:List Addr)from hb) (by simp),hok,.of_eq hg⟩
  refine codeAny_mono ((F _ hKb (nsK hns)).run callerA [] s₁ H ⟨[.ref a],[]⟩ [.ref a] [.ref a] _ _ hr e0 (hbind s₁ (.ref a)) (.cons rfl .nil) (hsp H hO hS)) fun r s' h=>?_
  cases r with
  |error e=>exact(hCX H e s' h).elim
  |ok fl=>
   cases fl with
   |next=>exact Ij h
   |brk=>exact Ij h
   |cont=>exact Ij h
   |ret u=>
    obtain⟨v,H',os,bare,un,hok',r',q⟩:=h
    have q':v=.bl true:=q
    subst q'
    obtain rfl:u=Ib true:=r'
    refine⟨rfl,OldK.of_keep fun b o e=>?_,os,bare⟩
    cases q:H b with
    |none=>exact un.keep b o e q (by intro z;exact absurd (show b∈([]:List Addr)from z) (by simp)) (by simp)
    |some u=>
     rcases hO b with z|⟨ob,xs,z⟩
     ·rw[q]at z;cases z
     ·have z2:=un.frzs b ob _ z
      obtain⟨e1,_⟩:=hok b _ z
      obtain⟨e2,_⟩:=hok' b _ z2
      rw[e]at e1;cases e1
      exact e2
 cases hk:K.lookup a with
 |some o=>
  have e:=KX a o hk
  rw[ha]at e
  cases e
  refine core (fun _=>none) (fun _=>.inl rfl) (.inr ⟨_,vs.toArray,_,hk,rfl,rfl,rfl,by rw[Gz,lenV];exact hl,by simpa using rv⟩) (fun b u z=>by have z':(none:Option HO)=some u:=z;cases z') (fun b z=>absurd rfl z) fun z=>absurd rfl z
 |none=>
  refine core (fun b=>if b=a then some (.frz { cls:=.type "list",data:=.seq vs.toArray } (.lst (ns.map V.int)))else none) (fun b=>?_) (.inl (.inr ⟨{ cls:=.type "list",data:=.seq vs.toArray },if_pos rfl⟩)) (fun b u z=>?_) (fun b z=>?_) fun _=>hk
  ·by_cases hb:b=a
   ·exact .inr ⟨_,_,if_pos hb⟩
   ·exact .inl (if_neg hb)
  ·by_cases hb:b=a
   ·have z':=(if_pos hb).symm.trans z
    cases z'
    subst hb
    exact⟨ha,by rw[G7];exact hl,vs,_,rv,ha⟩
   ·have z':=(if_neg hb).symm.trans z
    cases z'
  ·by_cases hb:b=a
   ·exact hb
   ·exact absurd (if_neg hb) z
abbrev KOf{K:cc}{h:Heap}(_:K.In h):cc:=K
theorem zr{l:PySem.W.OpenLaw}{n k:Nat}{q:GC}{loose:List Str}{XP:(Str->Option G0)->Heap->Prop}{YP:Hd->Heap->Prop}{d:DefRec}{K:Gq->cc}{CX:Hd->CXT}{sp:Hd->Sp}{x:Str}
 (hn:l.most=some n) (hn2:n<=Gp) (hdf:d.params.defaults=[]) (hr:Room k callerA)
 (hY:∀(w:Hd) (h:Heap),YP w h->(K w.params).In h)
 (F:∀(w:Hd) (mg:Str->Option G0) (fa:Addr) (h:Heap),(K w.params).In h->h.Ns Hb mg->mg d.name=some (.ref fa)->
  ∃fd:IC,(∀(s:G3) (u:G0),BindsTo s fd ⟨[u],[]⟩ [(x,u)])/\
   ∀base:Heap,(K w.params).In base->base.Ns Hb mg->FnOk l.prog w (K w.params) mg base (CX w) k fa fd [x] (sp w))
 (hsp:∀(w:Hd) (H:Hp) (a:Addr) (ns:List Int),ns.length<=n->BO H->SqL (K w.params) H a (ns.map V.int)->sp w [.ref a] H (fun v _=>v=.bl true) fun _ _ _=>False)
 (hCX:∀(w:Hd) (H:Hp) (s:G3) (e:G0) (s':G3),CX w [] H s (fun _ _ _=>False) e s'->False) :
 PySem.W.WalkO q loose XP YP l.row.toRowW d [] (fun f vs=>PySem.call f vs):=by
 refine Att.qg hn hdf fun w s₀ s₁ mg mb fa o pm cd doc a vs ns G Y ho hd hcd hmg hobj hints hlen hg=>?_
 have KX:=hY w _ Y
 obtain⟨fd,hb,hF⟩:=F w mg fa _ KX G.T.g hmg
 exact wY KX G.T.g G.T.b G.T.builtins G.T.nolimit hg hobj hints (Gy hlen hn2) hr hF hb (fun H hO hS=>hsp w H a ns hlen hO hS) fun H e s'=>hCX w H s₁ e s'
def b7(s:Stmt):Arguments:=match s with
 |.FunctionDef _ a _ _ _ _ _ _ _ _=>a
 |_=>{ posonlyargs:=[],args:=[],vararg:=none,kwonlyargs:=[],kw_defaults:=[],kwarg:=none,defaults:=[] }
def bw(s:Stmt):List Stmt:=match s with
 |.FunctionDef _ _ b _ _ _ _ _ _ _=>b
 |_=>[]
def ao(s:Stmt):Jb:=match s with
 |.FunctionDef _ _ _ _ _ _ sc _ _ _=>sc
 |_=>{ kind:=.function,names:=[],isGenerator:=false,isCoroutine:=false }
abbrev CX0:CXT:=fun _ _ _ _ _ _=>False
abbrev E0:XK:=fun _ _ _=>False
theorem DF{X:Cx}:Passes CX0 X E0:=fun _ _ _ _ _ _ _ h=>h.elim
structure Fun(K:cc)(x qual:Str)(st:Stmt)(f:Addr)(fd:IC):Prop where
 ex:∃(oc:G0) (od:Option Addr) (kV doc pm:G0) (an:Option Addr) (cdv ct:G0) (osl:Array (Option G0)),
  fd=Ie x qual (b7 st) (bw st) (ao st) .none kV doc pm an cdv ct/\K.lookup f=some ⟨oc,od,.func fd,osl⟩/\PySem.W.codeIn K cdv qual=true
 kp:ID K (.ref f)=true
section
variable{P:GC}{w:Hd}{K:cc}{mg:Str->Option G0}{base:Heap}
theorem Fun.ok{x qual:Str}{st:Stmt}{f:Addr}{fd:IC}{N ps:List Str}{k:Nat}{sp:Sp}(F:Fun K x qual st f fd)(S:FnScope N ps (ao st))(len:∀vs H Q E,sp vs H Q E->vs.length=ps.length)
 (hbody:∀(cdv:G0) (A:He) (outer:List Env) (s:G3) (H:Hp) (vs:List V) (Q:VK) (E:XK),Room k (A.deeper (envOfC qual (ao st) s.heap.objs.size f cdv))->sp vs H Q E->
  ∃t,PSs (bI CX0 P w K mg base N qual (ao st) f cdv A outer s H E).nox (bw st) t/\t { nx:=fun _ H'=>Q .non H',rt:=Q } (start N vs) H):FnOk P w K mg base CX0 (k+1) f fd ps sp:=by
 obtain⟨oc,od,kV,doc,pm,an,cdv,ct,osl,rfl,lk,hcd⟩:=F.ex
 refine Bu lk hcd S len fun A outer s H vs Q E hr hsp=>?_
 obtain⟨t,h,q⟩:=hbody cdv A outer s H vs Q E hr hsp
 exact⟨t,h.nox,q⟩
theorem Fun.binds{x qual:Str}{st:Stmt}{f:Addr}{fd:IC}{ps:List Str}(F:Fun K x qual st f fd) (h:∀(kV doc pm:G0) (an:Option Addr) (cdv ct:G0) (us:List G0),us.length=ps.length->bindArgs (Ie x qual (b7 st) (bw st) (ao st) .none kV doc pm an cdv ct) ⟨us,[]⟩=pure (ps.zip us)):Binds K fd ps []:=by obtain⟨oc,od,kV,doc,pm,an,cdv,ct,osl,rfl,lk,hcd⟩:=F.ex;exact .all (h kV doc pm an cdv ct)
theorem yi{x qual:Str}{st:Stmt}{f:Addr}{oc:G0}{od an:Option Addr}{osl:Array (Option G0)}{kV doc pm cdv ct:G0}(l:K.lookup f=some ⟨oc,od,.func (Ie x qual (b7 st) (bw st) (ao st) .none kV doc pm an cdv ct),osl⟩) (c:PySem.W.codeIn K cdv qual=true) (k:ID K (.ref f)=true):Fun K x qual st f (Ie x qual (b7 st) (bw st) (ao st) .none kV doc pm an cdv ct):=⟨⟨oc,od,kV,doc,pm,an,cdv,ct,osl,rfl,l,c⟩,k⟩
end
section
variable{X:Cx}
theorem pv(i:Nat){x:Str}{pos:Pos}(hN:X.N[i]?=some x:=by rfl)(hv:Vis X.env.scope x:=by first|exact Or.inl rfl|exact Or.inr (Or.inl rfl)|exact Or.inr (Or.inr rfl))(hd:(x==("__debug__":Str))=false:=by decide) (hcd:(x==("__classdict__":Str))=false:=by decide):PE X (.Name x pos) (yH i):=yn hN hv hd hcd
end
theorem DZ{A B:Prop}(h:A):if true=true then A else B:=by rw[if_pos rfl];exact h
theorem br{c A B:Prop}[Decidable c](h1:c->A)(h2:¬c->B):if c then A else B:=by
 by_cases h:c
 ·rw[if_pos h];exact h1 h
 ·rw[if_neg h];exact h2 h
end L2
namespace SD
theorem y6{α:Type}{l:List α}(h:l.length=1):∃a,l=[a]:=by
 cases l with
 |nil=>cases h
 |cons a l=>
  cases l with
  |nil=>exact⟨a,rfl⟩
  |cons b l=>cases h
theorem F5{α:Type}{n:Nat}{l:List α}(h:l.length=n+1):∃a r,l=a::r/\r.length=n:=by
 cases l with
 |nil=>cases h
 |cons a l=>exact⟨a,l,rfl,Nat.succ.inj h⟩
theorem CL{α:Type}{l:List α}(h:l.length=2):∃a b,l=[a,b]:=by obtain⟨a,r,rfl,h2⟩:=F5 h;obtain⟨b,rfl⟩:=y6 h2;exact⟨a,b,rfl⟩
open PySem PySem.Spec PyProof.Rows L2
inductive D where
 |non|bl (b:Bool)|int (i:Int)|str (x:Str)|ty (n:String)|ref (a:Addr)|rol (ds:List D)|tup (ds:List D)
def SqF(K:cc)(H:Hp)(a:Addr)(xs:List V):Prop:=
 (∃o,H a=some (.frz o (.lst xs)))\/
  ∃(o:Obj) (its:Array G0) (n:Nat),K.lookup a=some o/\o.cls=.type "list"/\o.dict=none/\o.data=.seq its n/\its.size<=Gp/\Vals xs its.toList
theorem SqF.sql{K:cc}{H:Hp}{a:Addr}{xs:List V}(h:SqF K H a xs):SqL K H a xs:=by
 rcases h with h|h
 ·exact .inl (.inr h)
 ·exact .inr h
mutual
def Rep(K:cc)(H:Hp):D->V->Prop
 |.non,v=>v=.non
 |.bl b,v=>v=.bl b
 |.int i,v=>v=.int i
 |.str x,v=>v=.str x
 |.ty n,v=>v=.ty n
 |.ref a,v=>v=.ref a
 |.rol ds,v=>∃a xs,v=.ref a/\SqF K H a xs/\aJ K H ds xs
 |.tup ds,v=>∃a xs,v=.ref a/\SqT K H a xs/\aJ K H ds xs
def aJ(K:cc)(H:Hp):List D->List V->Prop
 |[],xs=>xs=[]
 |d::ds,xs=>∃x r,xs=x::r/\Rep K H d x/\aJ K H ds r
end
structure Grow(K:cc)(H H':Hp):Prop where
 t:∀a xs,SqT K H a xs->SqT K H' a xs
 f:∀a xs,SqF K H a xs->SqF K H' a xs
theorem Grow.refl{K:cc}{H:Hp}:Grow K H H:=⟨fun _ _ h=>h,fun _ _ h=>h⟩
theorem Grow.trans{K:cc}{H H1 H2:Hp}(a:Grow K H H1)(b:Grow K H1 H2):Grow K H H2:=⟨fun x y h=>b.t x y (a.t x y h),fun x y h=>b.f x y (a.f x y h)⟩
theorem Grow.put{K:cc}{H:Hp}{p:Addr}{o:HO}(h1:∀xs,H p≠some (.tup xs))(h2:∀u xs,H p≠some (.frz u xs)):Grow K H (upd H p o):=by
 refine⟨fun a xs h=>?_,fun a xs h=>?_⟩
 ·rcases h with(h|⟨u,h⟩)|h
  ·exact .inl (.inl (by rw[aQ (by intro e;subst e;exact h1 _ h)];exact h))
  ·exact .inl (.inr ⟨u,by rw[aQ (by intro e;subst e;exact h2 _ _ h)];exact h⟩)
  ·exact .inr h
 ·rcases h with⟨u,h⟩|h
  ·exact .inl ⟨u,by rw[aQ (by intro e;subst e;exact h2 _ _ h)];exact h⟩
  ·exact .inr h
theorem Grow.new{K:cc}{H:Hp}{p:Addr}{o:HO}(h:H p=none):Grow K H (upd H p o):=.put (fun xs e=>by rw[h]at e;cases e) (fun u xs e=>by rw[h]at e;cases e)
theorem Grow.lst{K:cc}{H:Hp}{p:Addr}{o:HO}{xs:List V}(h:H p=some (.lst xs)):Grow K H (upd H p o):=.put (fun ys e=>by rw[h]at e;cases e) (fun u ys e=>by rw[h]at e;cases e)
mutual
theorem Rep.mono{K:cc}{H H':Hp}(g:Grow K H H'):∀{d:D} {v:V},Rep K H d v->Rep K H' d v
 |.non,_,h=>h
 |.bl _,_,h=>h
 |.int _,_,h=>h
 |.str _,_,h=>h
 |.ty _,_,h=>h
 |.ref _,_,h=>h
 |.rol ds,_,h=>by
  rw[Rep]at h ⊢
  obtain⟨a,xs,e,h1,h2⟩:=h
  exact⟨a,xs,e,g.f _ _ h1,aJ.mono g h2⟩
 |.tup ds,_,h=>by
  rw[Rep]at h ⊢
  obtain⟨a,xs,e,h1,h2⟩:=h
  exact⟨a,xs,e,g.t _ _ h1,aJ.mono g h2⟩
theorem aJ.mono{K:cc}{H H':Hp}(g:Grow K H H'):∀{ds:List D} {xs:List V},aJ K H ds xs->aJ K H' ds xs
 |[],_,h=>h
 |d::ds,_,h=>by
  rw[aJ]at h ⊢
  obtain⟨x,r,e,h1,h2⟩:=h
  exact⟨x,r,e,Rep.mono g h1,aJ.mono g h2⟩
end
section
variable{K:cc}{H H':Hp}
theorem aJ.nil:aJ K H [] []:=by rw[aJ]
theorem aJ.cons{d:D}{ds:List D}{x:V}{r:List V}(a:Rep K H d x)(b:aJ K H ds r):aJ K H (d::ds) (x::r):=by rw[aJ];exact⟨x,r,rfl,a,b⟩
theorem aJ.length:∀{ds:List D} {xs:List V},aJ K H ds xs->ds.length=xs.length
 |[],xs,h=>by rw[aJ]at h;subst h;rfl
 |d::ds,xs,h=>by
  rw[aJ]at h
  obtain⟨x,r,rfl,_,h2⟩:=h
  simp[aJ.length h2]
theorem aJ.get:∀{ds:List D} {xs:List V} {i:Nat} {d:D},aJ K H ds xs->ds[i]?=some d->∃x,xs[i]?=some x/\Rep K H d x
 |[],_,_,_,_,e=>by simp at e
 |_::_,xs,0,_,h,e=>by
  rw[aJ]at h
  obtain⟨x,r,rfl,h1,_⟩:=h
  simp at e;subst e
  exact⟨x,rfl,h1⟩
 |_::ds,xs,i+1,d,h,e=>by
  rw[aJ]at h
  obtain⟨x,r,rfl,_,h2⟩:=h
  simpa using aJ.get (i:=i) (d:=d) h2 (by simpa using e)
theorem aJ.set{d:D}{x:V}(a:Rep K H d x):∀{ds:List D} {xs:List V} (i:Nat),aJ K H ds xs->aJ K H (ds.set i d) (xs.set i x)
 |[],_,_,h=>by rw[aJ]at h;subst h;simp[aJ.nil]
 |_::_,_,0,h=>by
  rw[aJ]at h
  obtain⟨y,r,rfl,_,h2⟩:=h
  exact .cons a h2
 |_::ds,_,i+1,h=>by
  rw[aJ]at h
  obtain⟨y,r,rfl,h1,h2⟩:=h
  exact .cons h1 (aJ.set a i h2)
theorem aJ.append:∀{ds es:List D} {xs ys:List V},aJ K H ds xs->aJ K H es ys->aJ K H (ds++es) (xs++ys)
 |[],_,_,_,h,k=>by rw[aJ]at h;subst h;exact k
 |_::ds,_,_,_,h,k=>by
  rw[aJ]at h
  obtain⟨y,r,rfl,h1,h2⟩:=h
  exact .cons h1 (aJ.append h2 k)
theorem aJ.of_get:∀{ds:List D} {xs:List V},ds.length=xs.length->(∀(i:Nat) d x,ds[i]?=some d->xs[i]?=some x->Rep K H d x)->aJ K H ds xs
 |[],[],_,_=>.nil
 |[],_::_,h,_=>by simp at h
 |_::_,[],h,_=>by simp at h
 |d::ds,x::xs,h,k=>.cons (k 0 d x rfl rfl) (aJ.of_get (by simpa using h) fun i d x a b=>k (i+1) d x (by simpa using a) (by simpa using b))
theorem aJ.take{ds:List D}{xs:List V}(n:Nat)(h:aJ K H ds xs):aJ K H (ds.take n) (xs.take n):=by
 refine .of_get (by simp[h.length]) fun i d x a b=>?_
 have hi:i<n:=by
  rw[List.getElem?_take]at a;split at a
  ·assumption
  ·cases a
 rw[List.getElem?_take_of_lt hi]at a b;obtain⟨y,e,r⟩:=h.get a;rw[e]at b;cases b;exact r
theorem aJ.drop{ds:List D}{xs:List V}(n:Nat)(h:aJ K H ds xs):aJ K H (ds.drop n) (xs.drop n):=by refine .of_get (by simp[h.length]) fun i d x a b=>?_;rw[List.getElem?_drop]at a b;obtain⟨y,e,r⟩:=h.get a;rw[e]at b;cases b;exact r
theorem mU:∀(ns:List Int),aJ K H (ns.map D.int) (ns.map V.int)
 |[]=>.nil
 |n::ns=>.cons (by rw[Rep]) (mU ns)
end
def FD(a C:Addr):Heap->Prop:=fun h=>∃o,h.get? a=some o/\o.cls=.ref C
inductive MO where
 |lst (ds:List D)|err (C:Addr)
 |dct (n:Nat) (P:List Int->Bool)
 |gen (A:cc->Hp->Addr->Prop)
abbrev MH:=Addr->Option MO
def oo(K:cc)(H:Hp)(a:Addr):MO->Prop
 |.lst ds=>∃xs,H a=some (.lst xs)/\aJ K H ds xs
 |.err C=>H a=some (.ext (FD a C))
 |.dct n P=>∃kvs:List (List Key×V),H a=some (.dT kvs)/\kvs.length<=n/\∀k:List Int,(kvs.any fun kv=>decide (kv.1=k.map Sum.inl))=P k
 |.gen A=>A K H a/\H a≠none/\∀H',Grow K H H'->H' a=H a->A K H' a
def Abs(K:cc)(H:Hp)(M:MH):Prop:=∀a o,M a=some o->oo K H a o
def au(M:MH)(a:Addr)(o:MO):MH:=fun b=>if b=a then some o else M b
theorem ag{M:MH}{a:Addr}{o:MO}:au M a o a=some o:=by unfold au;rw[if_pos rfl]
theorem aq{M:MH}{a b:Addr}{o:MO}(h:b≠a):au M a o b=M b:=by unfold au;rw[if_neg h]
theorem cP{M:MH}{a:Addr}{o u:MO}:au (au M a o) a u=au M a u:=by funext b;unfold au;split<;>rfl
section
variable{K:cc}{H H':Hp}{M:MH}
theorem oo.some{a:Addr}{o:MO}(h:oo K H a o):H a≠none:=by
 cases o with
 |lst ds=>
  obtain⟨xs,h1,_⟩:=h
  rw[h1];simp
 |err C=>rw[show H a=_ from h];simp
 |dct n P=>
  obtain⟨kvs,h1,_⟩:=h
  rw[h1];simp
 |gen A=>exact h.2.1
theorem Abs.fresh(h:Abs K H M){p:Addr}(hp:H p=none):M p=none:=by
 cases e:M p with
 |none=>rfl
 |some o=>exact absurd hp (h p o e).some
theorem oo.gb{a:Addr}{o:MO}(g:Grow K H H')(e:H' a=H a)(h:oo K H a o):oo K H' a o:=by
 cases o with
 |lst ds=>
  obtain⟨xs,h1,h2⟩:=h
  exact⟨xs,e.trans h1,h2.mono g⟩
 |err C=>exact e.trans h
 |dct n P=>
  obtain⟨kvs,h1,h2⟩:=h
  exact⟨kvs,e.trans h1,h2⟩
 |gen A=>exact⟨h.2.2 H' g e,fun z=>h.2.1 (by rw[<-e];exact z),fun H2 g2 e2=>h.2.2 H2 (g.trans g2) (e2.trans e)⟩
theorem Abs.new{p:Addr}{o:HO}(h:Abs K H M)(hp:H p=none):Abs K (upd H p o) M:=fun a u e=>by
 have ne:a≠p:=fun z=>by subst z;rw[h.fresh hp]at e;cases e
 exact(h a u e).gb (.new hp) (aQ ne)
theorem Abs.jk{p:Addr}{xs:List V}{ds:List D}(h:Abs K H M)(hp:H p=none)(r:aJ K H ds xs):Abs K (upd H p (.lst xs)) (au M p (.lst ds)):=fun a u e=>by
 by_cases ne:a=p
 ·subst ne;rw[ag]at e;cases e;exact⟨xs,aW,r.mono (.new hp)⟩
 ·rw[aq ne]at e;exact(h a u e).gb (.new hp) (aQ ne)
theorem Abs.BA{p:Addr}{xs ys:List V}{ds:List D}(h:Abs K H M)(hp:H p=some (.lst xs))(r:aJ K H ds ys):Abs K (upd H p (.lst ys)) (au M p (.lst ds)):=fun a u e=>by
 by_cases ne:a=p
 ·subst ne;rw[ag]at e;cases e;exact⟨ys,aW,r.mono (.lst hp)⟩
 ·rw[aq ne]at e;exact(h a u e).gb (.lst hp) (aQ ne)
theorem Abs.sub{M':MH}(h:Abs K H M)(s:∀a o,M' a=some o->M a=some o):Abs K H M':=fun a o e=>h a o (s a o e)
end
abbrev DS:=List (Option D)
structure Slots(K:cc)(H:Hp)(δ:DS)(σ:L2.St):Prop where
 len:δ.length=σ.length
 at':∀(i:Nat) d,δ[i]?=some (some d)->∃v,σ[i]?=some (some v)/\Rep K H d v
section
variable{K:cc}{H H':Hp}{δ:DS}{σ:L2.St}
theorem Slots.mono(g:Grow K H H')(h:Slots K H δ σ):Slots K H' δ σ:=⟨h.len,fun i d e=>let⟨v,a,b⟩:=h.at' i d e;⟨v,a,b.mono g⟩⟩
theorem Slots.set{d:D}{v:V}(r:Rep K H d v)(i:Nat)(h:Slots K H δ σ):Slots K H (δ.set i (some d)) (σ.set i (some v)):=by
 refine⟨by simp[h.len],fun j e q=>?_⟩;rw[List.getElem?_set]at q;by_cases hij:i=j
 ·subst hij;rw[if_pos rfl]at q;by_cases hl:i<δ.length
  ·rw[if_pos hl]at q;cases q;exact⟨v,by rw[List.getElem?_set,if_pos rfl,if_pos (by rw[<-h.len];exact hl)],r⟩
  ·rw[if_neg hl]at q;cases q
 ·rw[if_neg hij]at q;obtain⟨v',e1,e2⟩:=h.at' j e q;exact⟨v',by rw[List.getElem?_set,if_neg hij];exact e1,e2⟩
theorem jO{N:List Str}{ds:List D}{vs:List V}(r:aJ K H ds vs):Slots K H (ds.map some++J0 (N.length-ds.length) none) (L2.start N vs):=by
 have hl:=r.length;refine⟨by unfold L2.start;simp[hl],fun i d e=>?_⟩;unfold L2.start;by_cases hi:i<ds.length
 ·rw[Hq (by simpa using hi),Gs]at e;cases q:ds[i]? with
  |none=>rw[q]at e;cases e
  |some d'=>
   rw[q]at e;cases e
   obtain⟨x,e1,e2⟩:=r.get q
   refine⟨x,?_,e2⟩
   rw[Hq (by simp;omega),Gs,e1];rfl
 ·rw[Hm (by simpa using hi),List.getElem?_replicate]at e;split at e<;>cases e
end
abbrev DK:=D->MH->Prop
abbrev TD:=DS->MH->DK->Prop
abbrev TTD:=DS->MH->(Bool->MH->Prop)->Prop
abbrev TAD:=DS->MH->(List D->MH->Prop)->Prop
structure EndsD where
 nx:DS->MH->Prop
 rt:DK
 bk:DS->MH->Prop:=fun _ _=>False
 ct:DS->MH->Prop:=fun _ _=>False
abbrev TSD:=EndsD->DS->MH->Prop
section
variable(K:cc)
def Fin(H:Hp)(R:DK)(Q:VK):Prop:=∀d M' v H',Grow K H H'->Rep K H' d v->Abs K H' M'->R d M'->Q v H'
def z5(H:Hp)(R:Bool->MH->Prop)(Q:Bool->Hp->Prop):Prop:=∀b M' H',Grow K H H'->Abs K H' M'->R b M'->Q b H'
def FinA(H:Hp)(R:List D->MH->Prop)(Q:List V->Hp->Prop):Prop:=∀ds M' vs H',Grow K H H'->aJ K H' ds vs->Abs K H' M'->R ds M'->Q vs H'
def lift(t:TD):TE:=fun σ H Q=>∃δ M R,Slots K H δ σ/\Abs K H M/\t δ M R/\Fin K H R Q
def liftT(t:TTD):TT:=fun σ H Q=>∃δ M R,Slots K H δ σ/\Abs K H M/\t δ M R/\z5 K H R Q
def A2(t:TAD):TA:=fun σ H Q=>∃δ M R,Slots K H δ σ/\Abs K H M/\t δ M R/\FinA K H R Q
structure EndsOk(H:Hp)(B:EndsD)(E:Ends):Prop where
 nx:∀δ M σ H',Grow K H H'->Slots K H' δ σ->Abs K H' M->B.nx δ M->E.nx σ H'
 rt:∀d M v H',Grow K H H'->Rep K H' d v->Abs K H' M->B.rt d M->E.rt v H'
 bk:∀δ M σ H',Grow K H H'->Slots K H' δ σ->Abs K H' M->B.bk δ M->E.bk σ H'
 ct:∀δ M σ H',Grow K H H'->Slots K H' δ σ->Abs K H' M->B.ct δ M->E.ct σ H'
def t9(t:TSD):TS:=fun E σ H=>∃δ M,Slots K H δ σ/\Abs K H M/\∃B,EndsOk K H B E/\t B δ M
end
def DE(X:Cx)(e:Expr)(t:TD):Prop:=PE X e (lift X.K t)
def DT(X:Cx)(e:Expr)(t:TTD):Prop:=PT X e (liftT X.K t)
def DW(X:Cx)(e:Expr)(t:TTD):Prop:=PW X e (liftT X.K t)
def DA(X:Cx)(es:List Expr)(t:TAD):Prop:=PA X es (A2 X.K t)
def DSt(X:Cx)(st:Stmt)(t:TSD):Prop:=PS X st (t9 X.K t)
def DSs(X:Cx)(st:List Stmt)(t:TSD):Prop:=PSs X st (t9 X.K t)
theorem bA{X:Cx}{e:Expr}{t t':TE}(h:PE X e t)(k:∀σ H Q,t' σ H Q->t σ H Q):PE X e t':=fun pins s σ H Q I q=>h pins s σ H Q I (k σ H Q q)
theorem k6{X:Cx}{e:Expr}{t t':TT}(h:PT X e t)(k:∀σ H Q,t' σ H Q->t σ H Q):PT X e t':=fun pins s σ H Q I q=>h pins s σ H Q I (k σ H Q q)
theorem yc{X:Cx}{e:Expr}{t t':TT}(h:PW X e t)(k:∀σ H Q,t' σ H Q->t σ H Q):PW X e t':=fun wh pins s σ H Q I q=>h wh pins s σ H Q I (k σ H Q q)
theorem ye{X:Cx}{e:List Expr}{t t':TA}(h:PA X e t)(k:∀σ H Q,t' σ H Q->t σ H Q):PA X e t':=fun pos pins s σ H Q I q=>h pos pins s σ H Q I (k σ H Q q)
theorem dg{X:Cx}{e:Stmt}{t t':TS}(h:PS X e t)(k:∀D σ H,t' D σ H->t D σ H):PS X e t':=fun pins s σ H D I q=>h pins s σ H D I (k D σ H q)
theorem pg{X:Cx}{e:List Stmt}{t t':TS}(h:PSs X e t)(k:∀D σ H,t' D σ H->t D σ H):PSs X e t':=fun pins s σ H D I q=>h pins s σ H D I (k D σ H q)
section
variable{K:cc}{H H1 H':Hp}
theorem Fin.go{R:DK}{Q:VK}(g:Grow K H H1)(h:Fin K H R Q):Fin K H1 R Q:=fun d M v H' g'=>h d M v H' (g.trans g')
theorem z5.go{R:Bool->MH->Prop}{Q:Bool->Hp->Prop}(g:Grow K H H1)(h:z5 K H R Q):z5 K H1 R Q:=fun b M H' g'=>h b M H' (g.trans g')
theorem EndsOk.go{B:EndsD}{E:Ends}(g:Grow K H H1)(h:EndsOk K H B E):EndsOk K H1 B E:=⟨fun d M v H' g'=>h.nx d M v H' (g.trans g'),fun d M v H' g'=>h.rt d M v H' (g.trans g'),fun d M v H' g'=>h.bk d M v H' (g.trans g'),fun d M v H' g'=>h.ct d M v H' (g.trans g')⟩
end
section
variable{X:Cx}
inductive tVarD(i:Nat)(δ:DS)(M:MH)(Q:DK):Prop
 |mk (d:D) (h:δ[i]?=some (some d)) (q:Q d M):tVarD i δ M Q
def tCD(d:D):TD:=fun _ M Q=>Q d M
theorem dv(i:Nat){x:Str}{pos:Pos}(hN:X.N[i]?=some x:=by rfl)(hv:Vis X.env.scope x:=by first|exact Or.inl rfl|exact Or.inr (Or.inl rfl)|exact Or.inr (Or.inr rfl))(hd:(x==("__debug__":Str))=false:=by decide)
 (hcd:(x==("__classdict__":Str))=false:=by decide):DE X (.Name x pos) (tVarD i):=
 bA (yn hN hv hd hcd) fun σ H Q z9=>by
  obtain⟨δ,M,R,hs,hM,⟨d,e,r⟩,fin⟩:=z9
  obtain⟨v,e1,e2⟩:=hs.at' i d e
  exact⟨v,e1,fin d M v H .refl e2 hM r⟩
theorem dc{e:Expr}{v:V}{d:D}(h:PE X e (tC v))(r:∀H,Rep X.K H d v):DE X e (tCD d):=bA h fun σ H Q zz1_0=>by obtain⟨δ,M,R,hs,hM,q,fin⟩:=zz1_0;exact(fin d M v H .refl (r H) hM q)
theorem af{i j pos}:DE X (.Constant (.int i) j pos) (tCD (.int i)):=dc CP fun _=>by rw[Rep]
theorem iJ{i j pos}:DE X (.Constant (.bool i) j pos) (tCD (.bl i)):=dc Ed fun _=>by rw[Rep]
theorem aU{j pos}:DE X (.Constant .none j pos) (tCD .non):=dc BN fun _=>by rw[Rep]
theorem aE{x j pos}:DE X (.Constant (.str x) j pos) (tCD (.str x)):=dc Dv fun _=>by rw[Rep]
theorem Er{x:Str}{n:String}{pos:Pos}(hg:Gl X x)(hm:X.mg x=none)(hv:Hj x=some (.type n))(hn:x≠"__name__":=by decide)(hd:(x==("__debug__":Str))=false:=by decide):DE X (.Name x pos) (tCD (.ty n)):=dc (zz (v:=.ty n) hg hm hv rfl hn hd) fun _=>by rw[Rep]
theorem gq{x:Str}{a:Addr}{pos:Pos}(hg:Gl X x)(hm:X.mg x=some (.ref a))(hd:(x==("__debug__":Str))=false:=by decide):DE X (.Name x pos) (tCD (.ref a)):=dc (t7 (v:=.ref a) hg hm rfl hd) fun _=>by rw[Rep]
end
abbrev R2D:=D->D->MH->DK->Prop
def jq(K:cc)(r:R2D):R2:=fun v u H Q=>∃x y M R,Rep K H x v/\Rep K H y u/\Abs K H M/\r x y M R/\Fin K H R Q
def OpD(X:Cx)(f:G0->G0->Sem G0)(r:R2D):Prop:=OpR X f (jq X.K r)
def tm(r:R2D)(ta tb:TD):TD:=fun δ M Q=>ta δ M fun x M1=>tb δ M1 fun y M2=>r x y M2 Q
theorem d7{X:Cx}{f:G0->G0->Sem G0}{r r':R2}(h:OpR X f r)(k:∀x y H Q,r' x y H Q->r x y H Q):OpR X f r':=fun pins s σ H x y v u Q I a b q=>h pins s σ H x y v u Q I a b (k _ _ _ _ q)
theorem j7{K:cc}{r:R2D}{ta tb:TD}{σ:L2.St}{H:Hp}{Q:VK}(h:lift K (tm r ta tb) σ H Q):tOp (jq K r) (lift K ta) (lift K tb) σ H Q:=by obtain⟨δ,M,R,hs,hM,q,fin⟩:=h;refine⟨δ,M,_,hs,hM,q,fun x M1 v H1 g1 r1 a1 q1=>?_⟩;exact⟨δ,M1,_,hs.mono g1,a1,q1,fun y M2 u H2 g2 r2 a2 q2=>⟨x,y,M2,R,r1.mono g2,r2,a2,q2,fin.go (g1.trans g2)⟩⟩
section
variable{X:Cx}{a b:Expr}{ta tb:TD}{pos:Pos}
theorem ar{op:Operator}{r:R2D}(ho:OpD X (Iu op) r)(ha:DE X a ta)(hb:DE X b tb):DE X (.BinOp a op b pos) (tm r ta tb):=bA (Ee ho ha hb) fun _ _ _ h=>j7 h
theorem bX{op:CmpOp}{r:R2D}(ho:OpD X (GF op) r)(ha:DE X a ta)(hb:DE X b tb)(hm:behindInMarks op b=false:=by exact xk _):DE X (.Compare a [op] [b] pos) (tm r ta tb):=bA (zw ho ha hb hm) fun _ _ _ h=>j7 h
inductive IsBl(x:D)(M:MH)(Q:Bool->MH->Prop):Prop
 |mk (c:Bool) (h:x=.bl c) (q:Q c M):IsBl x M Q
def tBD(t:TD):TTD:=fun δ M Q=>t δ M fun x M1=>IsBl x M1 Q
theorem jj{K:cc}{t:TD}{t':TE}(ht:∀σ H Q,lift K t σ H Q->t' σ H Q){σ:L2.St}{H:Hp}{Q:Bool->Hp->Prop}(h:liftT K (tBD t) σ H Q):yF t' σ H Q:=by obtain⟨δ,M,R,hs,hM,q,fin⟩:=h;refine ht _ _ _ ⟨δ,M,_,hs,hM,q,fun x M1 v H1 g1 r1 a1 zz2_0=>?_⟩;obtain⟨c,e,q1⟩:=zz2_0;subst e;rw[Rep]at r1;exact⟨c,r1,fin c M1 H1 g1 a1 q1⟩
theorem aA{op:CmpOp}{r:R2D}(ho:OpD X (GF op) r)(ha:DE X a ta)(hb:DE X b tb)(hm:behindInMarks op b=false:=by exact xk _):DT X (.Compare a [op] [b] pos) (tBD (tm r ta tb)):=k6 (Ax ho ha hb hm) fun _ _ _ h=>jj (fun _ _ _ h=>j7 h) h
theorem cJ{e:Expr}{t:TD}(h:DE X e t)(he:∀whole,isTrue e X.env whole=(do let v <-whole;standAt e.pos;holding [v] (truthy v)):=by intro _;rfl):DT X e (tBD t):=
 k6 (BK h he) fun _ _ _ h=>jj (t':=lift X.K t) (fun _ _ _ h=>h) h
end
section
variable{X:Cx}{a b c:Expr}{ta tb:TD}{tA tB':TTD}{rest:List Expr}{pos:Pos}
def Bw(t u:TTD):TTD:=fun δ M Q=>t δ M fun c M1=>if c=true then u δ M1 Q else Q false M1
def Fl(t u:TTD):TTD:=fun δ M Q=>t δ M fun c M1=>if c=true then Q true M1 else u δ M1 Q
def bQ(t:TTD):TTD:=fun δ M Q=>t δ M fun c M1=>Q (!c) M1
theorem c9(ha:DT X a tA):DW X (.BoolOp .And [a] pos) tA:=zQ ha
theorem c6(ha:DT X a tA):DW X (.BoolOp .Or [a] pos) tA:=BG ha
theorem dq(ha:DT X a tA)(hb:DW X (.BoolOp .And (b::rest) pos) tB'):DW X (.BoolOp .And (a::b::rest) pos) (Bw tA tB'):=
 yc (CI ha hb) fun σ H Q zz3_0=>by obtain⟨δ,M,R,hs,hM,q,fin⟩:=zz3_0;exact(⟨δ,M,_,hs,hM,q,fun c M1 H1 g1 a1 q1=>by
  cases c with
  |true=>rw[if_pos rfl]at q1 ⊢;exact⟨δ,M1,R,hs.mono g1,a1,q1,fin.go g1⟩
  |false=>rw[if_neg G5]at q1 ⊢;exact fin _ _ _ g1 a1 q1⟩)
theorem cV(ha:DT X a tA)(hb:DW X (.BoolOp .Or (b::rest) pos) tB'):DW X (.BoolOp .Or (a::b::rest) pos) (Fl tA tB'):=
 yc (D3 ha hb) fun σ H Q zz4_0=>by obtain⟨δ,M,R,hs,hM,q,fin⟩:=zz4_0;exact(⟨δ,M,_,hs,hM,q,fun c M1 H1 g1 a1 q1=>by
  cases c with
  |true=>rw[if_pos rfl]at q1 ⊢;exact fin _ _ _ g1 a1 q1
  |false=>rw[if_neg G5]at q1 ⊢;exact⟨δ,M1,R,hs.mono g1,a1,q1,fin.go g1⟩⟩)
theorem dF{e:Expr}{t:TTD}(h:DW X e t):DT X e t:=PW.pt h
theorem fH(ha:DT X a tA):DT X (.UnaryOp .Not a pos) (bQ tA):=k6 (BW ha) fun σ H Q zz5_0=>by obtain⟨δ,M,R,hs,hM,q,fin⟩:=zz5_0;exact(⟨δ,M,_,hs,hM,q,fun c M1 H1 g1 a1 q1=>fin _ _ _ g1 a1 q1⟩)
def xO(ta tb:TD):TD:=fun δ M Q=>ta δ M fun x M1=>IsBl x M1 fun c M1=>if c=true then tb δ M1 Q else Q (.bl false) M1
def Bs(ta tb:TD):TD:=fun δ M Q=>ta δ M fun x M1=>IsBl x M1 fun c M1=>if c=true then Q (.bl true) M1 else tb δ M1 Q
theorem iA{op}{t:TD}(h:DE X a t):DE X (.BoolOp op [a] pos) t:=BS h
theorem lG(ha:DE X a ta)(hb:DE X (.BoolOp .And (b::rest) pos) tb):DE X (.BoolOp .And (a::b::rest) pos) (xO ta tb):=
 bA (Co ha hb) fun σ H Q ⟨δ,M,R,hs,hM,q,fin⟩=>⟨δ,M,_,hs,hM,q,fun x M1 v H1 g1 r1 a1 z9=>by
  obtain⟨c,e,q1⟩:=z9
  subst e
  rw[Rep]at r1
  refine⟨c,r1,?_⟩
  cases c with
  |true=>rw[if_pos rfl]at q1 ⊢;exact⟨δ,M1,R,hs.mono g1,a1,q1,fin.go g1⟩
  |false=>rw[if_neg G5]at q1 ⊢;exact fin _ _ _ _ g1 (by rw[Rep]) a1 q1⟩
theorem tE(ha:DE X a ta)(hb:DE X (.BoolOp .Or (b::rest) pos) tb):DE X (.BoolOp .Or (a::b::rest) pos) (Bs ta tb):=
 bA (DJ ha hb) fun σ H Q ⟨δ,M,R,hs,hM,q,fin⟩=>⟨δ,M,_,hs,hM,q,fun x M1 v H1 g1 r1 a1 z9=>by
  obtain⟨c,e,q1⟩:=z9
  subst e
  rw[Rep]at r1
  refine⟨c,r1,?_⟩
  cases c with
  |true=>rw[if_pos rfl]at q1 ⊢;exact fin _ _ _ _ g1 (by rw[Rep]) a1 q1
  |false=>rw[if_neg G5]at q1 ⊢;exact⟨δ,M1,R,hs.mono g1,a1,q1,fin.go g1⟩⟩
def FJ(t:TTD)(ta tb:TD):TD:=fun δ M Q=>t δ M fun c M1=>if c=true then ta δ M1 Q else tb δ M1 Q
theorem ir(hc:DT X c tA)(ha:DE X a ta)(hb:DE X b tb):DE X (.IfExp c a b pos) (FJ tA ta tb):=
 bA (wW hc ha hb) fun σ H Q zz7_0=>by obtain⟨δ,M,R,hs,hM,q,fin⟩:=zz7_0;exact(⟨δ,M,_,hs,hM,q,fun c M1 H1 g1 a1 q1=>by
  cases c with
  |true=>rw[if_pos rfl]at q1 ⊢;exact⟨δ,M1,R,hs.mono g1,a1,q1,fin.go g1⟩
  |false=>rw[if_neg G5]at q1 ⊢;exact⟨δ,M1,R,hs.mono g1,a1,q1,fin.go g1⟩⟩)
end
def Gn(r:D->MH->DK->Prop)(ta:TD):TD:=fun δ M Q=>ta δ M fun x M1=>r x M1 Q
def Bx(K:cc)(r:D->MH->DK->Prop):V->Hp->VK->Prop:=fun v H Q=>∃x M R,Rep K H x v/\Abs K H M/\r x M R/\Fin K H R Q
theorem ql{X:Cx}{a:Expr}{ta:TD}{pos:Pos}{op:UnaryOp}{r:D->MH->DK->Prop}(ho:UnR X (unaryOp op) (Bx X.K r))(ha:DE X a ta):DE X (.UnaryOp op a pos) (Gn r ta):=bA (En ho ha) fun σ H Q zz8_0=>by obtain⟨δ,M,R,hs,hM,q,fin⟩:=zz8_0;exact(⟨δ,M,_,hs,hM,q,fun x M1 v H1 g1 r1 a1 q1=>⟨x,M1,R,r1,a1,q1,fin.go g1⟩⟩)
def DQ:TAD:=fun _ M Q=>Q [] M
def Du(ta:TD)(tr:TAD):TAD:=fun δ M Q=>ta δ M fun x M1=>tr δ M1 fun xs M2=>Q (x::xs) M2
section
variable{X:Cx}{e:Expr}{es:List Expr}{te:TD}{t:TAD}{pos:Pos}
theorem ae:DA X [] DQ:=ye xB fun σ H Q zz9_0=>by obtain⟨δ,M,R,hs,hM,q,fin⟩:=zz9_0;exact(fin _ _ _ _ .refl .nil hM q)
theorem aa(ha:DE X e te)(hr:DA X es t)(hs:Gx (e::es) X.env=(false,eval e X.env)::Gx es X.env:=by rfl):DA X (e::es) (Du te t):=
 ye (oZ ha hr hs) fun σ H Q zz10_0=>by obtain⟨δ,M,R,hs,hM,q,fin⟩:=zz10_0;exact(⟨δ,M,_,hs,hM,q,fun x M1 v H1 g1 r1 a1 q1=>
  ⟨δ,M1,_,hs.mono g1,a1,q1,fun xs M2 vs H2 g2 r2 a2 q2=>fin _ _ _ _ (g1.trans g2) (.cons (r1.mono g2) r2) a2 q2⟩⟩)
def D4(t:TAD):TD:=fun δ M Q=>t δ M fun xs M1=>xs.length<=Gp/\Q (.tup xs) M1
def AZ(t:TAD):TD:=fun δ M Q=>t δ M fun xs M1=>xs.length<=Gp/\∀p,M1 p=none->Q (.ref p) (au M1 p (.lst xs))
theorem aH{x1}(h:DA X es t):DE X (.Tuple es x1 pos) (D4 t):=bA (C6 h) fun σ H Q zz11_0=>by obtain⟨δ,M,R,hs,hM,q,fin⟩:=zz11_0;exact(⟨δ,M,_,hs,hM,q,fun xs M1 vs H1 g1 r1 a1 zz12_0=>by obtain⟨z,q1⟩:=zz12_0;exact(⟨by rw[<-r1.length];exact z,fun p hp=>fin _ _ _ _ (g1.trans (.new hp)) (by rw[Rep];exact⟨p,vs,rfl,SqT.of aW,r1.mono (.new hp)⟩) (a1.new hp) q1⟩)⟩)
theorem aS(h:DA X es t):DE X (.List es pos) (AZ t):=bA (By h) fun σ H Q zz13_0=>by obtain⟨δ,M,R,hs,hM,q,fin⟩:=zz13_0;exact(⟨δ,M,_,hs,hM,q,fun xs M1 vs H1 g1 r1 a1 zz14_0=>by obtain⟨z,q1⟩:=zz14_0;exact(⟨by rw[<-r1.length];exact z,fun p hp=>fin _ _ _ _ (g1.trans (.new hp)) (by rw[Rep]) (a1.jk hp r1) (q1 p (a1.fresh hp))⟩)⟩)
end
def IxD(X:Cx)(r:R2D):Prop:=IxR X (jq X.K r)
theorem wX{X:Cx}{r r':R2}(h:IxR X r)(k:∀x y H Q,r' x y H Q->r x y H Q):IxR X r':=fun e1 e2 pins s σ H x y v u Q I a b q=>h e1 e2 pins s σ H x y v u Q I a b (k _ _ _ _ q)
theorem yO{X:Cx}{a b:Expr}{ta tb:TD}{pos:Pos}{r:R2D}(hr:IxD X r)(ha:DE X a ta)(hb:DE X b tb)(hs:kl b):DE X (.Subscript a b pos) (tm r ta tb):=bA (EH hr ha hb hs) fun _ _ _ h=>j7 h
inductive AtD(ds:List D)(i:Int)(M:MH)(Q:DK):Prop
 |mk (d:D) (h:atI ds i=some d) (q:Q d M):AtD ds i M Q
inductive AtM(a:Addr)(i:Int)(M:MH)(Q:DK):Prop
 |mk (ds:List D) (d:D) (h:M a=some (.lst ds)) (q:atI ds i=some d/\Q d M):AtM a i M Q
def zo:R2D:=fun x y M Q=>match x,y with
 |.tup ds,.int i=>AtD ds i M Q
 |.rol ds,.int i=>AtD ds i M Q
 |.ref a,.int i=>AtM a i M Q
 |_,_=>False
theorem aJ.atI{K:cc}{H:Hp}{ds:List D}{xs:List V}{i:Int}{d:D}(h:aJ K H ds xs)(e:L2.atI ds i=some d):∃x,L2.atI xs i=some x/\Rep K H d x:=by
 unfold L2.atI at e ⊢;rw[<-h.length];cases q:ixN ds.length i with
 |none=>rw[q]at e;cases e
 |some j=>
  rw[q]at e
  exact h.get e
theorem nS{K:cc}{v u:V}{H:Hp}{Q:VK}(h:jq K zo v u H Q):rIx K v u H Q:=by
 obtain⟨x,y,M,R,r1,r2,a,q,fin⟩:=h;unfold zo at q;split at q
 ·obtain⟨d,e,q⟩:=q;obtain rfl:u=.int _:=r2;rw[Rep]at r1;obtain⟨p,xs,rfl,hq,rs⟩:=r1;obtain⟨x,e1,e2⟩:=rs.atI e;exact .inr (.inl ⟨p,xs,_,x,rfl,rfl,hq,e1,fin _ _ _ _ .refl e2 a q⟩)
 ·obtain⟨d,e,q⟩:=q;obtain rfl:u=.int _:=r2;rw[Rep]at r1;obtain⟨p,xs,rfl,hq,rs⟩:=r1;obtain⟨x,e1,e2⟩:=rs.atI e;exact .inl ⟨p,xs,_,x,rfl,rfl,hq.sql,e1,fin _ _ _ _ .refl e2 a q⟩
 ·obtain⟨ds,d,e0,e,q⟩:=q;obtain rfl:u=.int _:=r2;obtain rfl:v=.ref _:=r1;obtain⟨xs,hx,rs⟩:=a _ _ e0;obtain⟨x,e1,e2⟩:=rs.atI e;exact .inl ⟨_,xs,_,x,rfl,rfl,SqL.of hx,e1,fin _ _ _ _ .refl e2 a q⟩
 ·exact q.elim
theorem av{X:Cx}{a b:Expr}{ta tb:TD}{pos:Pos}(ha:DE X a ta)(hb:DE X b tb)(hs:kl b:=by exact fun _ _=>rfl):DE X (.Subscript a b pos) (tm zo ta tb):=yO (wX xW fun _ _ _ _ h=>nS h) ha hb hs
def Bd(n:Nat)(i:Int):Prop:=i.natAbs<2^n
instance(n:Nat)(i:Int):Decidable (Bd n i):=inferInstanceAs (Decidable (i.natAbs<2^n))
theorem Bd.mono{m n:Nat}{i:Int}(h:Bd m i)(l:m<=n):Bd n i:=G6 h (Nat.pow_le_pow_right (by decide) l)
theorem Bd.bits{n:Nat}{i:Int}(h:Bd n i):Builtin.Int.intBits i<=n:=by
 unfold Builtin.Int.intBits;split
 ·exact IU _
 ·rename_i hz;have h0:i.natAbs≠0:=fun e=>hz (by simpa using Int.natAbs_eq_zero.mp e);exact(Nat.log2_lt h0).mpr h
theorem Bd.log2{n:Nat}{i:Int}(h:Bd n i)(hn:0<n):i.natAbs.log2<n:=by
 by_cases h0:i.natAbs=0
 ·rw[h0];simpa using hn
 ·exact(Nat.log2_lt h0).mpr h
theorem Bd.mul{m n:Nat}{i j:Int}(a:Bd m i)(b:Bd n j):Bd (m+n) (i*j):=by unfold Bd at *;rw[Int.natAbs_mul,Nat.pow_add];exact Nat.mul_lt_mul'' a b
theorem Bd.add{n:Nat}{i j:Int}(a:Bd n i)(b:Bd n j):Bd (n+1) (i+j):=by unfold Bd at *;rw[Nat.pow_succ];have:=Int.natAbs_add_le i j;omega
theorem Bd.sub{n:Nat}{i j:Int}(a:Bd n i)(b:Bd n j):Bd (n+1) (i-j):=by unfold Bd at *;rw[Nat.pow_succ];have:=Int.natAbs_sub_le i j;omega
theorem Bd.neg{n:Nat}{i:Int}(a:Bd n i):Bd n (-i):=by unfold Bd at *;rw[Int.natAbs_neg];exact a
theorem Bd.of_le{n:Nat}{i j:Int}(a:Bd n i)(b:j.natAbs<=i.natAbs):Bd n j:=Nat.lt_of_le_of_lt b a
theorem cG{n:Nat}{i:Int}(h:i.natAbs<2^64)(l:64<=n:=by decide):Bd n i:=Bd.mono (m:=64) h l
theorem cQ{i j:Int}(a:Bd 1000000 i)(b:Bd 1000000 j):IntMulOk i j:=.of_bits (Gy a.bits (by decide)) (Gy b.bits (by decide))
theorem bN{i j:Int}(a:Bd 64 i):IntMulOk i j:=.of_left a.bits
theorem j8{i j:Int}(a:Bd 64 j):IntMulOk i j:=.of_right a.bits
def rI2(C:Int->Int->Prop)(g:Int->Int->D):R2D:=fun x y M Q=>match x,y with
 |.int i,.int j=>C i j/\Q (g i j) M
 |_,_=>False
section
variable{X:Cx}
theorem dR{f:G0->G0->Sem G0}{C:Int->Int->Prop}{g:Int->Int->V}{g':Int->Int->D}(h:OpR X f (rI C g))(e:∀i j H,Rep X.K H (g' i j) (g i j)):OpD X f (rI2 C g'):=
 d7 h fun v u H Q z9=>by
  obtain⟨x,y,M,R,r1,r2,a,q,fin⟩:=z9
  unfold rI2 at q
  split at q
  ·obtain rfl:v=.int _:=r1
   obtain rfl:u=.int _:=r2
   exact⟨_,_,rfl,rfl,q.1,fin _ _ _ _ .refl (e _ _ _) a q.2⟩
  ·exact q.elim
theorem ri0{f:G0->G0->Sem G0}{g:Int->Int->V}(h:OpR X f (rI0 g)):OpR X f (rI (fun _ _=>True) g):=d7 h fun x y H Q zz1_0=>by obtain⟨i,j,a,b,_,q⟩:=zz1_0;exact(⟨i,j,a,b,q⟩)
def DR:R2D:=rI2 (fun _ _=>True) fun i j=>.int (i-j)
def A1:R2D:=rI2 IntMulOk fun i j=>.int (i*j)
def CFd(i j:Int):Prop:=j≠0/\Bd 8000 j
def Gk:R2D:=rI2 CFd fun i j=>.int (i.fdiv j)
def EW:R2D:=rI2 (fun _ j=>j≠0) fun i j=>.int (i.fmod j)
def Eb:R2D:=rI2 DY fun i j=>.int (i^j.toNat)
def FC:R2D:=rI2 (fun _ _=>True) fun i j=>.bl (decide (i<j))
def Gf:R2D:=rI2 (fun _ _=>True) fun i j=>.bl (decide (i<=j))
def FV:R2D:=rI2 (fun _ _=>True) fun i j=>.bl (decide (j<i))
def FT:R2D:=rI2 (fun _ _=>True) fun i j=>.bl (decide (j<=i))
theorem cD:OpD X (Iu .Sub) DR:=dR (ri0 CT) fun _ _ _=>by rw[Rep]
theorem aG:OpD X (Iu .Mult) A1:=dR (opI fun _ _ _ _ _ _ _ hc q=>mul_int q hc) fun _ _ _=>by rw[Rep]
theorem n6:OpD X (Iu .FloorDiv) Gk:=dR (opI fun _ _ _ _ _ _ _ hc q=>floordiv_int hc.1 q (.inl (PyProof.noPylong_of_log2 (Nat.lt_trans (hc.2.log2 (by decide)) (by decide))))) fun _ _ _=>by rw[Rep]
theorem jw:OpD X (Iu .Mod) EW:=dR zW fun _ _ _=>by rw[Rep]
theorem eV:OpD X (Iu .Pow) Eb:=dR CM fun _ _ _=>by rw[Rep]
theorem Fc:OpD X (GF .Lt) FC:=dR (ri0 ER) fun _ _ _=>by rw[Rep]
theorem Fb:OpD X (GF .LtE) Gf:=dR (ri0 Ec) fun _ _ _=>by rw[Rep]
theorem Fh:OpD X (GF .Gt) FV:=dR (ri0 DL) fun _ _ _=>by rw[Rep]
theorem EL:OpD X (GF .GtE) FT:=dR (ri0 Eg) fun _ _ _=>by rw[Rep]
def Bf:D->MH->DK->Prop:=fun x M Q=>match x with
 |.int i=>Q (.int (-i)) M
 |_=>False
theorem ji:UnR X (unaryOp .USub) (Bx X.K Bf):=fun pins s σ H x v Q I r zz2_0=>by obtain⟨d,M,R,r1,a,q,fin⟩:=zz2_0;exact(Df pins s σ H x v Q I r (by
 unfold Bf at q
 split at q
 ·obtain rfl:x=.int _:=r1;exact⟨_,rfl,fin _ _ _ _ .refl (by rw[Rep]) a q⟩
 ·exact q.elim))
def y9:R2D:=fun x y M Q=>match x,y with
 |.int i,.int j=>Q (.int (i+j)) M
 |.tup a,.tup b=>a≠[]/\a.length+b.length<=Gp/\Q (.tup (a++b)) M
 |.ref a,.ref b=>∃xs ys,M a=some (.lst xs)/\M b=some (.lst ys)/\xs.length+ys.length<=Gp/\∀p,M p=none->Q (.ref p) (au M p (.lst (xs++ys)))
 |_,_=>False
theorem cb:OpD X (Iu .Add) y9:=d7 (Ct.or (AE.or Dh)) fun v u H Q z9=>by
 obtain⟨x,y,M,R,r1,r2,a,q,fin⟩:=z9;unfold y9 at q;split at q
 ·obtain rfl:v=.int _:=r1;obtain rfl:u=.int _:=r2;exact .inl ⟨_,_,rfl,rfl,fin _ _ _ _ .refl (by rw[Rep]) a q⟩
 ·rename_i da db;obtain⟨hn,hl,q⟩:=q;rw[Rep]at r1;obtain⟨p,xs,rfl,hx,rx⟩:=r1;obtain⟨p',ys,rfl,hy,ry⟩:∃a xs,u=V.ref a/\SqT X.K H a xs/\aJ X.K H db xs:=by rw[Rep]at r2;exact r2
  have l1:=rx.length;have l2:=ry.length;refine .inr (.inl ⟨p,p',xs,ys,rfl,rfl,hx,hy,?_,by omega,fun e=>?_,fun _ z hz=>?_⟩)
  ·intro e;subst e;exact hn (List.length_eq_zero_iff.mp (by simpa using l1))
  ·subst e;obtain rfl:db=[]:=List.length_eq_zero_iff.mp (by simpa using l2);exact fin _ _ _ _ .refl (by rw[Rep,Iq];exact⟨p,xs,rfl,hx,rx⟩) a q
  ·exact fin _ _ _ _ (.new hz) (by rw[Rep];exact⟨z,_,rfl,SqT.of aW,(rx.append ry).mono (.new hz)⟩) (a.new hz) q
 ·obtain⟨ds,es,e1,e2,hl,q⟩:=q;obtain rfl:v=.ref _:=r1;obtain rfl:u=.ref _:=r2;obtain⟨xs,hx,rx⟩:=a _ _ e1;obtain⟨ys,hy,ry⟩:=a _ _ e2;have l1:=rx.length;have l2:=ry.length;exact .inr (.inr ⟨_,_,xs,ys,rfl,rfl,hx,hy,by omega,fun z hz=>fin _ _ _ _ (.new hz) (by rw[Rep]) (a.jk hz (rx.append ry)) (q z (a.fresh hz))⟩)
 ·exact q.elim
end
mutual
inductive Pd(M:MH):D->Jj->Prop
 |non:Pd M .non .none
 |bl (b:Bool):Pd M (.bl b) (.bool b)
 |int (i:Int):Pd M (.int i) (.int i)
 |str (x:Str):Pd M (.str x) (.str x)
 |tup {ds:List D} {ps:List Jj}:Pds M ds ps->Pd M (.tup ds) (.tuple ps)
 |rol {ds:List D} {ps:List Jj}:Pds M ds ps->Pd M (.rol ds) (.list ps)
 |lst {a:Addr} {ds:List D} {ps:List Jj}:M a=some (.lst ds)->Pds M ds ps->Pd M (.ref a) (.list ps)
inductive Pds(M:MH):List D->List Jj->Prop
 |nil:Pds M [] []
 |cons {d:D} {ds:List D} {p:Jj} {ps:List Jj}:Pd M d p->Pds M ds ps->Pds M (d::ds) (p::ps)
end
mutual
def pdO:D->Option Jj
 |.non=>some .none
 |.bl b=>some (.bool b)
 |.int i=>some (.int i)
 |.str x=>some (.str x)
 |.tup ds=>match rM ds with
  |some ps=>some (.tuple ps)
  |none=>none
 |_=>none
def rM:List D->Option (List Jj)
 |[]=>some []
 |d::ds=>match pdO d,rM ds with
  |some p,some ps=>some (p::ps)
  |_,_=>none
end
mutual
theorem Pd.of{M:MH}:∀{d:D} {p:Jj},pdO d=some p->Pd M d p
 |.non,p,h=>by rw[pdO]at h;cases h;exact .non
 |.bl b,p,h=>by rw[pdO]at h;cases h;exact .bl b
 |.int i,p,h=>by rw[pdO]at h;cases h;exact .int i
 |.str x,p,h=>by rw[pdO]at h;cases h;exact .str x
 |.ty _,p,h=>by simp[pdO]at h
 |.ref _,p,h=>by simp[pdO]at h
 |.rol _,p,h=>by simp[pdO]at h
 |.tup ds,p,h=>by
  rw[pdO]at h
  cases e:rM ds with
  |none=>rw[e]at h;cases h
  |some ps=>rw[e]at h;cases h;exact .tup (Pds.of e)
theorem Pds.of{M:MH}:∀{ds:List D} {ps:List Jj},rM ds=some ps->Pds M ds ps
 |[],ps,h=>by rw[rM]at h;cases h;exact .nil
 |d::ds,ps,h=>by
  rw[rM]at h
  cases e1:pdO d with
  |none=>rw[e1]at h;cases h
  |some p=>
   cases e2:rM ds with
   |none=>rw[e1,e2]at h;cases h
   |some qs=>rw[e1,e2]at h;cases h;exact .cons (Pd.of e1) (Pds.of e2)
end
section
variable{X:Cx}{pins:List (Addr×Obj)}{σ:L2.St}{H:Hp}{s:G3}{M:MH}
mutual
theorem cE(I:Inv X pins σ H s)(hM:Abs X.K H M):∀{d:D} {p:Jj} {v:V} {u:G0},Pd M d p->Rep X.K H d v->L2.RelV v u->∃as,Reads s.heap u p as
 |_,_,_,_,.non,r,e=>by rw[Rep]at r;subst r;cases e;exact⟨_,.none⟩
 |_,_,_,_,.bl b,r,e=>by rw[Rep]at r;subst r;cases e;exact⟨_,.bool b⟩
 |_,_,_,_,.int i,r,e=>by rw[Rep]at r;subst r;obtain⟨t,rfl⟩:=e;exact⟨_,.int i t⟩
 |_,_,_,_,.str x,r,e=>by rw[Rep]at r;subst r;obtain⟨t,rfl⟩:=e;exact⟨_,.str x t⟩
 |_,_,_,_,.tup hp,r,e=>by
  rw[Rep]at r
  obtain⟨a,xs,rfl,hq,rs⟩:=r
  cases e
  obtain⟨its,rv,⟨o,h1,h2,n,h3⟩,_⟩:=I.tuple hq
  obtain⟨as,hh⟩:=gM I hM hp rs rv
  exact⟨as,reads_tuple_at h1 h2 h3 (by simpa using hh)⟩
 |_,_,_,_,.rol hp,r,e=>by
  rw[Rep]at r
  obtain⟨a,xs,rfl,hq,rs⟩:=r
  cases e
  obtain⟨its,rv,⟨o,n,h1,h2,_,h3⟩,_⟩:=I.list hq.sql
  obtain⟨as,hh⟩:=gM I hM hp rs rv
  exact⟨_,reads_list_at h1 h2 h3 (by simpa using hh)⟩
 |_,_,_,_,.lst ha hp,r,e=>by
  rw[Rep]at r
  subst r
  cases e
  obtain⟨xs,hx,rs⟩:=hM _ _ ha
  obtain⟨its,rv,⟨o,n,h1,h2,_,h3⟩,_⟩:=I.list (SqL.of hx)
  obtain⟨as,hh⟩:=gM I hM hp rs rv
  exact⟨_,reads_list_at h1 h2 h3 (by simpa using hh)⟩
theorem gM(I:Inv X pins σ H s)(hM:Abs X.K H M):∀{ds:List D} {ps:List Jj} {vs:List V} {us:List G0},Pds M ds ps->aJ X.K H ds vs->Vals vs us->∃as,ReadsAll s.heap us ps as
 |_,_,_,_,.nil,r,e=>by rw[aJ]at r;subst r;cases e;exact⟨_,.nil⟩
 |_,_,_,_,.cons h1 h2,r,e=>by
  rw[aJ]at r
  obtain⟨x,r,rfl,r1,r2⟩:=r
  cases e with
  |cons e1 e2=>
   obtain⟨as,q1⟩:=cE I hM h1 r1 e1
   obtain⟨bs,q2⟩:=gM I hM h2 r2 e2
   exact⟨_,.cons q1 q2⟩
end
end
inductive rEqG(g:Bool->Bool)(x y:D)(M:MH)(Q:DK):Prop
 |mk (p q:Jj) (h1:Pd M x p) (h2:Pd M y q) (h3:Ia p=true) (h4:Ia q=true) (hq:Q (.bl (g (Hc p q))) M):rEqG g x y M Q
def Dp:R2D:=fun x y M Q=>match x,y with
 |.int i,.int j=>Q (.bl (decide (i=j))) M
 |.bl i,.bl j=>Q (.bl (decide (i=j))) M
 |x,y=>rEqG (fun b=>b) x y M Q
def Dl:R2D:=fun x y M Q=>match x,y with
 |.int i,.int j=>Q (.bl (!decide (i=j))) M
 |.bl i,.bl j=>Q (.bl (!decide (i=j))) M
 |x,y=>rEqG (fun b=>!b) x y M Q
section
variable{X:Cx}
theorem Dw(hu:X.A.units+64<Jc):OpD X (GF .Eq) (rEqG fun b=>b):=by intro pins s σ H v u v' u' Q I rv ru h;obtain⟨x,y,M,R,r1,r2,a,⟨p,q,p1,p2,s1,s2,hq⟩,fin⟩:=h;obtain⟨as,q1⟩:=cE I a p1 r1 rv;obtain⟨bs,q2⟩:=cE I a p2 r2 ru;exact eq_dataH q1 q2 s1 s2 hu ⟨.bl _,H,I,rfl,fin _ _ _ _ .refl (by rw[Rep]) a hq⟩
theorem Dg(hu:X.A.units+64<Jc):OpD X (GF .NotEq) (rEqG fun b=>!b):=by intro pins s σ H v u v' u' Q I rv ru h;obtain⟨x,y,M,R,r1,r2,a,⟨p,q,p1,p2,s1,s2,hq⟩,fin⟩:=h;obtain⟨as,q1⟩:=cE I a p1 r1 rv;obtain⟨bs,q2⟩:=cE I a p2 r2 ru;exact ne_dataH q1 q2 s1 s2 hu ⟨.bl _,H,I,rfl,fin _ _ _ _ .refl (by rw[Rep]) a hq⟩
theorem ku{i j:Int}:(i==j)=decide (i=j):=by by_cases h:i=j<;>simp[h]
theorem qL{i j:Bool}:(i==j)=decide (i=j):=by cases i<;>cases j<;>rfl
theorem fo(hu:X.A.units+64<Jc):OpD X (GF .Eq) Dp:=d7 (Dw hu) fun v u H Q z9=>by
 obtain⟨x,y,M,R,r1,r2,a,q,fin⟩:=z9;refine⟨x,y,M,R,r1,r2,a,?_,fin⟩;unfold Dp at q;split at q
 ·exact⟨_,_,.int _,.int _,rfl,rfl,by simpa[Hc,ku]using q⟩
 ·exact⟨_,_,.bl _,.bl _,rfl,rfl,by simpa[Hc,qL]using q⟩
 ·exact q
theorem nE(hu:X.A.units+64<Jc):OpD X (GF .NotEq) Dl:=d7 (Dg hu) fun v u H Q z9=>by
 obtain⟨x,y,M,R,r1,r2,a,q,fin⟩:=z9;refine⟨x,y,M,R,r1,r2,a,?_,fin⟩;unfold Dl at q;split at q
 ·exact⟨_,_,.int _,.int _,rfl,rfl,by simpa[Hc,ku]using q⟩
 ·exact⟨_,_,.bl _,.bl _,rfl,rfl,by simpa[Hc,qL]using q⟩
 ·exact q
def isC:D->D->Option Bool
 |.non,.non=>some true
 |.non,.bl _=>some false
 |.bl _,.non=>some false
 |.bl a,.bl b=>some (decide (a=b))
 |_,.non=>some false
 |_,.bl _=>some false
 |_,_=>none
inductive rIsG(g:Bool->Bool)(x y:D)(M:MH)(Q:DK):Prop
 |mk (b:Bool) (h:isC x y=some b) (q:Q (.bl (g b)) M):rIsG g x y M Q
def Fy:R2D:=rIsG fun b=>b
def zm:R2D:=rIsG fun b=>!b
theorem mV{K:cc}{H:Hp}{x y:D}{b:Bool}{v u:V}{v' u':G0}(h:isC x y=some b)(r1:Rep K H x v)(r2:Rep K H y u)(rv:L2.RelV v v')(ru:L2.RelV u u'):plainIs v' u'=true/\(v'==u')=b:=by
 have hu:u'=.none\/∃c,u'=.bool c:=by
  cases y with
  |non=>rw[Rep]at r2;subst r2;exact .inl ru
  |bl c=>rw[Rep]at r2;subst r2;exact .inr ⟨c,ru⟩
  |_=>cases x<;>exact absurd (show(none:Option Bool)=some b from h) (fun z=>nomatch z)
 cases x with
 |non=>
  rw[Rep]at r1;subst r1;cases (show v'=HC from rv)
  cases y<;>try exact absurd (show(none:Option Bool)=some b from h) (fun z=>nomatch z)
  ·rw[Rep]at r2;subst r2;cases (show u'=HC from ru);cases (show some true=some b from h);exact⟨rfl,rfl⟩
  ·rw[Rep]at r2;subst r2;cases (show u'=Ib _ from ru);cases (show some false=some b from h);exact⟨rfl,rfl⟩
 |bl c=>
  rw[Rep]at r1;subst r1;cases (show v'=Ib _ from rv)
  cases y<;>try exact absurd (show(none:Option Bool)=some b from h) (fun z=>nomatch z)
  ·rw[Rep]at r2;subst r2;cases (show u'=HC from ru);cases (show some false=some b from h);exact⟨rfl,rfl⟩
  ·rename_i c';rw[Rep]at r2;subst r2;cases (show u'=Ib _ from ru);cases (show some (decide (c=c'))=some b from h);refine⟨rfl,?_⟩;cases c<;>cases c'<;>rfl
 |int i=>
  rw[Rep]at r1;subst r1;obtain⟨t,rfl⟩:=rv
  cases y<;>first|exact absurd (show(none:Option Bool)=some b from h) (fun z=>nomatch z)|(cases (show some false=some b from h);rcases hu with rfl|⟨c,rfl⟩<;>exact⟨rfl,rfl⟩)
 |str i=>
  rw[Rep]at r1;subst r1;obtain⟨t,rfl⟩:=rv
  cases y<;>first|exact absurd (show(none:Option Bool)=some b from h) (fun z=>nomatch z)|(cases (show some false=some b from h);rcases hu with rfl|⟨c,rfl⟩<;>exact⟨rfl,rfl⟩)
 |ty i=>
  rw[Rep]at r1;subst r1;cases (show v'=Value.type _ from rv)
  cases y<;>first|exact absurd (show(none:Option Bool)=some b from h) (fun z=>nomatch z)|(cases (show some false=some b from h);rcases hu with rfl|⟨c,rfl⟩<;>exact⟨rfl,rfl⟩)
 |ref i=>
  rw[Rep]at r1;subst r1;cases (show v'=Hy _ from rv)
  cases y<;>first|exact absurd (show(none:Option Bool)=some b from h) (fun z=>nomatch z)|(cases (show some false=some b from h);rcases hu with rfl|⟨c,rfl⟩<;>exact⟨rfl,rfl⟩)
 |rol i=>
  rw[Rep]at r1;obtain⟨a,xs,rfl,_,_⟩:=r1;cases (show v'=Hy _ from rv)
  cases y<;>first|exact absurd (show(none:Option Bool)=some b from h) (fun z=>nomatch z)|(cases (show some false=some b from h);rcases hu with rfl|⟨c,rfl⟩<;>exact⟨rfl,rfl⟩)
 |tup i=>
  rw[Rep]at r1;obtain⟨a,xs,rfl,_,_⟩:=r1;cases (show v'=Hy _ from rv)
  cases y<;>first|exact absurd (show(none:Option Bool)=some b from h) (fun z=>nomatch z)|(cases (show some false=some b from h);rcases hu with rfl|⟨c,rfl⟩<;>exact⟨rfl,rfl⟩)
theorem eM:OpD X (GF .Is) Fy:=by intro pins s σ H v u v' u' Q I rv ru h;obtain⟨x,y,M,R,r1,r2,a,⟨b,e,q⟩,fin⟩:=h;obtain⟨e1,e2⟩:=mV e r1 r2 rv ru;exact wpAny_is_plain e1 ⟨.bl b,H,I,by rw[e2];rfl,fin _ _ _ _ .refl (by rw[Rep]) a q⟩
theorem yC:OpD X (GF .IsNot) zm:=by intro pins s σ H v u v' u' Q I rv ru h;obtain⟨x,y,M,R,r1,r2,a,⟨b,e,q⟩,fin⟩:=h;obtain⟨e1,e2⟩:=mV e r1 r2 rv ru;exact wpAny_isNot_plain e1 ⟨.bl (!b),H,I,by rw[e2];rfl,fin _ _ _ _ .refl (by rw[Rep]) a q⟩
end
abbrev RC:=List D->MH->DK->Prop
def A5(K:cc)(r:RC):List V->Hp->VK->Prop:=fun vs H Q=>∃ds M R,aJ K H ds vs/\Abs K H M/\r ds M R/\Fin K H R Q
def c7(X:Cx)(f:G0)(r:RC):Prop:=b5 X f (A5 X.K r)
theorem bJ{X:Cx}{f:G0}{r r':List V->Hp->VK->Prop}(h:b5 X f r)(k:∀xs H Q,r' xs H Q->r xs H Q):b5 X f r':=fun pins s σ H xs us Q I a q=>h pins s σ H xs us Q I a (k _ _ _ q)
def Ca(r:RC)(t:TAD):TD:=fun δ M Q=>t δ M fun ds M1=>r ds M1 Q
theorem tX{K:cc}{r:RC}{t:TAD}{σ:L2.St}{H:Hp}{Q:VK}(h:lift K (Ca r t) σ H Q):tCB (A5 K r) (A2 K t) σ H Q:=by obtain⟨δ,M,R,hs,hM,q,fin⟩:=h;exact⟨δ,M,_,hs,hM,q,fun ds M1 vs H1 g1 r1 a1 q1=>⟨ds,M1,R,r1,a1,q1,fin.go g1⟩⟩
section
variable{X:Cx}{x:Str}{p pos:Pos}{e:Expr}{es:List Expr}{t:TAD}{id T:String}{r:RC}
theorem aI(hc:c7 X (.builtin id) r)(hg:Gl X x)(hm:X.mg x=none)(hv:Hj x=some (.builtin id))(ha:DA X (e::es) t)(hn:x≠"__name__":=by decide)(hdb:(x==("__debug__":Str))=false:=by decide) (he:Gx (e::es) X.env=(false,eval e X.env)::Gx es X.env:=by rfl) (hpl:(Ik pos (Gx es X.env)).any (·.1)=false:=by rfl):DE X (.Call (.Name x p) (e::es) [] pos) (Ca r t):=bA (yy hc hg hm hv ha hn hdb he hpl) fun _ _ _ h=>tX h
theorem aV(hc:c7 X (.type T) r)(hg:Gl X x)(hm:X.mg x=none)(hv:Hj x=some (.type T))(ha:DA X (e::es) t)(hn:x≠"__name__":=by decide)(hdb:(x==("__debug__":Str))=false:=by decide) (he:Gx (e::es) X.env=(false,eval e X.env)::Gx es X.env:=by rfl) (hpl:(Ik pos (Gx es X.env)).any (·.1)=false:=by rfl):DE X (.Call (.Name x p) (e::es) [] pos) (Ca r t):=bA (vC hc hg hm hv ha hn hdb he hpl) fun _ _ _ h=>tX h
theorem b4{K:cc}{H:Hp}{d:D}{vs:List V}(h:aJ K H [d] vs):∃v,vs=[v]/\Rep K H d v:=by rw[aJ]at h;obtain⟨x,r,rfl,h1,h2⟩:=h;rw[aJ]at h2;subst h2;exact⟨x,rfl,h1⟩
theorem lE{K:cc}{H:Hp}{d e:D}{vs:List V}(h:aJ K H [d,e] vs):∃v u,vs=[v,u]/\Rep K H d v/\Rep K H e u:=by rw[aJ]at h;obtain⟨x,r,rfl,h1,h2⟩:=h;obtain⟨u,rfl,h3⟩:=b4 h2;exact⟨x,u,rfl,h1,h3⟩
def Ew:RC:=fun ds M Q=>match ds with
 |[.int i]=>Q (.int (i.natAbs:Int)) M
 |_=>False
theorem oB:c7 X (.builtin "abs") Ew:=bJ yg fun vs H Q z9=>by
 obtain⟨ds,M,R,rs,a,q,fin⟩:=z9;unfold Ew at q;split at q
 ·rename_i i;obtain⟨v,rfl,r⟩:=b4 rs;rw[Rep]at r;subst r;have e:(if i<0 then -i else i)=(i.natAbs:Int):=by split<;>omega
  exact⟨_,rfl,fin _ _ _ _ .refl (by rw[Rep,e]) a q⟩
 ·exact q.elim
def Ek:RC:=fun ds M Q=>match ds with
 |[.int i,.int j]=>Q (.int (max i j)) M
 |_=>False
def EA:RC:=fun ds M Q=>match ds with
 |[.int i,.int j]=>Q (.int (min i j)) M
 |_=>False
theorem Cp(hc:X.calm=true):c7 X (.builtin "max") Ek:=bJ (vR hc) fun vs H Q z9=>by
 obtain⟨ds,M,R,rs,a,q,fin⟩:=z9;unfold Ek at q;split at q
 ·rename_i i j;obtain⟨v,u,rfl,r,r'⟩:=lE rs;rw[Rep]at r;subst r;have r2:u=.int j:=by rw[Rep]at r';exact r'
  subst r2;have e:(if j>i then j else i)=max i j:=by split<;>omega
  exact⟨_,_,rfl,fin _ _ _ _ .refl (by rw[Rep,e]) a q⟩
 ·exact q.elim
theorem Dq(hc:X.calm=true):c7 X (.builtin "min") EA:=bJ (vg hc) fun vs H Q z9=>by
 obtain⟨ds,M,R,rs,a,q,fin⟩:=z9;unfold EA at q;split at q
 ·rename_i i j;obtain⟨v,u,rfl,r,r'⟩:=lE rs;rw[Rep]at r;subst r;have r2:u=.int j:=by rw[Rep]at r';exact r'
  subst r2;have e:(if j<i then j else i)=min i j:=by split<;>omega
  exact⟨_,_,rfl,fin _ _ _ _ .refl (by rw[Rep,e]) a q⟩
 ·exact q.elim
def Cu:RC:=fun ds M Q=>match ds with
 |[.tup xs]=>Q (.int (xs.length:Int)) M
 |[.rol xs]=>Q (.int (xs.length:Int)) M
 |[.ref l]=>∃xs,M l=some (.lst xs)/\Q (.int (xs.length:Int)) M
 |_=>False
theorem sk:c7 X (.builtin "len") Cu:=bJ oQ fun vs H Q z9=>by
 obtain⟨ds,M,R,rs,a,q,fin⟩:=z9;unfold Cu at q;split at q
 ·obtain⟨v,rfl,r⟩:=b4 rs;rw[Rep]at r;obtain⟨l,xs,rfl,h1,h2⟩:=r;exact⟨l,xs,rfl,.inr h1,fin _ _ _ _ .refl (by rw[Rep,h2.length]) a q⟩
 ·obtain⟨v,rfl,r⟩:=b4 rs;rw[Rep]at r;obtain⟨l,xs,rfl,h1,h2⟩:=r;exact⟨l,xs,rfl,.inl h1.sql,fin _ _ _ _ .refl (by rw[Rep,h2.length]) a q⟩
 ·obtain⟨v,rfl,r⟩:=b4 rs;rw[Rep]at r;subst r;obtain⟨xs,e,q⟩:=q;obtain⟨ys,h1,h2⟩:=a _ _ e;exact⟨_,ys,rfl,.inl (SqL.of h1),fin _ _ _ _ .refl (by rw[Rep,h2.length]) a q⟩
 ·exact q.elim
def wx:RC:=fun ds M Q=>match ds with
 |[.tup xs]=>Q (.tup xs) M
 |[.rol xs]=>Q (.tup xs) M
 |[.ref l]=>∃xs,M l=some (.lst xs)/\Q (.tup xs) M
 |_=>False
theorem iV:c7 X (.type "tuple") wx:=bJ mH fun vs H Q z9=>by
 obtain⟨ds,M,R,rs,a,q,fin⟩:=z9;unfold wx at q;split at q
 ·obtain⟨v,rfl,r⟩:=b4 rs;rw[Rep]at r;obtain⟨l,xs,rfl,h1,h2⟩:=r;exact⟨l,xs,rfl,.inr ⟨h1,fin _ _ _ _ .refl (by rw[Rep];exact⟨l,xs,rfl,h1,h2⟩) a q⟩⟩
 ·obtain⟨v,rfl,r⟩:=b4 rs;rw[Rep]at r;obtain⟨l,xs,rfl,h1,h2⟩:=r;exact⟨l,xs,rfl,.inl ⟨h1.sql,fun p hp=>fin _ _ _ _ (.new hp) (by rw[Rep];exact⟨p,xs,rfl,SqT.of aW,h2.mono (.new hp)⟩) (a.new hp) q⟩⟩
 ·obtain⟨v,rfl,r⟩:=b4 rs;rw[Rep]at r;subst r;obtain⟨xs,e,q⟩:=q;obtain⟨ys,h1,h2⟩:=a _ _ e;exact⟨_,ys,rfl,.inl ⟨SqL.of h1,fun p hp=>fin _ _ _ _ (.new hp) (by rw[Rep];exact⟨p,ys,rfl,SqT.of aW,h2.mono (.new hp)⟩) (a.new hp) q⟩⟩
 ·exact q.elim
def yX:RC:=fun ds M Q=>match ds with
 |[.int i]=>Q (.int i) M
 |[.bl k]=>Q (.int (if k=true then 1 else 0)) M
 |_=>False
theorem jx:c7 X (.type "int") yX:=bJ vE fun vs H Q z9=>by
 obtain⟨ds,M,R,rs,a,q,fin⟩:=z9;unfold yX at q;split at q
 ·obtain⟨v,rfl,r⟩:=b4 rs;rw[Rep]at r;subst r;exact .inl ⟨_,rfl,fin _ _ _ _ .refl (by rw[Rep]) a q⟩
 ·obtain⟨v,rfl,r⟩:=b4 rs;rw[Rep]at r;subst r;exact .inr ⟨_,rfl,fin _ _ _ _ .refl (by rw[Rep]) a q⟩
 ·exact q.elim
def tyN:D->Option String
 |.non=>some "NoneType"
 |.bl _=>some "bool"
 |.int _=>some "int"
 |.str _=>some "str"
 |.tup _=>some "tuple"
 |.rol _=>some "list"
 |_=>none
def pU(K:cc):RC:=fun ds M Q=>match ds with
 |[x,.ty n]=>∃t b,tyN x=some t/\Hw K (.type t) (.type n)=some b/\Q (.bl b) M
 |_=>False
theorem vx:c7 X (.builtin "isinstance") (pU X.K):=by
 intro pins s σ H vs us Q I rv z0;obtain⟨ds,M,R,rs,a,q,fin⟩:=z0;unfold pU at q;split at q
 ·rename_i x n;obtain⟨v,u,rfl,r,r'⟩:=lE rs;rw[Rep]at r';subst r';obtain⟨v',u',rfl,rw0,ru⟩:=vals2 rv;cases (show u'=Value.type n from ru);obtain⟨t,b,et,e,q⟩:=q;have h:∀tk,EP X pins σ Q (.bool b) { s with toks:=tk }:=fun tk=>⟨.bl b,H,I.tok tk,rfl,fin _ _ _ _ .refl (by rw[Rep]) a q⟩;cases x with
  |non=>cases et;rw[Rep]at r;subst r;cases (show v'=HC from rw0);exact J6 PySem.W.kitx_none I.kIn True.intro e (fun z=>nomatch z) h
  |bl y=>cases et;rw[Rep]at r;subst r;cases (show v'=Ib y from rw0);exact J6 PySem.W.kitx_bool I.kIn True.intro e (fun z=>nomatch z) h
  |int y=>cases et;rw[Rep]at r;subst r;obtain⟨t,q⟩:=(show ∃t,v'=Value.int y t from rw0);cases q;exact J6 PySem.W.kitx_int I.kIn True.intro e (fun z=>nomatch z) h
  |str y=>cases et;rw[Rep]at r;subst r;obtain⟨t,q⟩:=(show ∃t,v'=Value.str y t from rw0);cases q;exact J6 PySem.W.kitx_str I.kIn True.intro e (fun z=>nomatch z) h
  |tup y=>
   cases et;rw[Rep]at r
   obtain⟨p,xs,rfl,h1,_⟩:=r
   cases (show v'=Hy p from rw0)
   obtain⟨its,_,⟨o,z1,z2,_⟩,_⟩:=I.tuple h1
   exact J6 PySem.W.kitx_tuple I.kIn ⟨o,z1,z2⟩ e (fun z=>nomatch z) h
  |rol y=>
   cases et;rw[Rep]at r
   obtain⟨p,xs,rfl,h1,_⟩:=r
   cases (show v'=Hy p from rw0)
   obtain⟨its,_,⟨o,n,z1,z2,_⟩,_⟩:=I.list h1.sql
   exact J6 PySem.W.kitx_list I.kIn ⟨o,z1,z2⟩ e (fun z=>nomatch z) h
  |_=>cases et
 ·exact q.elim
end
abbrev TGD:=D->DS->MH->(DS->MH->Prop)->Prop
abbrev k9:=List D->DS->MH->(DS->MH->Prop)->Prop
section
variable(K:cc)
def yo(H:Hp)(R:DS->MH->Prop)(Q:L2.St->Hp->Prop):Prop:=∀δ' M' σ' H',Grow K H H'->Slots K H' δ' σ'->Abs K H' M'->R δ' M'->Q σ' H'
def Ef(t:TGD):TG:=fun v σ H Q=>∃d δ M R,Rep K H d v/\Slots K H δ σ/\Abs K H M/\t d δ M R/\yo K H R Q
def Cm(t:k9):TGs:=fun vs σ H Q=>∃ds δ M R,aJ K H ds vs/\Slots K H δ σ/\Abs K H M/\t ds δ M R/\yo K H R Q
end
theorem yo.go{K:cc}{H H1:Hp}{R:DS->MH->Prop}{Q:L2.St->Hp->Prop}(g:Grow K H H1)(h:yo K H R Q):yo K H1 R Q:=fun d M v H' g'=>h d M v H' (g.trans g')
def DG(X:Cx)(e:Expr)(t:TGD):Prop:=PG X e (Ef X.K t)
def DGs(X:Cx)(es:List Expr)(t:k9):Prop:=PGs X es (Cm X.K t)
theorem lY{X:Cx}{e:Expr}{t t':TG}(h:PG X e t)(k:∀v σ H Q,t' v σ H Q->t v σ H Q):PG X e t':=fun pins s σ H v u Q I r q=>h pins s σ H v u Q I r (k _ _ _ _ q)
theorem tN{X:Cx}{e:List Expr}{t t':TGs}(h:PGs X e t)(k:∀v σ H Q,t' v σ H Q->t v σ H Q):PGs X e t':=fun pins s σ H v u Q I r q=>h pins s σ H v u Q I r (k _ _ _ _ q)
section
variable{X:Cx}{pos:Pos}
def aK(i:Nat):TGD:=fun d δ M Q=>Q (δ.set i (some d)) M
theorem aB(i:Nat){x:Str}(hN:X.N.Nodup)(hi:X.N[i]?=some x:=by rfl)(hx:Loc X.env.scope x:=by first|exact Or.inl rfl|exact Or.inr rfl)(hf:X.fn x=true\/X.env.scope.names.lookup x=some .local:=by first|exact .inl rfl|exact .inr rfl|assumption):DG X (.Name x pos) (aK i):=lY (tD hN hi hx hf) fun v σ H Q zz1_0=>by obtain⟨d,δ,M,R,r,hs,a,q,fin⟩:=zz1_0;exact(fin _ _ _ _ .refl (hs.set r i) a q)
def Bi:k9:=fun ds δ M Q=>ds=[]/\Q δ M
inductive gConsD(t:TGD)(u:k9)(ds:List D)(δ:DS)(M:MH)(Q:DS->MH->Prop):Prop
 |mk (d:D) (r:List D) (h:ds=d::r) (q:t d δ M fun δ' M'=>u r δ' M' Q):gConsD t u ds δ M Q
theorem ba:DGs X [] Bi:=tN uH fun vs σ H Q z9=>by obtain⟨ds,δ,M,R,rs,hs,a,⟨e,q⟩,fin⟩:=z9;subst e;rw[aJ]at rs;exact⟨rs,fin _ _ _ _ .refl hs a q⟩
theorem aw{e:Expr}{es:List Expr}{t:TGD}{u:k9}(h1:DG X e t)(h2:DGs X es u) (hs:(Hv (e::es) X.env).map (·.2)=assign e X.env::(Hv es X.env).map (·.2):=by rfl):DGs X (e::es) (gConsD t u):=tN (lX h1 h2 hs) fun vs σ H Q z9=>by obtain⟨ds,δ,M,R,rs,hs,a,⟨d,r,e,q⟩,fin⟩:=z9;subst e;rw[aJ]at rs;obtain⟨x,xs,rfl,r1,r2⟩:=rs;exact⟨x,xs,rfl,d,δ,M,_,r1,hs,a,q,fun δ' M' σ' H' g' s' a' q'=>⟨r,δ',M',R,r2.mono g',s',a',q',fin.go g'⟩⟩
inductive gTupD(n:Nat)(t:k9)(d:D)(δ:DS)(M:MH)(Q:DS->MH->Prop):Prop
 |mk (ds:List D) (h:d=.tup ds) (q:ds.length=n/\t ds δ M Q):gTupD n t d δ M Q
theorem bH{es:List Expr}{k:Nat}{t:k9}{n:Nat}(hc:X.calm=true)(h:DGs X es t) (hn:(Hv es X.env).length=n:=by rfl) (hst:(Hv es X.env).findIdx? (·.1)=none:=by rfl):DG X (.Tuple es k pos) (gTupD n t):=lY (yP hc h hn hst) fun v σ H Q z9=>by obtain⟨d,δ,M,R,r,hs,a,⟨ds,e,hl,q⟩,fin⟩:=z9;subst e;rw[Rep]at r;obtain⟨p,xs,rfl,h1,h2⟩:=r;exact⟨p,xs,rfl,h1,by rw[<-h2.length];exact hl,ds,δ,M,R,h2,hs,a,q,fin⟩
def Bh:D->D->D->MH->(MH->Prop)->Prop:=fun o i v M Q=>match o,i with
 |.ref p,.int k=>∃ds j,M p=some (.lst ds)/\ixN ds.length k=some j/\Q (au M p (.lst (ds.set j v)))
 |_,_=>False
def EY(to ti:TD):TGD:=fun v δ M Q=>to δ M fun o M1=>ti δ M1 fun i M2=>Bh o i v M2 fun M3=>Q δ M3
theorem sr{o i:Expr}{to ti:TD}(ho:DE X o to)(hi:DE X i ti)
 (ha:∀v,assign (.Subscript o i pos) X.env v=(do
  let ov <-holding [v] (eval o X.env)
  let iv <-holding [v,ov] (eval i X.env)
  standAt pos
  holding [v,ov,iv] (setItem ov iv v)
  release [v,ov,iv] []):=by intro _;rfl):DG X (.Subscript o i pos) (EY to ti):=
 lY (CD ho hi set_list ha) fun v σ H Q ⟨d,δ,M,R,r,hs,a,q,fin⟩=>
  ⟨δ,M,_,hs,a,q,fun o M1 vo H1 g1 r1 a1 q1=>⟨δ,M1,_,hs.mono g1,a1,q1,fun i M2 vi H2 g2 r2 a2 q2=>by
   unfold Bh at q2
   split at q2
   ·obtain⟨ds,j,e1,e2,q2⟩:=q2
    obtain rfl:vo=.ref _:=r1
    obtain rfl:vi=.int _:=r2
    obtain⟨xs,h1,h2⟩:=a2 _ _ e1
    refine⟨_,xs,_,j,rfl,rfl,h1,by rw[<-h2.length];exact e2,?_⟩
    have g3:Grow X.K H2 (upd H2 _ (.lst (xs.set j v))):=.lst h1
    exact fin _ _ _ _ ((g1.trans g2).trans g3) (hs.mono ((g1.trans g2).trans g3)) (a2.BA h1 (h2.set (r.mono (g1.trans g2)) j)) q2
   ·exact q2.elim⟩⟩
end
section
variable{X:Cx}{pos:Pos}{st:Stmt}{rest:List Stmt}{t u:TSD}
def bc:TSD:=fun B δ M=>B.nx δ M
def bM(t u:TSD):TSD:=fun B δ M=>t { B with nx:=u B } δ M
theorem aD:DSs X [] bc:=pg Ai fun E σ H zz2_0=>by obtain⟨δ,M,hs,a,B,ok,q⟩:=zz2_0;exact(ok.nx _ _ _ _ .refl hs a q)
theorem ai(h1:DSt X st t)(h2:DSs X rest u):DSs X (st::rest) (bM t u):=pg (qo h1 h2) fun E σ H zz3_0=>by obtain⟨δ,M,hs,a,B,ok,q⟩:=zz3_0;exact(⟨δ,M,hs,a,{ B with nx:=u B },⟨fun δ' M' σ' H' g s' a' q'=>⟨δ',M',s',a',B,ok.go g,q'⟩,ok.rt,ok.bk,ok.ct⟩,q⟩)
theorem aj(h1:DSt X st t):DSs X [st] t:=uh h1
def ua:TSD:=fun _ _ _=>False
theorem qx:DSt X st ua:=dg xy fun E σ H zz7_0=>by obtain⟨δ,M,hs,a,B,ok,q⟩:=zz7_0;exact(q.elim)
theorem vM{sts:List Stmt}:DSs X sts ua:=pg vJ fun E σ H zz8_0=>by obtain⟨δ,M,hs,a,B,ok,q⟩:=zz8_0;exact(q.elim)
def bo(te:TD):TSD:=fun B δ M=>te δ M fun _ M1=>B.nx δ M1
theorem du{e:Expr}{te:TD}(he:DE X e te)(hs:swapsWith e none pos.line X.env=pure false:=by rfl):DSt X (.Expr e pos) (bo te):=dg (uJ he hs) fun E σ H zz9_0=>by obtain⟨δ,M,hs,a,B,ok,q⟩:=zz9_0;exact(⟨δ,M,_,hs,a,q,fun d M1 v H1 g1 r1 a1 q1=>ok.nx _ _ _ _ g1 (hs.mono g1) a1 q1⟩)
def bP(te:TD):TSD:=fun B δ M=>te δ M B.rt
theorem ax{e:Expr}{te:TD}(he:DE X e te):DSt X (.Return (some e) pos) (bP te):=dg (BV he) fun E σ H zz10_0=>by obtain⟨δ,M,hs,a,B,ok,q⟩:=zz10_0;exact(⟨δ,M,_,hs,a,q,fun d M1 v H1 g1 r1 a1 q1=>ok.rt _ _ _ _ g1 r1 a1 q1⟩)
def bR(c:TTD)(t u:TSD):TSD:=fun B δ M=>c δ M fun b M1=>if b=true then t B δ M1 else u B δ M1
theorem aN{c:Expr}{a b:List Stmt}{tc:TTD}(hc:DT X c tc)(ha:DSs X a t)(hb:DSs X b u):DSt X (.If c a b pos) (bR tc t u):=
 dg (DD hc ha hb) fun E σ H zz12_0=>by obtain⟨δ,M,hs,a,B,ok,q⟩:=zz12_0;exact(⟨δ,M,_,hs,a,q,fun c M1 H1 g1 a1 q1=>by
  cases c with
  |true=>rw[if_pos rfl]at q1 ⊢;exact⟨δ,M1,hs.mono g1,a1,B,ok.go g1,q1⟩
  |false=>rw[if_neg G5]at q1 ⊢;exact⟨δ,M1,hs.mono g1,a1,B,ok.go g1,q1⟩⟩)
def bE(te:TD)(g:TGD):TSD:=fun B δ M=>te δ M fun d M1=>g d δ M1 B.nx
theorem cM{tg e:Expr}{te:TD}{g:TGD}(he:DE X e te)(hg:DG X tg g)(hs:swapsWithSole [tg] e pos.line X.env=pure false:=by rfl)(hw:swappedStores [tg] e X.env=pure none:=by rfl)
 (h1:(Hv [tg] X.env).map (·.2)=[assign tg X.env]:=by rfl):DSt X (.Assign [tg] e pos) (bE te g):=
 dg (BQ he hg hs hw h1) fun E σ H zz13_0=>by obtain⟨δ,M,hs,a,B,ok,q⟩:=zz13_0;exact(⟨δ,M,_,hs,a,q,fun d M1 v H1 g1 r1 a1 q1=>
  ⟨d,δ,M1,B.nx,r1,hs.mono g1,a1,q1,fun δ' M' σ' H' g' s' a' q'=>ok.nx _ _ _ _ (g1.trans g') s' a' q'⟩⟩)
theorem ay(i:Nat){x:Str}{e:Expr}{te:TD}{pos':Pos}(hN:X.N.Nodup)(he:DE X e te)(hi:X.N[i]?=some x:=by rfl)(hx:Loc X.env.scope x:=by first|exact Or.inl rfl|exact Or.inr rfl)(hs:swapsWith e (some (.Name x pos')) pos.line X.env=pure false:=by rfl) (hf:X.fn x=true\/X.env.scope.names.lookup x=some .local:=by first|exact .inl rfl|exact .inr rfl|assumption):DSt X (.Assign [.Name x pos'] e pos) (bE te (aK i)):=dg (Dc hN hi hx he hs hf) fun E σ H zz14_0=>by obtain⟨δ,M,hs,a,B,ok,q⟩:=zz14_0;exact(⟨δ,M,_,hs,a,q,fun d M1 v H1 g1 r1 a1 q1=>ok.nx _ _ _ _ g1 ((hs.mono g1).set r1 i) a1 q1⟩)
def Fe(i j:Nat)(ta:TAD):TSD:=fun B δ M=>ta δ M fun ds M1=>∃d e,ds=[d,e]/\B.nx ((δ.set i (some d)).set j (some e)) M1
theorem eQ(i j:Nat){x y:Str}{a b:Expr}{ta:TAD}{px py pt:Pos}{kt k2 pt2}(hc:X.calm=true)(hN:X.N.Nodup)(ha:DA X [a,b] ta)(hij:i≠j:=by decide)(hi:X.N[i]?=some x:=by rfl)(hj:X.N[j]?=some y:=by rfl)
 (hx:X.env.scope.names.lookup x=some .local:=by rfl) (hy:X.env.scope.names.lookup y=some .local:=by rfl)
 (hw:swappedStores [.Tuple [.Name x px,.Name y py] kt pt] (.Tuple [a,b] k2 pt2) X.env=pure (some [x,y]):=by rfl)
 (hs:swapsWithSole [.Tuple [.Name x px,.Name y py] kt pt] (.Tuple [a,b] k2 pt2) pos.line X.env=pure false:=by rfl) :
 DSt X (.Assign [.Tuple [.Name x px,.Name y py] kt pt] (.Tuple [a,b] k2 pt2) pos) (Fe i j ta):=
 dg (C7 hc hN hi hj hij hx hy ha hw hs) fun E σ H zz15_0=>by obtain⟨δ,M,hs,a,B,ok,q⟩:=zz15_0;exact(⟨δ,M,_,hs,a,q,fun ds M1 vs H1 g1 r1 a1 z9=>by
  obtain⟨d,e,z,q1⟩:=z9
  subst z
  obtain⟨v,u,rfl,r2,r3⟩:=lE r1
  exact⟨v,u,rfl,ok.nx _ _ _ _ g1 (((hs.mono g1).set r2 i).set r3 j) a1 q1⟩⟩)
def AH(c:TTD)(tb:TSD):TSD:=fun B δ M=>∃W:Nat->DS->MH->Prop,(∃m,W m δ M)/\∀m δ M,W m δ M->
 c δ M fun b M1=>if b=true then tb { B with nx:=fun δ' M'=>∃m',m'<m/\W m' δ' M',ct:=fun δ' M'=>∃m',m'<m/\W m' δ' M',bk:=B.nx } δ M1 else B.nx δ M1
theorem qF{c:Expr}{body:List Stmt}{tc:TTD}{tb:TSD}(hp:PassesOwn (GD X.prog X.w) X.A X.env X.xe)(hc:DT X c tc)(hb:DSs X body tb):DSt X (.While c body [] pos) (AH tc tb):=
 dg (xK hp hc hb) fun E σ H z9=>by
  obtain⟨δ,M,hs,a,B,ok,W,⟨m,w0⟩,turn⟩:=z9
  refine⟨fun m σ H'=>Grow X.K H H'/\∃δ M,Slots X.K H' δ σ/\Abs X.K H' M/\W m δ M,⟨m,.refl,δ,M,hs,a,w0⟩,?_⟩
  rintro m σ H' ⟨g,δ,M,hs,a,w0⟩
  refine⟨δ,M,_,hs,a,turn m δ M w0,fun b M1 H1 g1 a1 q1=>?_⟩
  cases b with
  |true=>
   rw[if_pos rfl]at q1 ⊢
   refine⟨fun σ2 H2=>∃m',m'<m/\(Grow X.K H H2/\∃δ M,Slots X.K H2 δ σ2/\Abs X.K H2 M/\W m' δ M),fun σ' H' h=>h,δ,M1,hs.mono g1,a1,_,?_,q1⟩
   refine⟨fun δ' M' σ' H' g' s' a' zz16_0=>by obtain⟨m',l,w'⟩:=zz16_0;exact(⟨m',l,(g.trans g1).trans g',δ',M',s',a',w'⟩),fun d M v H' g'=>ok.rt d M v H' ((g.trans g1).trans g'),fun δ' M' σ' H' g' s' a' q'=>ok.nx _ _ _ _ ((g.trans g1).trans g') s' a' q',fun δ' M' σ' H' g' s' a' zz17_0=>by obtain⟨m',l,w'⟩:=zz17_0;exact(⟨m',l,(g.trans g1).trans g',δ',M',s',a',w'⟩)⟩
  |false=>
   rw[if_neg G5]at q1 ⊢
   exact ok.nx _ _ _ _ (g.trans g1) (hs.mono g1) a1 q1
inductive ForW(g:TGD)(tb:TSD)(B:EndsD)(n:Nat)(δ0:DS)(M0:MH):Prop
 |mk (W:Nat->DS->MH->Prop) (w0:W 0 δ0 M0) (turn:∀i δ M,i<n->W i δ M->g (.int (i:Int)) δ M fun δ2 M2=>tb { B with nx:=W (i+1),ct:=W (i+1),bk:=B.nx } δ2 M2) (done:∀δ M,W n δ M->B.nx δ M):ForW g tb B n δ0 M0
inductive ForR(g:TGD)(tb:TSD)(B:EndsD)(ds:List D)(δ0:DS)(M0:MH):Prop
 |mk (n:Nat) (e:ds=[.int (n:Int)]) (q:n<2^60/\ForW g tb B n δ0 M0):ForR g tb B ds δ0 M0
def Cz(ta:TAD)(g:TGD)(tb:TSD):TSD:=fun B δ M=>ta δ M fun ds M1=>ForR g tb B ds δ M1
theorem kr{tg e:Expr}{body:List Stmt}{ta:TAD}{g:TGD}{tb:TSD}{p p2:Pos}(hp:PassesOwn (GD X.prog X.w) X.A X.env X.xe)(hc:X.calm=true)(hg:Gl X "range")(hm:X.mg "range"=none)(ha:DA X [e] ta)(hG:DG X tg g)(hb:DSs X body tb)
 (hs:Gx [e] X.env=[(false,eval e X.env)]:=by rfl) (hf:∀x,HZ (.Call (.Name "range" p) [e] [] p2) X.env x=pure x:=by intro _;rfl):DSt X (.For tg (.Call (.Name "range" p) [e] [] p2) body [] pos) (Cz ta g tb):=
 dg (xH hp hc (m5 hg hm ha hs) hG hb hf) fun E σ H ⟨δ,M,hs,a,B,ok,q⟩=>⟨δ,M,_,hs,a,q,fun ds M1 vs H1 g1 r1 a1 z9=>by
  obtain⟨n,e,hn,W,w0,turn,done⟩:=z9
  subst e
  obtain⟨v,rfl,r⟩:=b4 r1
  rw[Rep]at r;subst r
  refine⟨(n:Int),rfl,by omega,by omega,?_⟩
  rw[show((n:Int)).toNat=n from by simp]
  refine vt (fun i σ H'=>Grow X.K H H'/\∃δ M,Slots X.K H' δ σ/\Abs X.K H' M/\W i δ M) ⟨g1,δ,M1,hs.mono g1,a1,w0⟩ ?_ ?_
  ·rintro i σ H2 hi ⟨g2,δ,M,s2,a2,w2⟩
   refine⟨.int (i:Int),δ,M,_,by rw[Rep];simp,s2,a2,turn i δ M hi w2,fun δ3 M3 σ3 H3 g3 s3 a3 q3=>?_⟩
   refine⟨δ3,M3,s3,a3,_,?_,q3⟩
   exact⟨fun δ' M' σ' H' g' s' a' w'=>⟨(g2.trans g3).trans g',δ',M',s',a',w'⟩,fun d M v H' g'=>ok.rt d M v H' ((g2.trans g3).trans g'),fun δ' M' σ' H' g' s' a' q'=>ok.nx _ _ _ _ ((g2.trans g3).trans g') s' a' q',fun δ' M' σ' H' g' s' a' w'=>⟨(g2.trans g3).trans g',δ',M',s',a',w'⟩⟩
  ·rintro σ H2 ⟨g2,δ,M,s2,a2,w2⟩
   exact ok.nx _ _ _ _ g2 s2 a2 (done δ M w2)⟩
end
theorem bS{b:Bool}{A B:Prop}(e:b=true)(h:A):if b=true then A else B:=by rw[if_pos e];exact h
theorem cu{b:Bool}{A B:Prop}(e:b=false)(h:B):if b=true then A else B:=by rw[if_neg (by rw[e];exact G5)];exact h
theorem orV{ta tb:TD}{δ:DS}{M:MH}{Q:DK}(c1 c2:Bool)(ha:∀K:DK,K (.bl c1) M->ta δ M K)(hb:c1=false->∀K:DK,K (.bl c2) M->tb δ M K)(hq:Q (.bl (c1||c2)) M):Bs ta tb δ M Q:=
 ha _ ⟨c1,rfl,by
  cases c1 with
  |true=>rw[if_pos rfl];exact hq
  |false=>rw[if_neg G5];exact hb rfl _ hq⟩
theorem uX{ta tb:TD}{δ:DS}{M:MH}{Q:DK}(c1 c2:Bool)(ha:∀K:DK,K (.bl c1) M->ta δ M K)(hb:c1=true->∀K:DK,K (.bl c2) M->tb δ M K)(hq:Q (.bl (c1&&c2)) M):xO ta tb δ M Q:=
 ha _ ⟨c1,rfl,by
  cases c1 with
  |true=>rw[if_pos rfl];exact hb rfl _ hq
  |false=>rw[if_neg G5];exact hq⟩
theorem orT{ta tb:TTD}{δ:DS}{M:MH}{Q:Bool->MH->Prop}(c1 c2:Bool)(ha:∀K:Bool->MH->Prop,K c1 M->ta δ M K)(hb:c1=false->∀K:Bool->MH->Prop,K c2 M->tb δ M K)(hq:Q (c1||c2) M):Fl ta tb δ M Q:=
 ha _ (by
  cases c1 with
  |true=>rw[if_pos rfl];exact hq
  |false=>rw[if_neg G5];exact hb rfl _ hq)
theorem l0{ta tb:TTD}{δ:DS}{M:MH}{Q:Bool->MH->Prop}(c1 c2:Bool)(ha:∀K:Bool->MH->Prop,K c1 M->ta δ M K)(hb:c1=true->∀K:Bool->MH->Prop,K c2 M->tb δ M K)(hq:Q (c1&&c2) M):Bw ta tb δ M Q:=
 ha _ (by
  cases c1 with
  |true=>rw[if_pos rfl];exact hb rfl _ hq
  |false=>rw[if_neg G5];exact hq)
def pR(r r':R2D)(ta tb tc:TD):TD:=fun δ M Q=>ta δ M fun x M1=>tb δ M1 fun y M2=>r x y M2 fun z M3=>∃k,z=.bl k/\if k=true then tc δ M3 fun u M4=>r' y u M4 Q else Q (.bl false) M3
theorem xD{X:Cx}{a b c:Expr}{ta tb tc:TD}{pos:Pos}{op op':CmpOp}{r r':R2D}(ho:OpD X (GF op) r)(ho':OpD X (GF op') r')(ha:DE X a ta)(hb:DE X b tb)(hc:DE X c tc)
 (hm:lastMarks [op,op'] [b,c]=false:=by with_unfolding_all rfl):DE X (.Compare a [op,op'] [b,c] pos) (pR r r' ta tb tc):=
 bA (wy ho ho' ha hb hc hm) fun σ H Q z9=>by
  obtain⟨δ,M,R,hs,hM,q,fin⟩:=z9
  refine⟨δ,M,_,hs,hM,q,fun x M1 v H1 g1 r1 a1 q1=>?_⟩
  refine⟨δ,M1,_,hs.mono g1,a1,q1,fun y M2 u H2 g2 r2 a2 q2=>?_⟩
  refine⟨x,y,M2,_,r1.mono g2,r2,a2,q2,fun z M3 w H3 g3 r3 a3 zz18_0=>?_⟩
  obtain⟨k,e,q3⟩:=zz18_0
  subst e
  rw[Rep]at r3
  refine⟨k,r3,?_⟩
  cases k with
  |true=>
   rw[if_pos rfl]at q3 ⊢
   exact⟨δ,M3,_,hs.mono ((g1.trans g2).trans g3),a3,q3,fun u' M4 w' H4 g4 r4 a4 q4=>⟨y,u',M4,R,r2.mono (g3.trans g4),r4,a4,q4,fin.go (((g1.trans g2).trans g3).trans g4)⟩⟩
  |false=>
   rw[if_neg G5]at q3 ⊢
   exact fin _ _ _ _ ((g1.trans g2).trans g3) (by rw[Rep]) a3 q3
theorem aT{t u:TSD}{B:EndsD}{δ:DS}{M:MH}(W:DS->MH->Prop)(hu:∀δ' M',W δ' M'->u B δ' M')(ht:(∀δ' M',W δ' M'->u B δ' M')->t { B with nx:=u B } δ M):bM t u B δ M:=ht hu
def Sub(M' M:MH):Prop:=∀a o,M' a=some o->M a=some o
def pM(r:Addr)(M' M:MH):Prop:=∀a o,a≠r->M' a=some o->M a=some o
theorem Sub.refl{M:MH}:Sub M M:=fun _ _ h=>h
theorem Sub.trans{M M1 M2:MH}(a:Sub M M1)(b:Sub M1 M2):Sub M M2:=fun x o h=>b x o (a x o h)
theorem Sub.new{M M':MH}{p:Addr}{o:MO}(hp:M p=none)(s:Sub M' M):Sub M' (au M p o):=fun a u h=>by rw[aq (fun e=>by subst e;rw[s _ _ h]at hp;cases hp)];exact s _ _ h
theorem pM.refl{M:MH}{r:Addr}:pM r M M:=fun _ _ _ h=>h
theorem pM.new{M M':MH}{r p:Addr}{o:MO}(hp:M p=none)(s:pM r M' M):pM r M' (au M p o):=fun a u ne h=>by rw[aq (fun e=>by subst e;rw[s _ _ ne h]at hp;cases hp)];exact s _ _ ne h
theorem pM.same{M M':MH}{r:Addr}{o:MO}(s:pM r M' M):pM r M' (au M r o):=fun a u ne h=>by rw[aq ne];exact s _ _ ne h
theorem Sub.ES{M M':MH}{r:Addr}{o:MO}(s:pM r M' M):Sub (au M' r o) (au M r o):=fun a u h=>by
 by_cases e:a=r
 ·subst e;rw[ag]at h ⊢;exact h
 ·rw[aq e]at h ⊢;exact s _ _ e h
inductive Ret(Q:DK)(d:D)(M:MH):Prop
 |mk (M':MH) (s:Sub M' M) (q:Q d M'):Ret Q d M
theorem rtn{Q:DK}{d:D}{M:MH}(q:Q d M):Ret Q d M:=⟨M,.refl,q⟩
abbrev SpD:=List D->MH->DK->Prop
def ib(K:cc)(sp:SpD):Sp:=fun vs H Q _=>∃ds M R,aJ K H ds vs/\Abs K H M/\sp ds M R/\Fin K H R Q
def Cal(P:GC)(w:Hd)(K:cc)(mg:Str->Option G0)(base:Heap)(k:Nat)(x:Str)(sp:SpD):Prop:=
 ∃f fd ps,FnOk P w K mg base CX0 k f fd ps (ib K sp)/\mg x=some (.ref f)/\ID K (.ref f)=true/\Binds K fd ps []
theorem Cal.mono{P:GC}{w:Hd}{K:cc}{mg:Str->Option G0}{base:Heap}{j k:Nat}{x:Str}{sp:SpD}(h:Cal P w K mg base j x sp)(l:j<=k):Cal P w K mg base k x sp:=let⟨f,fd,ps,F,r⟩:=h;⟨f,fd,ps,F.mono l,r⟩
section
variable{X:Cx}{k:Nat}{x:Str}{sp:SpD}{p pos:Pos}{e:Expr}{es:List Expr}{t:TAD}
def Dz(sp:SpD)(t:TAD):TD:=fun δ M Q=>t δ M fun ds M1=>sp ds M1 Q
theorem ak(C:Cal X.prog X.w X.K X.mg X.base k x sp)(hr:Room k X.A)(ha:DA X (e::es) t)(hg:Gl X x:=by rfl)(hdb:(x==("__debug__":Str))=false:=by decide)
 (he:Gx (e::es) X.env=(false,eval e X.env)::Gx es X.env:=by rfl) (hpl:(Ik pos (Gx es X.env)).any (·.1)=false:=by rfl):DE X (.Call (.Name x p) (e::es) [] pos) (Dz sp t):=by
 obtain⟨f,fd,ps,F,hm,hk,hb⟩:=C
 refine bA (zJ F hr hg hm hk hb .nil DF ha hdb he hpl) fun σ H Q zz19_0=>?_
 obtain⟨δ,M,R,hs,hM,q,fin⟩:=zz19_0
 refine⟨δ,M,_,hs,hM,q,fun ds M1 vs H1 g1 r1 a1 q1=>?_⟩
 show ib X.K sp (vs++[]) H1 Q E0
 rw[Iq]
 exact⟨ds,M1,R,r1,a1,q1,fin.go g1⟩
end
def fP(N:List Str)(ds:List D):DS:=ds.map some++J0 (N.length-ds.length) none
section
variable{P:GC}{w:Hd}{K:cc}{mg:Str->Option G0}{base:Heap}
theorem fnD{x qual:Str}{st:Stmt}{f:Addr}{fd:IC}{N ps:List Str}{k:Nat}{sp:SpD}(F:Fun K x qual st f fd)(S:FnScope N ps (ao st))(len:∀ds M Q,sp ds M Q->ds.length=ps.length)
 (hbody:∀X:Cx,X.prog=P->True) (body:∀(cdv:G0) (A:He) (outer:List Env) (s:G3) (H:Hp) (E:XK),Room k (A.deeper (envOfC qual (ao st) s.heap.objs.size f cdv))->
  ∃t,DSs (bI CX0 P w K mg base N qual (ao st) f cdv A outer s H E).nox (bw st) t/\∀ds M Q,sp ds M Q->t { nx:=fun _ M'=>Ret Q .non M',rt:=Ret Q } (fP N ds) M):FnOk P w K mg base CX0 (k+1) f fd ps (ib K sp):=by
 refine F.ok S (fun vs H Q E zz20_0=>by obtain⟨ds,M,R,rs,_,q,_⟩:=zz20_0;rw[<-rs.length];exact len _ _ _ q) fun cdv A outer s H vs Q E hr zz21_0=>?_
 obtain⟨ds,M,R,rs,a,q,fin⟩:=zz21_0
 obtain⟨t,h,hq⟩:=body cdv A outer s H E hr
 refine⟨_,h,fP N ds,M,jO rs,a,{ nx:=fun _ M'=>Ret R .non M',rt:=Ret R },⟨fun δ' M' σ' H' g s' a' q'=>?_,fun d M' v H' g r a' zz22_0=>by obtain⟨M2,s2,q'⟩:=zz22_0;exact(fin _ _ _ _ g r (a'.sub s2) q'),fun _ _ _ _ _ _ _ z=>z,fun _ _ _ _ _ _ _ z=>z⟩,hq ds M R q⟩
 obtain⟨M2,s2,q'⟩:=q'
 exact fin .non M2 .non H' g (by rw[Rep]) (a'.sub s2) q'
def Txt(K:cc)(mg:Str->Option G0)(x:Str)(st:Stmt):Prop:=∃f fd,Fun K x x st f fd/\mg x=some (.ref f)
theorem Txt.mk{h:Heap}{x:Str}{st:Stmt}{f:Addr}{oc:G0}{od an:Option Addr}{osl:Array (Option G0)}{kV doc pm cdv ct:G0}(X:K.In h)(G:h.Ns Hb mg)(a:Hr K Hb x=some (some (.ref f))) (l:K.lookup f=some ⟨oc,od,.func (Ie x x (b7 st) (bw st) (ao st) .none kV doc pm an cdv ct),osl⟩) (c:PySem.W.codeIn K cdv x=true) (k:ID K (.ref f)=true):Txt K mg x st:=⟨f,_,yi l c k,PySem.W.mg_of X G a⟩
theorem vn{x:Str}{st:Stmt}{N ps:List Str}{k:Nat}{sp:SpD}(T:Txt K mg x st)(S:FnScope N ps (ao st))
 (hb:∀(kV doc pm:G0) (an:Option Addr) (cdv ct:G0) (us:List G0),us.length=ps.length->bindArgs (Ie x x (b7 st) (bw st) (ao st) .none kV doc pm an cdv ct) ⟨us,[]⟩=pure (ps.zip us))
 (len:∀ds M Q,sp ds M Q->ds.length=ps.length)
 (body:∀(f:Addr) (cdv:G0) (A:He) (outer:List Env) (s:G3) (H:Hp) (E:XK),Room k (A.deeper (envOfC x (ao st) s.heap.objs.size f cdv))->
  ∃t,DSs (bI CX0 P w K mg base N x (ao st) f cdv A outer s H E).nox (bw st) t/\∀ds M Q,sp ds M Q->t { nx:=fun _ M'=>Ret Q .non M',rt:=Ret Q } (fP N ds) M):Cal P w K mg base (k+1) x sp:=by
 obtain⟨f,fd,F,hm⟩:=T
 exact⟨f,fd,ps,fnD F S len (fun _ _=>trivial) (body f),hm,F.kp,F.binds hb⟩
end
theorem ot:Hj "abs"=some (.builtin "abs"):=by decide +kernel
theorem yY:Hj "max"=some (.builtin "max"):=by decide +kernel
theorem yz:Hj "min"=some (.builtin "min"):=by decide +kernel
theorem cI:Hj "len"=some (.builtin "len"):=by decide +kernel
theorem xI:Hj "all"=some (.builtin "all"):=by decide +kernel
theorem bB:Hj "isinstance"=some (.builtin "isinstance"):=by decide +kernel
theorem iZ:Hj "tuple"=some (.type "tuple"):=by decide +kernel
theorem Az:Hj "list"=some (.type "list"):=by decide +kernel
theorem de:Hj "int"=some (.type "int"):=by decide +kernel
theorem yM:Hj "str"=some (.type "str"):=by decide +kernel
section
variable{P:GC}{w:Hd}{K:cc}{mg:Str->Option G0}
theorem FA{x:Str}{st:Stmt}{N:List Str}{p:Str}{k:Nat}{sp:SpD}{fa:Addr}(T:Txt K mg x st)(hfa:mg x=some (.ref fa))(S:FnScope N [p] (ao st))
 (hb:∀(kV doc pm:G0) (an:Option Addr) (cdv ct:G0) (us:List G0),us.length=[p].length->bindArgs (Ie x x (b7 st) (bw st) (ao st) .none kV doc pm an cdv ct) ⟨us,[]⟩=pure ([p].zip us))
 (len:∀ds M Q,sp ds M Q->ds.length=[p].length)
 (body:∀(base:Heap) (f:Addr) (cdv:G0) (A:He) (outer:List Env) (s:G3) (H:Hp) (E:XK),Room k (A.deeper (envOfC x (ao st) s.heap.objs.size f cdv))->
  ∃t,DSs (bI CX0 P w K mg base N x (ao st) f cdv A outer s H E).nox (bw st) t/\∀ds M Q,sp ds M Q->t { nx:=fun _ M'=>Ret Q .non M',rt:=Ret Q } (fP N ds) M) :
 ∃fd,(∀(s:G3) (u:G0),BindsTo s fd ⟨[u],[]⟩ [(p,u)])/\∀base:Heap,FnOk P w K mg base CX0 (k+1) fa fd [p] (ib K sp):=by
 obtain⟨f,fd,F,hm⟩:=T
 have e:=hfa.symm.trans hm
 cases e
 refine⟨fd,fun s u=>?_,fun base=>fnD F S len (fun _ _=>trivial) (body base _)⟩
 obtain⟨oc,od,kV,doc,pm,an,cdv,ct,osl,rfl,lk,hcd⟩:=F.ex
 exact .of_eq (hb kV doc pm an cdv ct [u] rfl)
end
theorem xm{l:PySem.W.OpenLaw}{k:Nat}{q:GC}{loose:List Str}{XP:(Str->Option G0)->Heap->Prop}{YP:Hd->Heap->Prop}{d:DefRec}{K:Gq->cc}{sp:SpD}{x:Str}
 (hn:l.most=some 63) (hdf:d.params.defaults=[]) (hr:Room k callerA)
 (hY:∀(w:Hd) (h:Heap),YP w h->(K w.params).In h)
 (F:∀(w:Hd) (mg:Str->Option G0) (fa:Addr) (h:Heap),(K w.params).In h->h.Ns Hb mg->mg d.name=some (.ref fa)->
  ∃fd:IC,(∀(s:G3) (u:G0),BindsTo s fd ⟨[u],[]⟩ [(x,u)])/\
   ∀base:Heap,FnOk l.prog w (K w.params) mg base CX0 k fa fd [x] (ib (K w.params) sp))
 (hsp:∀(ns:List Int) (M:MH),ns.length<=63->sp [.rol (ns.map D.int)] M (fun d _=>d=.bl true)) :
 PySem.W.WalkO q loose XP YP l.row.toRowW d [] (fun f vs=>PySem.call f vs):=by
 refine zr (x:=x) (n:=63) (CX:=fun _=>CX0) (sp:=fun w=>ib (K w.params) sp) hn (by decide) hdf hr hY (fun w mg fa h a b c=>?_) (fun w H a ns hl hO hS=>?_) fun _ _ _ _ _ z=>z
 ·obtain⟨fd,h1,h2⟩:=F w mg fa h a b c
  exact⟨fd,h1,fun base _ _=>h2 base⟩
 ·have hF:SqF (K w.params) H a (ns.map V.int):=by
   rcases hS with(z|z)|z
   ·rcases hO a with y|⟨o,xs,y⟩
    ·rw[z]at y;cases y
    ·rw[z]at y;cases y
   ·exact .inl z
   ·exact .inr z
  refine⟨[.rol (ns.map D.int)],fun _=>none,_,.cons (by rw[Rep];exact⟨a,_,rfl,hF,mU ns⟩) .nil,(fun _ _ e=>nomatch e:Abs (K w.params) H fun _=>none),hsp ns _ hl,fun d M' v H' g r a' e=>?_⟩
  subst e
  rw[Rep]at r
  exact r
end SD
namespace Ma
open PySem PySem.Spec PyProof.Rows L2 SD
abbrev fr(q:Rat):D:=.tup [.int q.num,.int (q.den:Int)]
theorem den_pos(q:Rat):(0:Int)<(q.den:Int):=by have:=q.den_pos;omega
def Bq(n:Nat)(q:Rat):Prop:=Bd n q.num/\Bd n (q.den:Int)
theorem Bq.mono{m n:Nat}{q:Rat}(h:Bq m q)(l:m<=n):Bq n q:=⟨h.1.mono l,h.2.mono l⟩
theorem qv{t b:Int}(hb:0<b):t.fdiv b=t/b:=Int.fdiv_eq_ediv_of_nonneg _ (by omega)
theorem fdiv_neg{t b:Int}(hd:b ∣ t)(hb:0<b):t.fdiv (-b)=-(t/b):=by
 obtain⟨c,rfl⟩:=hd;have hb':b≠0:=by omega
 rw[Int.mul_ediv_cancel_left _ hb'];have:b*c=-b * -c:=by rw[Int.neg_mul_neg]
 rw[this];exact Int.mul_fdiv_cancel_left _ (by omega)
theorem tH(t b:Int):((Nat.gcd t.natAbs b.natAbs:Nat):Int) ∣ t:=Int.ofNat_dvd_left.mpr (Nat.gcd_dvd_left _ _)
theorem tw(t b:Int):((Nat.gcd t.natAbs b.natAbs:Nat):Int) ∣ b:=Int.ofNat_dvd_left.mpr (Nat.gcd_dvd_right _ _)
theorem nV(t b:Int):Int.gcd b t=Nat.gcd t.natAbs b.natAbs:=by unfold Int.gcd;exact Nat.gcd_comm _ _
theorem uk{t b:Int}(hb:b≠0):0<Nat.gcd t.natAbs b.natAbs:=Nat.gcd_pos_of_pos_right _ (by omega)
theorem uG{t b:Int}(hb:0<b):t.fdiv (Nat.gcd t.natAbs b.natAbs:Nat)=(Rat.divInt t b).num/\b.fdiv (Nat.gcd t.natAbs b.natAbs:Nat)=((Rat.divInt t b).den:Int):=by
 have hg:=uk (t:=t) (b:=b) (by omega);rw[qv (by omega),qv (by omega),Rat.num_divInt,Rat.den_divInt,if_neg (by omega),GY hb,Int.one_mul,nV];refine⟨rfl,?_⟩;rw[Int.natCast_ediv]
 congr 1
 omega
theorem tY{t b:Int}(hb:b<0):t.fdiv (-((Nat.gcd t.natAbs b.natAbs:Nat):Int))=(Rat.divInt t b).num/\b.fdiv (-((Nat.gcd t.natAbs b.natAbs:Nat):Int))=((Rat.divInt t b).den:Int):=by
 have hg:=uk (t:=t) (b:=b) (by omega);rw[fdiv_neg (tH t b) (by omega),fdiv_neg (tw t b) (by omega),Rat.num_divInt,Rat.den_divInt,if_neg (by omega),GK hb,nV];constructor
 ·rw[show(-1:Int)*t=-t from by omega,Int.neg_ediv_of_dvd (tH t b)]
 ·rw[Int.natCast_ediv,show((b.natAbs:Nat):Int)=-b from by omega,Int.neg_ediv_of_dvd (tw t b)]
theorem kT{t b:Int}(hb:b≠0):(Rat.divInt t b).num.natAbs<=t.natAbs/\(Rat.divInt t b).den<=b.natAbs:=by
 constructor
 ·rw[Rat.num_divInt];refine Gy (Int.natAbs_ediv_le_natAbs _ _) ?_;rw[Int.natAbs_mul];rcases Ht b 0 with h|h|h
  ·rw[GK h];simp
  ·exact absurd h hb
  ·rw[GY h];simp
 ·rw[Rat.den_divInt,if_neg hb];exact Nat.div_le_self _ _
theorem Bq.divInt{n:Nat}{t b:Int}(hb:b≠0)(h1:Bd n t)(h2:Bd n b):Bq n (Rat.divInt t b):=by obtain⟨a1,a2⟩:=kT (t:=t) hb;exact⟨Nat.lt_of_le_of_lt a1 h1,Nat.lt_of_le_of_lt (by simpa using a2) h2⟩
theorem tI(x y:Nat):Int.fmod (x:Int) (y:Int)=((x%y:Nat):Int):=by rw[Int.fmod_eq_emod_of_nonneg _ (by omega)];rfl
theorem lR(q r:Rat):Hc (.tuple [.int q.num,.int (q.den:Int)]) (.tuple [.int r.num,.int (r.den:Int)])=decide (q=r):=by
 simp only[Hc,GV,Bool.and_true];by_cases h:q=r
 ·subst h;simp
 ·rw[decide_eq_false h];rw[Bool.eq_false_iff];intro z;rw[GG,beq_iff_eq,beq_iff_eq]at z;exact h (Rat.ext z.1 (by have:=z.2;omega))
theorem A8(q r:Rat):decide (q.num*(r.den:Int)<r.num*(q.den:Int))=decide (q<r):=by rw[decide_eq_decide,Rat.lt_iff]
abbrev spt(a b:Rat):D:=.tup [fr a,fr b]
theorem gX(a b c d:Rat):Hc (.tuple [.tuple [.int a.num,.int (a.den:Int)],.tuple [.int b.num,.int (b.den:Int)]]) (.tuple [.tuple [.int c.num,.int (c.den:Int)],.tuple [.int d.num,.int (d.den:Int)]])=decide (a=c/\b=d):=by rw[Hc,GV,GV,GV,lR,lR,Bool.and_true,Bool.decide_and]
theorem eR(q:Rat):(q.den:Int)≠0:=by have:=q.den_pos;omega
theorem add_eq(q r:Rat):Rat.divInt (q.num*(r.den:Int)+r.num*(q.den:Int)) ((q.den:Int)*(r.den:Int))=q+r:=by rw[<-Rat.divInt_add_divInt _ _ (eR q) (eR r),Ho,Ho]
theorem sub_eq(q r:Rat):Rat.divInt (q.num*(r.den:Int)-r.num*(q.den:Int)) ((q.den:Int)*(r.den:Int))=q-r:=by rw[<-Rat.divInt_sub_divInt _ _ (eR q) (eR r),Ho,Ho]
theorem mul_eq(q r:Rat):Rat.divInt (q.num*r.num) ((q.den:Int)*(r.den:Int))=q*r:=by rw[<-Rat.divInt_mul_divInt,Ho,Ho]
theorem div_eq(q r:Rat):Rat.divInt (q.num*(r.den:Int)) ((q.den:Int)*r.num)=q/r:=by rw[<-Rat.divInt_mul_divInt,Ho,<-Rat.inv_divInt,Ho,Rat.div_def]
theorem jf(q r:Rat):(q.den:Int)*(r.den:Int)≠0:=Int.mul_ne_zero (eR q) (eR r)
theorem Bq.EG{n:Nat}{q r:Rat}(a:Bq n q)(b:Bq n r):Bd (2*n+1) (q.num*(r.den:Int)+r.num*(q.den:Int)):=((a.1.mul b.2).add (b.1.mul a.2)).mono (by omega)
theorem Bq.gZ{n:Nat}{q r:Rat}(a:Bq n q)(b:Bq n r):Bd (2*n+1) (q.num*(r.den:Int)-r.num*(q.den:Int)):=((a.1.mul b.2).sub (b.1.mul a.2)).mono (by omega)
theorem Bq.ED{n:Nat}{q r:Rat}(a:Bq n q)(b:Bq n r):Bd (2*n+1) (q.num*r.num):=(a.1.mul b.1).mono (by omega)
theorem Bq.tU{n:Nat}{q r:Rat}(a:Bq n q)(b:Bq n r):Bd (2*n+1) ((q.den:Int)*(r.den:Int)):=(a.2.mul b.2).mono (by omega)
theorem Bq.sub{n:Nat}{q r:Rat}(a:Bq n q)(b:Bq n r):Bq (2*n+1) (q-r):=by rw[<-sub_eq];exact .divInt (jf q r) (a.gZ b) (a.tU b)
theorem Bq.mOk{n:Nat}{q r:Rat}(a:Bq n q)(b:Bq n r)(h:n<=8000):IntMulOk q.num r.num/\IntMulOk q.num (r.den:Int)/\IntMulOk r.num (q.den:Int)/\IntMulOk (q.den:Int) (r.den:Int):=
 have m:∀{i:Int},Bd n i->Bd 1000000 i:=fun z=>z.mono (by omega)
 ⟨cQ (m a.1) (m b.1),cQ (m a.1) (m b.2),cQ (m b.1) (m a.2),cQ (m a.2) (m b.2)⟩
def sgn(z:Rat):Int:=if 0<z then 1 else if z<0 then -1 else 0
def cr(a b c d x y:Rat):Rat:=(c-a)*(y-b)-(d-b)*(x-a)
abbrev wll(a b c d:Rat):D:=.tup [spt a b,spt c d]
def ah(a b c d:Rat):Prop:=a<c\/a=c/\b<d
instance(a b c d:Rat):Decidable (ah a b c d):=inferInstanceAs (Decidable (_\/_))
theorem pos_int{i:Int}(h:0<i):(0:Rat)<(i:Rat):=by rw[Rat.lt_iff];simpa using h
theorem pick{xs:List Int}{v:Int}(h0:0<=v)(h1:v<xs.length){P:Int->Prop}(h:∀m∈xs,P m):∃m,atI (xs.map D.int) v=some (.int m)/\P m:=by
 obtain⟨j,rfl⟩:∃j:Nat,v=(j:Int):=⟨v.toNat,by omega⟩;have hj:j<xs.length:=by omega
 exact⟨xs[j],fL (by simp[hj]),h _ (List.getElem_mem hj)⟩
theorem uM{i:Int}(h1:-(10^31)<=i)(h2:i<=10^31):Bd 110 i:=by show i.natAbs<2^110;omega
end Ma
namespace SD
open PySem PySem.Spec PyProof.Rows L2
def gf(names:List (Str×IS))(env:Env):List (Str×Addr):=(names.filter fun y=>y.2==.free).reverse.map fun y=>(y.1,(env.cells.lookup y.1).getD 0)
theorem rz{scope:Jb}{env:Env}(h:∀y∈scope.names,y.2=.free->∃c,env.cells.lookup y.1=some c):closureFor scope env=pure (gf scope.names env):=by
 have key:∀(names:List (Str×IS)) (acc:List (Str×Addr)),(∀y∈names,y.2=.free->∃c,env.cells.lookup y.1=some c)->
  (forIn names acc (fun(x:Str×IS) (r:List (Str×Addr))=>if(x.2==IW)=true then do let a <-cellOf env x.1;pure (ForInStep.yield ((x.1,a)::r))else pure (ForInStep.yield r)):Sem (List (Str×Addr)))=pure (gf names env++acc):=by
  intro names
  induction names with
  |nil=>intro acc _;rfl
  |cons y ys ih=>
   intro acc hy
   obtain⟨n,k⟩:=y
   rw[List.forIn_cons]
   by_cases hk:(k==IW)=true
   ·obtain⟨c,hc⟩:=hy (n,k) (GR ..) (by simpa using hk)
    have e1:cellOf env n=pure c:=by unfold cellOf;rw[hc]
    dsimp only
    rw[if_pos hk,e1]
    simp only[pure_bind]
    rw[ih _ fun y hm=>hy y (Gr _ hm)]
    unfold gf
    rw[List.filter_cons_of_pos (by simpa using hk),Jd,HJ,List.append_assoc]
    simp[hc]
   ·dsimp only
    rw[if_neg hk]
    simp only[pure_bind]
    rw[ih _ fun y hm=>hy y (Gr _ hm)]
    unfold gf
    rw[List.filter_cons_of_neg (by simpa using hk)]
 have:=key scope.names [] h;rw[Iq]at this;unfold closureFor;exact Eq.trans (congrArg (fun t:Sem (List (Str×Addr))=>t >>= fun cs=>pure cs) this) rfl
theorem pX{env:Env}{y:Str}{c:Addr}:∀{names:List (Str×IS)},(∀z∈names,z.2=.free->∃c,env.cells.lookup z.1=some c)->(gf names env).lookup y=some c->env.cells.lookup y=some c:=by intro names h e;have hm:=Hh e;unfold gf at hm;obtain⟨z,hz,e2⟩:=Ig.mp hm;rw[List.mem_reverse,List.mem_filter]at hz;obtain⟨c',hc⟩:=h z hz.1 (by simpa using hz.2);rw[hc]at e2;cases e2;exact hc
theorem qP{env:Env}{y:Str}{names:List (Str×IS)}(hm:(y,IW)∈names):∃c,(gf names env).lookup y=some c:=by
 cases e:(gf names env).lookup y with
 |some c=>exact⟨c,rfl⟩
 |none=>
  have:=List.lookup_eq_none_iff.mp e (y,(env.cells.lookup y).getD 0) (Ig.mpr ⟨(y,.free),List.mem_reverse.mpr (List.mem_filter.mpr ⟨hm,rfl⟩),rfl⟩)
  simp at this
theorem gz{env:Env}(hk:env.scope.kind=.function):∀{names:List (Str×IS)} {y:Str} {k:IS},
 (names.map fun(n,k)=>if(k==IW&&env.scope.kind==.function&&env.kindOf n==some .cell)then(n,NameKind.cell)else(n,k)).lookup y=some k->
  names.lookup y=some k\/(k=.cell/\names.lookup y=some .free)
 |[],_,_,h=>by simp at h
 |(n,q)::r,y,k,h=>by
  have ih:=@gz env hk r y k
  rw[GH]at h
  dsimp only at h
  by_cases hy:(y==n)=true
  ·by_cases hc:(q==IW&&env.scope.kind==.function&&env.kindOf n==some .cell)=true
   ·rw[if_pos hc,HR,hy]at h
    have hf:q=.free:=by
     rw[GG,GG]at hc
     simpa using hc.1.1
    cases h
    right
    exact⟨rfl,by rw[HR,hy,hf]⟩
   ·rw[if_neg hc,HR,hy]at h
    left
    rw[HR,hy];exact h
  ·have hy':(y==n)=false:=by simpa using hy
   have h':(r.map fun(n,k)=>if(k==IW&&env.scope.kind==.function&&env.kindOf n==some .cell)then(n,NameKind.cell)else(n,k)).lookup y=some k:=by
    split at h
    ·rw[HR,hy']at h;exact h
    ·rw[HR,hy']at h;exact h
   rw[HR,hy']
   exact ih h'
theorem oK{X:Cx}{tg iter:Expr}{wi wi':TI}(h:PI X tg iter wi)(k:∀σ H R,wi' σ H R->wi σ H R):PI X tg iter wi':=fun pins s σ H R I q=>h pins s σ H R I (k _ _ _ q)
def Fp(K:cc)(tl:TE):TI:=fun σ H R=>tl σ H fun x H1=>∃a,x=.ref a/\(((∃xs,SqL K H1 a xs)/\R (Itl K a) H1)\/((∃xs,SqT K H1 a xs)/\R (Itt K a) H1))
theorem Cv{X:Cx}{tg l:Expr}{tl:TE}(hl:PE X l tl):PI X tg l (Fp X.K tl):=by
 intro pins s σ H R I h;refine thn (hl pins s σ H _ I h) fun v s1 zz1_0=>?_;obtain⟨x,H1,I1,r1,q1⟩:=zz1_0;obtain⟨a,e,z⟩:=q1;subst e;cases r1
 have fp:∀b∈[s1.heap.objs.size],gp X pins H1 b:=fun b hb=>by
  obtain rfl:b=s1.heap.objs.size:=by simpa using hb
  exact I1.wR (G9 _) (I1.hok.fresh (G9 _))
 rcases z with⟨⟨xs,hq⟩,q⟩|⟨⟨xs,hq⟩,q⟩
 ·obtain⟨its,rv,p,hz⟩:=I1.list hq;exact wpAny_pyIter_list p.isList ⟨_,[s1.heap.objs.size],_,_,H1,rfl,I1.kept (t':=s1.toks) fun b o e=>G4 _ e,vL a _,⟨_,GB _ rfl,rfl,rfl⟩,fp,q⟩
 ·obtain⟨its,rv,p,hz⟩:=I1.tuple hq;exact wpAny_pyIter_tuple (show s1.heap.IsTuple a its.toArray from p) ⟨_,[s1.heap.objs.size],_,_,H1,rfl,I1.kept (t':=s1.toks) fun b o e=>G4 _ e,rV a _,⟨_,GB _ rfl,rfl,rfl⟩,fp,q⟩
structure ItD where
 n:Nat
 item:Nat->Option D
 C:MH->Prop
abbrev TID:=DS->MH->(ItD->MH->Prop)->Prop
structure ItOk(K:cc)(H1:Hp)(I:ItD)(J:It):Prop where
 stop:∀H2 M2,Grow K H1 H2->Abs K H2 M2->I.C M2->J.stop I.n H2
 go:∀i H2 M2,i<I.n->Grow K H1 H2->Abs K H2 M2->I.C M2->J.go i H2
 yld:∀i H2 M2 v H3,i<I.n->Grow K H1 H2->Abs K H2 M2->I.C M2->J.yld i H2 v H3->Grow K H2 H3/\Abs K H3 M2/\∃d,I.item i=some d/\Rep K H3 d v
def A7(K:cc)(t:TID):TI:=fun σ H R=>∃δ M RD,Slots K H δ σ/\Abs K H M/\t δ M RD/\∀I M' H' J,Grow K H H'->Abs K H' M'->RD I M'->ItOk K H' I J->R J H'
def DI(X:Cx)(tg iter:Expr)(t:TID):Prop:=PI X tg iter (A7 X.K t)
def yf(M:MH):D->List D->Prop
 |.tup ds,es=>es=ds
 |.rol ds,es=>es=ds
 |.ref a,es=>M a=some (.lst es)
 |_,_=>False
inductive Rn1(ds:List D)(M:MH)(R:ItD->MH->Prop):Prop
 |mk (n:Nat) (h:ds=[.int (n:Int)]) (q:n<2^60/\R ⟨n,fun i=>some (.int (i:Int)),fun _=>True⟩ M):Rn1 ds M R
inductive Sq1(d:D)(M:MH)(R:ItD->MH->Prop):Prop
 |mk (ds:List D) (h:yf M d ds) (q:R ⟨ds.length,fun i=>ds[i]?,fun M=>yf M d ds⟩ M):Sq1 d M R
def EU(ta:TAD):TID:=fun δ M R=>ta δ M fun ds M1=>Rn1 ds M1 R
def Gh(tl:TD):TID:=fun δ M R=>tl δ M fun d M1=>Sq1 d M1 R
section
variable{X:Cx}{tg:Expr}
theorem ng{a:Expr}{ta:TAD}{p pos:Pos}(hg:Gl X "range")(hm:X.mg "range"=none)(ha:DA X [a] ta)(hs:Gx [a] X.env=[(false,eval a X.env)]:=by rfl):DI X tg (.Call (.Name "range" p) [a] [] pos) (EU ta):=
 oK (m5 hg hm ha hs) fun σ H R ⟨δ,M,RD,hs,hM,q,fin⟩=>⟨δ,M,_,hs,hM,q,fun ds M1 vs H1 g1 r1 a1 z9=>by
  obtain⟨n,e,hn,q1⟩:=z9
  subst e
  obtain⟨v,rfl,r⟩:=b4 r1
  rw[Rep]at r;subst r
  refine⟨(n:Int),rfl,by omega,by omega,fin _ M1 H1 _ g1 a1 q1 ⟨fun _ _ _ _ _=>by show((n:Int)).toNat<=n;simp,fun i _ _ hi _ _ _=>by show i<((n:Int)).toNat;simpa using hi,?_⟩⟩
  rintro i H2 M2 v H3 hi g2 a2 _ ⟨rfl,rfl⟩
  exact⟨.refl,a2,_,rfl,by rw[Rep];simp⟩⟩
theorem cB{l:Expr}{tl:TD}(hl:DE X l tl):DI X tg l (Gh tl):=
 oK (Cv hl) fun σ H R ⟨δ,M,RD,hs,hM,q,fin⟩=>⟨δ,M,_,hs,hM,q,fun d M1 v H1 g1 r1 a1 z9=>by
  obtain⟨ds,sq,q1⟩:=z9
  cases d with
  |tup es=>
   obtain rfl:ds=es:=sq
   rw[Rep]at r1
   obtain⟨a,xs,rfl,hq,rs⟩:=r1
   refine⟨a,rfl,.inr ⟨⟨xs,hq⟩,fin _ M1 H1 _ g1 a1 q1 ⟨fun H2 _ g2 _ _=>⟨xs,g2.t _ _ hq,by rw[rs.length];exact G9 _⟩,fun i H2 _ hi g2 _ _=>?_,?_⟩⟩⟩
   ·have hi':i<xs.length:=by rw[<-rs.length];exact hi
    exact⟨xs,xs[i],g2.t _ _ hq,by simp[hi']⟩
   ·rintro i H2 M2 v H3 hi g2 a2 _ ⟨rfl,hy⟩
    have hi:i<ds.length:=hi
    obtain⟨x,e1,e2⟩:=(rs.mono g2).get (show ds[i]?=some ds[i] by simp[hi])
    have:=hy xs (g2.t _ _ hq)
    rw[e1]at this;cases this
    exact⟨.refl,a2,_,by simp[hi],e2⟩
  |rol es=>
   obtain rfl:ds=es:=sq
   rw[Rep]at r1
   obtain⟨a,xs,rfl,hq,rs⟩:=r1
   refine⟨a,rfl,.inl ⟨⟨xs,hq.sql⟩,fin _ M1 H1 _ g1 a1 q1 ⟨fun H2 _ g2 _ _=>⟨xs,(g2.f _ _ hq).sql,by rw[rs.length];exact G9 _⟩,fun i H2 _ hi g2 _ _=>?_,?_⟩⟩⟩
   ·have hi':i<xs.length:=by rw[<-rs.length];exact hi
    exact⟨xs,xs[i],(g2.f _ _ hq).sql,by simp[hi']⟩
   ·rintro i H2 M2 v H3 hi g2 a2 _ ⟨rfl,hy⟩
    have hi:i<ds.length:=hi
    obtain⟨x,e1,e2⟩:=(rs.mono g2).get (show ds[i]?=some ds[i] by simp[hi])
    have:=hy xs (g2.f _ _ hq).sql
    rw[e1]at this;cases this
    exact⟨.refl,a2,_,by simp[hi],e2⟩
  |ref a=>
   rw[Rep]at r1;subst r1
   obtain⟨xs,hx,rs⟩:=a1 _ _ (show M1 a=some (.lst ds)from sq)
   refine⟨a,rfl,.inl ⟨⟨xs,SqL.of hx⟩,fin _ M1 H1 _ g1 a1 q1 ⟨fun H2 M2 g2 a2 c2=>?_,fun i H2 M2 hi g2 a2 c2=>?_,?_⟩⟩⟩
   ·obtain⟨ys,hy,ry⟩:=a2 _ _ (show M2 a=some (.lst ds)from c2)
    exact⟨ys,SqL.of hy,by rw[ry.length];exact G9 _⟩
   ·obtain⟨ys,hy,ry⟩:=a2 _ _ (show M2 a=some (.lst ds)from c2)
    have hi':i<ys.length:=by rw[<-ry.length];exact hi
    exact⟨ys,ys[i],SqL.of hy,by simp[hi']⟩
   ·rintro i H2 M2 v H3 hi g2 a2 c2 ⟨rfl,hy⟩
    have hi:i<ds.length:=hi
    obtain⟨ys,hys,ry⟩:=a2 _ _ (show M2 a=some (.lst ds)from c2)
    obtain⟨x,e1,e2⟩:=ry.get (show ds[i]?=some ds[i] by simp[hi])
    have:=hy ys (SqL.of hys)
    rw[e1]at this;cases this
    exact⟨.refl,a2,_,by simp[hi],e2⟩
  |_=>exact sq.elim⟩
inductive ForD(g:TGD)(tb:TSD)(B:EndsD)(I:ItD)(δ0:DS)(M0:MH):Prop
 |mk (W:Nat->DS->MH->Prop) (w0:W 0 δ0 M0) (hC:∀i δ M,i<=I.n->W i δ M->I.C M) (turn:∀i d δ M,i<I.n->I.item i=some d->W i δ M->g d δ M fun δ2 M2=>tb { B with nx:=W (i+1),ct:=W (i+1),bk:=B.nx } δ2 M2) (done:∀δ M,W I.n δ M->B.nx δ M):ForD g tb B I δ0 M0
def EN(wd:TID)(g:TGD)(tb:TSD):TSD:=fun B δ M=>wd δ M fun I M1=>ForD g tb B I δ M1
theorem ft{iter:Expr}{body:List Stmt}{wd:TID}{g:TGD}{tb:TSD}{pos:Pos}(hp:PassesOwn (GD X.prog X.w) X.A X.env X.xe)(hc:X.calm=true)(hi:DI X tg iter wd)(hG:DG X tg g)(hb:DSs X body tb)
 (hf:∀x,HZ iter X.env x=pure x:=by intro _;rfl):DSt X (.For tg iter body [] pos) (EN wd g tb):=
 dg (xH hp hc hi hG hb hf) fun E σ H ⟨δ,M,hs,a,B,ok,q⟩=>⟨δ,M,_,hs,a,q,fun I M1 H1 J g1 a1 z9 io=>by
  obtain⟨W,w0,hC,turn,done⟩:=z9
  refine⟨fun i m σ H2=>m=I.n-i/\i<=I.n/\Grow X.K H1 H2/\∃δ M,Slots X.K H2 δ σ/\Abs X.K H2 M/\W i δ M,⟨I.n,by simp,IU _,.refl,δ,M1,hs.mono g1,a1,w0⟩,?_⟩
  rintro i m σ H2 ⟨rfl,hi,g2,δ2,M2,s2,a2,w2⟩
  by_cases hlt:i<I.n
  ·refine .inr ⟨io.go i H2 M2 hlt g2 a2 (hC _ _ _ hi w2),fun σ' H3=>Grow X.K H1 H3/\∃δ M,Slots X.K H3 δ σ'/\Abs X.K H3 M/\W (i+1) δ M,fun σ' H3 z=>⟨I.n-(i+1),by omega,rfl,hlt,z⟩,fun x H3 y=>?_⟩
   obtain⟨g3,a3,d,ed,rd⟩:=io.yld i H2 M2 x H3 hlt g2 a2 (hC _ _ _ hi w2) y
   refine⟨d,δ2,M2,_,rd,s2.mono g3,a3,turn i d δ2 M2 hlt ed w2,fun δ4 M4 σ4 H4 g4 s4 a4 q4=>⟨δ4,M4,s4,a4,_,?_,q4⟩⟩
   have G:Grow X.K H1 H4:=(g2.trans g3).trans g4
   exact⟨fun δ' M' σ' H' g' s' a' w'=>⟨G.trans g',δ',M',s',a',w'⟩,fun d M v H' g'=>ok.rt d M v H' ((g1.trans G).trans g'),fun δ' M' σ' H' g' s' a' q'=>ok.nx _ _ _ _ ((g1.trans G).trans g') s' a' q',fun δ' M' σ' H' g' s' a' w'=>⟨G.trans g',δ',M',s',a',w'⟩⟩
  ·obtain rfl:i=I.n:=by omega
   exact .inl ⟨io.stop H2 M2 g2 a2 (hC _ _ _ hi w2),ok.nx _ _ _ _ (g1.trans g2) s2 a2 (done δ2 M2 w2)⟩⟩
end
end SD
namespace Ma
open SD
theorem kJ{a b:Int}(h:0<b):0<Rat.divInt a b↔0<a:=by
 have h1:=Rat.divInt_nonneg_iff_of_pos_right (a:=-a) h;rw[<-Rat.neg_divInt]at h1;have:¬(0<=-Rat.divInt a b)↔0<Rat.divInt a b:=by constructor<;>intro z<;>grind
 rw[<-this,h1];omega
theorem sM{a b:Int}(h:0<b):Rat.divInt a b<0↔a<0:=by
 have h1:=Rat.divInt_nonneg_iff_of_pos_right (a:=a) h;have:¬(0<=Rat.divInt a b)↔Rat.divInt a b<0:=by constructor<;>intro z<;>grind
 rw[<-this,h1];omega
theorem tV{t b:Int}(h:0<b):sgn (Rat.divInt t b)=if 0<t then 1 else if t<0 then -1 else 0:=by unfold sgn;simp only[kJ h,sM h]
theorem uI(a b c d x y:Rat) :
 Rat.divInt ((c.num*(a.den:Int)-a.num*(c.den:Int))*(y.num*(b.den:Int)-b.num*(y.den:Int))*((d.den:Int)*(b.den:Int)*((x.den:Int)*(a.den:Int))) -
  (d.num*(b.den:Int)-b.num*(d.den:Int))*(x.num*(a.den:Int)-a.num*(x.den:Int))*((c.den:Int)*(a.den:Int)*((y.den:Int)*(b.den:Int))))
  ((c.den:Int)*(a.den:Int)*((y.den:Int)*(b.den:Int))*((d.den:Int)*(b.den:Int)*((x.den:Int)*(a.den:Int))))=cr a b c d x y:=by
 rw[<-Rat.divInt_sub_divInt _ _ (Int.mul_ne_zero (jf c a) (jf y b)) (Int.mul_ne_zero (jf d b) (jf x a)),<-Rat.divInt_mul_divInt,<-Rat.divInt_mul_divInt,sub_eq,sub_eq,sub_eq,sub_eq]
 rfl
end Ma
namespace SD
open PySem PySem.Spec PyProof.Rows L2
abbrev NoE:G0->G3->Prop:=fun _ _=>False
def cN(X:Cx)(xs:List Str)(js:List Nat):List Str:=xs++js.map fun j=>(X.N[j]?).getD ("":Str)
def cσ(os:L2.St)(js:List Nat)(σ:L2.St):L2.St:=os++js.map fun j=>(σ[j]?).join
theorem cW:∀(names:List (Str×IS)) (n:Nat) (acc:List (Str×Addr)),Il n names acc=Il n names []++acc
 |[],_,_=>rfl
 |(x,k)::r,n,acc=>by
  unfold Il
  split
  ·rw[cW r (n+1) ((x,n)::acc),cW r (n+1) [(x,n)],List.append_assoc];rfl
  ·exact cW r n acc
theorem jG:∀(names:List (Str×IS)) (n:Nat) {y:Str} {c:Addr},(y,c)∈Il n names []->(y,NameKind.cell)∈names
 |[],_,_,_,h=>by cases h
 |(x,k)::r,n,y,c,h=>by
  unfold Il at h
  split at h
  ·rename_i hk
   rw[cW]at h
   rcases GS.mp h with h|h
   ·exact Gr _ (jG r _ h)
   ·have e:(y,c)=(x,n):=by simpa using h
    cases e
    obtain rfl:k=.cell:=by simpa using hk
    exact GR
  ·exact Gr _ (jG r _ h)
theorem qz{l r:List (Str×Addr)}{y:Str}{c:Addr}(h:(l++r).lookup y=some c):l.lookup y=some c\/(l.lookup y=none/\r.lookup y=some c):=by
 rw[List.lookup_append]at h;cases e:l.lookup y with
 |some c'=>rw[e]at h;exact .inl h
 |none=>rw[e]at h;exact .inr ⟨rfl,h⟩
theorem yq{env:Env}{y:Str}{c:Addr}{names:List (Str×IS)}(h:(gf names env).lookup y=some c):(y,IW)∈names:=by
 have hm:=Hh h;unfold gf at hm;obtain⟨z,hz,e⟩:=Ig.mp hm;rw[List.mem_reverse,List.mem_filter]at hz;obtain⟨n,k⟩:=z;obtain rfl:k=.free:=by simpa using hz.2
 cases e;exact hz.1
theorem fz{env:Env}{k:IS}(hk:k≠.free):∀{names:List (Str×IS)} {x:Str},names.lookup x=some k->
 (names.map fun(n,k)=>if(k==IW&&env.scope.kind==.function&&env.kindOf n==some .cell)then(n,NameKind.cell)else(n,k)).lookup x=some k
 |[],_,h=>by simp at h
 |(n,q)::r,x,h=>by
  have ih:=@fz env k hk r x
  rw[GH]
  dsimp only
  by_cases hx:(x==n)=true
  ·rw[HR,hx]at h
   cases h
   rw[if_neg (by intro z;rw[GG,GG]at z;exact hk (by simpa using z.1.1)),HR,hx]
  ·have hx':(x==n)=false:=by simpa using hx
   rw[HR,hx']at h
   split<;>(rw[HR,hx'];exact ih h)
theorem AI{M:Model}{A:He}{E:G0->G3->Prop}{s:G3}{scope:Jb}{globals:Addr}{cl:List (Str×Addr)}{qual:Str}{env:Env}{Q:Env->G3->Prop} (h:Q { scope:=scope,locals:=s.heap.objs.size,globals:=globals,cells:=Il (s.heap.objs.size+1) scope.names cl,qual:=qual,func:=none,code:=env.code,frame:=env.frame,builtins:=env.builtins } { s with heap:=pushCells (s.heap.push { cls:=.type "dict",data:=.dict #[] }) scope.names }) : GA M A (newFunctionEnv scope globals cl [] qual none .none (some env)) Q E s:=by simp only[newFunctionEnv,Option.isSome_some,if_true];refine G2 (wpAny_alloc ?_);refine G2 (wpAny_layCells _ (fun name kind cells=>by cases hkc:kind==NameKind.cell<;>simp[hkc]) _ _ _ _ ?_);rw[show({ s with heap:=s.heap.push { cls:=.type "dict",data:=.dict #[] } }:G3).heap.objs.size=s.heap.objs.size+1 from J2 ..];refine G2 ?_;rw[List.forIn_nil];exact Gw (Gw h)
def pV(scope:Jb)(C:Addr)(env:Env):Env:=
 { scope:=relabel scope env,locals:=C,globals:=env.globals,cells:=Il (C+1) scope.names (gf scope.names env),qual:=env.qual,func:=none,code:=env.code,frame:=env.frame,builtins:=env.builtins }
def cxC(X:Cx)(xs:List Str)(js:List Nat)(scope:Jb)(C:Addr)(s:G3)(H:Hp)(fp:List Addr):Cx where
 prog:=X.prog
 w:=X.w
 K:=X.K
 mg:=X.mg
 base:=X.base
 A:=X.A
 N:=cN X xs js
 s₀:=s
 H₀:=H
 env:=pV scope C X.env
 outer:=X.stack
 stack:=X.stack
 ex:=fp
 fn:=fun y=>xs.contains y
 calm:=X.calm
 pn:=[]
 xe:=fun _ _=>False
structure CScope(X:Cx)(xs:List Str)(js:List Nat)(scope:Jb):Prop where
 kind:scope.kind=.function
 cell:∀y∈scope.names,y.2=.cell->y.1∈xs
 free':∀y∈scope.names,y.2=.free->y.1∉xs
 names:∀y∈scope.names,y.2=.local->scope.names.lookup y.1=some .local
 own:∀x∈xs,scope.names.lookup x=some .local\/scope.names.lookup x=some .cell
 out:∀y∈scope.names,y.2=.free->X.env.kindOf y.1=some .cell\/X.env.kindOf y.1=some .free
 nd:(cN X xs js).Nodup
 js:∀j∈js,scope.names.lookup ((X.N[j]?).getD ("":Str))≠some .local
section
variable{X:Cx}{xs:List Str}{js:List Nat}{scope:Jb}{pins:List (Addr×Obj)}{σ:L2.St}{H:Hp}{s:G3}{fp:List Addr}
theorem CScope.cells(c:CScope X xs js scope)(ok:X.Ok):∀y∈scope.names,y.2=.free->∃a,X.env.cells.lookup y.1=some a:=fun y hy hf=>ok.has _ (c.out y hy hf)
theorem CScope.DB(c:CScope X xs js scope)(ok:X.Ok):closureFor scope X.env=pure (gf scope.names X.env):=rz (c.cells ok)
theorem CScope.kindOf(c:CScope X xs js scope)(ok:X.Ok){C:Addr}{y:Str}{k:IS}(e:(pV scope C X.env).kindOf y=some k):scope.names.lookup y=some k\/(k=.cell/\scope.names.lookup y=some .free):=gz ok.kind e
theorem yv(c:CScope X xs js scope)(I:Inv X pins σ H s)(hf:∀b∈fp,gp X pins H b)(hfp:∀b∈fp,b<s.heap.objs.size){h':Heap}(eh:h'=pushCells (s.heap.push { cls:=.type "dict",data:=.dict #[] }) scope.names)(k:∀b o,s.heap.get? b=some o->h'.get? b=some o) :
 Inv (cxC X xs js scope s.heap.objs.size s H fp) [] (cσ (J0 xs.length none) js σ) H { s with heap:=h' }:=by
 have ok:=I.ok
 have hn:h'.Ns s.heap.objs.size fun _=>none:=by rw[eh];exact(Heap.Ns.new s.heap (.type "dict")).keeps (pushCells_keeps _ _)
 have cok:CellsOk h' (s.heap.objs.size+1) (Il (s.heap.objs.size+1) scope.names []):=by
  have:=cellsFrom_ok scope.names (s.heap.push { cls:=.type "dict",data:=.dict #[] }) (s.heap.objs.size+1) [] ⟨fun _ _ hm=>(nomatch hm),List.Pairwise.nil⟩ (by rw[J2];exact G9 _)
  rw[J2]at this
  rw[eh];exact this
 have cl:∀{y:Str} {a:Addr},(gf scope.names X.env).lookup y=some a->X.env.cells.lookup y=some a:=fun e=>pX (c.cells ok) e
 have olt:∀{y:Str} {a:Addr},X.env.cells.lookup y=some a->a<s.heap.objs.size:=fun e=>by obtain⟨v,z⟩:=I.cell _ _ e;exact z.lt
 have both:∀{y:Str} {a:Addr},(pV scope s.heap.objs.size X.env).cells.lookup y=some a->((y,a)∈Il (s.heap.objs.size+1) scope.names []/\s.heap.objs.size<a)\/X.env.cells.lookup y=some a:=fun{y a} e=>by
  have e:(Il (s.heap.objs.size+1) scope.names (gf scope.names X.env)).lookup y=some a:=e
  rw[cW]at e
  rcases qz e with z|⟨_,z⟩
  ·exact .inl ⟨Hh z,(cok.empty _ _ (Hh z)).2⟩
  ·exact .inr (cl z)
 have free:∀{y:Str},(pV scope s.heap.objs.size X.env).kindOf y=some .cell\/(pV scope s.heap.objs.size X.env).kindOf y=some .free->scope.names.lookup y=some .cell\/scope.names.lookup y=some .free:=fun{y} e=>by
  rcases e with e|e
  ·rcases c.kindOf ok e with z|⟨_,z⟩
   ·exact .inl z
   ·exact .inr z
  ·rcases c.kindOf ok e with z|⟨z,_⟩
   ·exact .inr z
   ·cases z
 refine⟨⟨ok.mod,c.kind,ok.glob,ok.blt,G9 _,fun y z a h1 h2=>?_,fun y hy=>?_,fun y a h e=>?_,ok.hd,ok.frames,.inl rfl,fun b hb=>⟨GZ (hfp b hb),fun y a e=>?_⟩,
  I.bs,Gy ok.bsz I.sz,fun b o e hb=>?_,fun b hb=>?_,I.stack,I.gQ⟩,rfl,I.bare,Un.kept k,?_,fun y a e=>?_,I.hok.fresh (G9 _),fun y a e=>?_,fun p hp=>absurd (show p∈([]:List (Addr×Obj))from hp) (by simp),I.hok.kept k,?_⟩
 ·rcases both h1 with⟨m1,l1⟩|o1<;>rcases both h2 with⟨m2,l2⟩|o2
  ·exact name_of_addr cok.apart m1 m2
  ·exact absurd (olt o2) (Nat.not_lt.mpr (Nat.le_of_lt l1))
  ·exact absurd (olt o1) (Nat.not_lt.mpr (Nat.le_of_lt l2))
  ·exact ok.inj y z a o1 o2
 ·show ∃c,(Il (s.heap.objs.size+1) scope.names (gf scope.names X.env)).lookup y=some c
  rw[cW,List.lookup_append]
  rcases free hy with z|z
  ·obtain⟨a,e⟩:=kP (n:=s.heap.objs.size+1) z
   exact⟨a,by rw[e];rfl⟩
  ·obtain⟨a,e⟩:=qP (env:=X.env) (Hh z)
   cases q:(Il (s.heap.objs.size+1) scope.names []).lookup y with
   |none=>exact⟨a,by rw[e];rfl⟩
   |some a'=>exact⟨a',rfl⟩
 ·have hx:y∈xs:=by simpa[cxC]using h
  have e:(Il (s.heap.objs.size+1) scope.names (gf scope.names X.env)).lookup y=some a:=e
  rw[cW]at e
  rcases qz e with z|⟨_,z⟩
  ·exact Nat.le_of_lt (cok.empty _ _ (Hh z)).2
  ·exact absurd hx (c.free' _ (yq z) rfl)
 ·rcases both e with⟨_,l⟩|o
  ·exact Nat.ne_of_gt (Nat.lt_trans (hfp b hb) l)
  ·exact(hf b hb).2.2.2.2.1 y a o
 ·rcases(hf b hb).2.2.2.1 with z|z
  ·exact ok.noex b o e z
  ·exact absurd (G6 (G6 (Gu e) ok.bsz) z) (Im _)
 ·intro z
  rcases GO.mp (I.rk b z)with y|y
  ·exact(hf b hb).2.1 y
  ·exact(hf b hb).2.2.1 y
 ·refine⟨_,hn,fun i y v h1 h2 h3=>?_⟩
  have h1:(xs++js.map fun j=>(X.N[j]?).getD ("":Str))[i]?=some y:=h1
  have h2:(J0 xs.length (none:Option V)++js.map fun j=>(σ[j]?).join)[i]?=some (some v):=h2
  by_cases hi:i<xs.length
  ·rw[Hq (by simpa using hi),List.getElem?_replicate,if_pos hi]at h2
   cases h2
  ·have hout:y∉xs:=fun hy=>by
    rw[Hm (by omega)]at h1
    have nd:=c.nd
    unfold cN at nd
    exact(List.nodup_append.mp nd).2.2 y hy y (GL h1) rfl
   rw[Hm (by omega)]at h1
   rw[Hm (by simp;omega)]at h2
   rw[List.length_replicate]at h2
   rw[Gs]at h1 h2
   cases ej:js[i-xs.length]? with
   |none=>rw[ej]at h1;cases h1
   |some j=>
    rw[ej]at h1 h2
    have e1:(X.N[j]?).getD ("":Str)=y:=Option.some.inj h1
    have e2:(σ[j]?).join=some v:=Option.some.inj h2
    have e3:σ[j]?=some (some v):=by
     cases q:σ[j]? with
     |none=>rw[q]at e2;cases e2
     |some o=>rw[q]at e2;exact congrArg some e2
    have hj:j<X.N.length:=by rw[<-I.len];exact(GN.mp e3).1
    have e4:X.N[j]?=some y:=by
     rw[GQ hj]at e1 ⊢
     exact congrArg some e1
    have nl:scope.names.lookup y≠some .local:=by
     have:=c.js j (GL ej)
     rw[e1]at this
     exact this
    have kc:(pV scope s.heap.objs.size X.env).kindOf y=some .cell\/(pV scope s.heap.objs.size X.env).kindOf y=some .free:=by
     rcases h3 with z|z|z
     ·rcases c.kindOf (C:=s.heap.objs.size) ok z with q|⟨q,_⟩
      ·exact absurd q nl
      ·cases q
     ·exact .inl z
     ·exact .inr z
    have hm:(y,IW)∈scope.names:=by
     rcases free kc with z|z
     ·exact absurd (c.cell _ (Hh z) rfl) hout
     ·exact Hh z
    obtain⟨a,ha⟩:=qP (env:=X.env) hm
    have ha2:(pV scope s.heap.objs.size X.env).cells.lookup y=some a:=by
     show(Il (s.heap.objs.size+1) scope.names (gf scope.names X.env)).lookup y=some a
     rw[cW,List.lookup_append]
     cases q:(Il (s.heap.objs.size+1) scope.names []).lookup y with
     |none=>rw[ha];rfl
     |some a'=>exact absurd (c.cell _ (jG _ _ (Hh q)) rfl) hout
    have hvis:Vis X.env.scope y:=by
     rcases c.out _ hm rfl with z|z
     ·exact .inr (.inl z)
     ·exact .inr (.inr z)
    obtain⟨m,_,hl⟩:=I.loc
    obtain⟨u,r,l⟩:=hl j y v e4 e3 hvis
    refine⟨u,r,?_⟩
    rcases l with⟨z,_⟩|⟨_,a',ha',o,ho,hd⟩
    ·rcases c.out _ hm rfl with q|q
     ·have z':X.env.kindOf y=some .local:=z
      rw[q]at z';cases z'
     ·have z':X.env.kindOf y=some .local:=z
      rw[q]at z';cases z'
    ·refine .inr ⟨kc,a',?_,o,k _ _ ho,hd⟩
     have:=cl ha
     rw[ha']at this
     cases this
     exact ha2
 ·rcases both e with⟨m,_⟩|o
  ·exact⟨_,(cok.empty _ _ m).1⟩
  ·obtain⟨v,o,ho,hd⟩:=I.cell y a o
   exact⟨v,o,k _ _ ho,hd⟩
 ·rcases both e with⟨_,l⟩|o
  ·exact I.hok.fresh (Nat.le_of_lt l)
  ·exact I.freeC y a o
 ·show(cσ (J0 xs.length none) js σ).length=(cN X xs js).length
  unfold cσ cN
  simp
end
def PTs(X:Cx)(ifs:List Expr)(t:TT):Prop:=∀(pins:List (Addr×Obj)) (s:G3) (σ:L2.St) (H:Hp) (Q:Bool->Hp->Prop),Inv X pins σ H s->t σ H Q->
 GA (GD X.prog X.w) X.A (forIn ifs true fun c r=>if r=true then do let ok <-isTrue c X.env (eval c X.env);pure (ForInStep.yield ok)else pure (ForInStep.yield r)) (TP X pins σ Q) X.xe s
theorem zV{X:Cx}:PTs X [] (fun _ H Q=>Q true H):=fun pins s σ H Q I q=>wpAny_tests_nil ⟨H,I,q⟩
theorem zf{X:Cx}{c:Expr}{t:TT}(h:PT X c t):PTs X [c] t:=fun pins s σ H Q I q=>wpAny_tests_one (h pins s σ H Q I q)
theorem vV{prog:GC}{w:Hd}{A:He}{R:Result->G3->Prop}{s:G3}{elt target iter:Expr}{ifs:List Expr}{scope:Jb}{pos:Pos}{it acc:G0}{env:Env}(J:Nat->G3->Prop)
 (step:∀n s,J n s->GA (GD prog w) A (pyNext it) (fun r s1=>match r with
  |none=>R (.ok .next) s1
  |some v=>GA (GD prog w) A (letOwnedTupleGo target it v) (fun _ s2=>GA (GD prog w) A (assign target env v) (fun _ s3=>
   GA (GD prog w) A (forIn ifs true fun c r=>if r=true then do let ok <-isTrue c env (eval c env);pure (ForInStep.yield ok)else pure (ForInStep.yield r)) (fun ok s4=>
    if ok=true then GA (GD prog w) A (eval elt env) (fun x s5=>GA (GD prog w) A (call (.builtin "list.append") [acc,x]) (fun _ s6=>∃m,m<n/\J m s6) NoE s5) NoE s4
    else ∃m,m<n/\J m s4) NoE s3) NoE s2) NoE s1) NoE s)
 (n:Nat) (h:J n s):codeAny (GD prog w) A (.compLoop (.ListComp elt [⟨target,iter,ifs,0⟩] scope pos) 0 it acc env) R s:=by
 have no:∀{E:G0->G3->Prop} e s',NoE e s'->E e s':=fun _ _ z=>z.elim
 refine codeAny_loop rfl J (fun n s hJ=>?_) n h
 show GA _ _ (Sem.onRaise (compTurn (.ListComp elt [⟨target,iter,ifs,0⟩] scope pos) 0 it acc env) (fun x=>do noteFrame x env;theTreesLotGoes x)) _ _ s
 refine wpAny_noted ?_
 rw[compTurn_list]
 refine G2 (Jg (G2 (Hl (step n s hJ) (fun r s1 h1=>?_) no)))
 cases r with
 |none=>exact Gw h1
 |some v=>
  refine G2 (Hl h1 (fun _ s2 h2=>G2 (Hl h2 (fun _ s3 h3=>G2 (Hl h3 (fun ok s4 h4=>?_) no)) no)) no)
  cases ok with
  |false=>exact Gw ⟨rfl,h4⟩
  |true=>exact G2 (G2 (Hl h4 (fun x s5 h5=>G2 (Hl h5 (fun _ s6 h6=>Gw (Gw ⟨rfl,h6⟩)) no)) no))
abbrev Own:=V->Hp->L2.St->Prop
structure TgOk(n:Nat)(g:TG)(own:Own):Prop where
 len:∀y H os,own y H os->os.length=n
 run:∀y H os0 tail os (Q:L2.St->Hp->Prop),os0.length=n->own y H os->Q (os++tail) H->g y (os0++tail) H Q
def Bk(js:List Nat)(own:Own)(tc:TT)(te:TE)(σ:L2.St)(J:It)(H1:Hp)(Q:VK):Prop:=∀D,H1 D=none->∃W:Nat->Nat->Hp->Prop,(∃m,W 0 m (upd H1 D (.lst [])))/\∀i m H,W i m H->
 (J.stop i H/\Q (.ref D) H)\/(J.go i H/\∀y H',J.yld i H y H'->∃os,own y H' os/\tc (cσ os js σ) H' fun b H2=>if b=true then
  te (cσ os js σ) H2 fun v H3=>∃xs,H3 D=some (.lst xs)/\xs.length<Gp/\∃m',m'<m/\W (i+1) m' (upd H3 D (.lst (xs++[v])))else ∃m',m'<m/\W (i+1) m' H2)
def sJ(js:List Nat)(own:Own)(wi:TI)(tc:TT)(te:TE):TE:=fun σ H Q=>wi σ H fun J H1=>Bk js own tc te σ J H1 Q
section
variable{X:Cx}{xs:List Str}{tg:Expr}{pos:Pos}{js:List Nat}{scope:Jb}{elt iter:Expr}{ifs:List Expr}{te:TE}{tc:TT}{g:TG}{own:Own}{wi:TI}{pins:List (Addr×Obj)}{σ:L2.St}{H:Hp}{s:G3}{fp:List Addr}{it:Addr}{tn:Nat->Heap->Prop}{J:It}
theorem qC(c:CScope X xs js scope)(hc:X.calm=true)(hG:TgOk xs.length g own)(hg:∀C s H fp,PG (cxC X xs js scope C s H fp) tg g)(ht:∀C s H fp,PTs (cxC X xs js scope C s H fp) ifs tc)(he:∀C s H fp,PE (cxC X xs js scope C s H fp) elt te)
 {R:G0->Addr->Result->G3->Prop} {E:G0->G3->Prop} {Q:VK}
 (I:Inv X pins σ H s) (T:Turn X.prog X.w X.K tg J fp it tn) (st:tn 0 s.heap) (hf:∀b∈fp,gp X pins H b) (wc:Bk js own tc te σ J H Q)
 (hR:∀D C H' s',Inv X pins σ H' s'->gp X pins H' C->(∃m,s'.heap.Ns C m)->Q (.ref D) H'->R (.ref D) C (.ok .next) s') :
 GA (GD X.prog X.w) X.A (newList []) (fun acc s₃=>GA (GD X.prog X.w) X.A (newFunctionEnv scope X.env.globals (gf scope.names X.env) [] X.env.qual none .none (some X.env)) (fun cenv s₄=>
  codeAny (GD X.prog X.w) X.A (.compStart (.ListComp elt [⟨tg,iter,ifs,0⟩] scope pos) 0 (.ref it) acc { cenv with scope:=relabel scope X.env }) (R acc cenv.locals) s₄) E s₃) E s:=by
 have hfp:∀b∈fp,b<s.heap.objs.size:=fun b hb=>let⟨o,e,_⟩:=T.obj 0 _ st b hb;Gu e
 have hD:H s.heap.objs.size=none:=I.hok.fresh (G9 _)
 refine HY (AI ?_)
 generalize hh:s.heap.push { cls:=.type "list",dict:=none,data:=.seq ([]:List G0).toArray }=h3
 generalize hh1:pushCells (({ s with heap:=h3 }:G3).heap.push { cls:=.type "dict",data:=.dict #[] }) scope.names=h₁
 have k3:∀b o,s.heap.get? b=some o->h3.get? b=some o:=fun b o e=>by rw[<-hh];exact G4 _ e
 have I3:Inv X pins σ (upd H s.heap.objs.size (.lst [])) { s with heap:=h3 }:=by
  refine I.laid (t':=s.toks) k3 (G9 _) ?_
  refine⟨IU _,[],0,.nil,?_⟩
  rw[<-hh]
  exact GB _ rfl
 have hf3:∀b∈fp,gp X pins (upd H s.heap.objs.size (.lst [])) b:=fun b hb=>⟨by rw[aQ (GZ (hfp b hb))];exact(hf b hb).1,(hf b hb).2⟩
 have hsz:h3.objs.size=s.heap.objs.size+1:=by rw[<-hh,J2]
 have hfp3:∀b∈fp,b<h3.objs.size:=fun b hb=>by rw[hsz];exact Nat.lt_succ_of_lt (hfp b hb)
 have k4:∀b o,h3.get? b=some o->h₁.get? b=some o:=fun b o e=>by rw[<-hh1];exact pushCells_keeps _ _ b o (G4 _ e)
 have I4:=yv c I3 hf3 hfp3 (h':=h₁) hh1.symm k4
 obtain⟨W,⟨m0,w0⟩,turn⟩:=wc _ hD
 have st4:tn 0 h₁:=T.keep 0 _ _ st fun b hb o e=>k4 b o (k3 b o e)
 generalize hX:cxC X xs js scope h3.objs.size { s with heap:=h3 } (upd H s.heap.objs.size (.lst [])) fp=X' at I4
 have fok:∀{pins':List (Addr×Obj)} {H':Hp} {σ':L2.St} {s':G3},Inv X' [] σ' H' s'->(∀b∈fp,H' b=none)->∀b∈fp,gp X' [] H' b:=fun{pins' H' σ' s'} J' hn b hb=>by
  subst hX
  obtain⟨a1,a2⟩:=J'.ok.exf b hb
  exact⟨hn b hb,a1,J'.ok.exfs b hb,.inl hb,a2,fun p hp=>absurd (show p∈([]:List (Addr×Obj))from hp) (by simp)⟩
 have loop:codeAny (GD X.prog X.w) X.A (.compLoop (.ListComp elt [⟨tg,iter,ifs,0⟩] scope pos) 0 (.ref it) (.ref s.heap.objs.size) (pV scope h3.objs.size X.env)) (R (.ref s.heap.objs.size) h3.objs.size)
  { s with heap:=h₁ }:=by
  refine vV (fun n s'=>∃i os H',os.length=xs.length/\Inv X' [] (cσ os js σ) H' s'/\tn i s'.heap/\(∀b∈fp,H' b=none)/\W i n H') ?_ m0 ⟨0,_,_,by simp,I4,st4,fun b hb=>(hf3 b hb).1,w0⟩
  rintro n s5 ⟨i,os,H5,hl5,I5,st5,fr5,w5⟩
  rcases turn i n H5 w5 with⟨stop,q⟩|⟨go,step⟩
  ·subst hX
   refine Hl (T.done (cxC X xs js scope h3.objs.size { s with heap:=h3 } (upd H s.heap.objs.size (.lst [])) fp) rfl rfl rfl hc i [] s5 _ H5 NoE I5 (fok (pins':=[]) I5 fr5) st5 stop) (fun r s6 zz1_0=>?_) fun _ _ z=>z
   obtain⟨hr,I6⟩:=zz1_0
   subst hr
   refine hR _ _ H5 s6 (I3.wD I6.os I6.base I6.hok I6.bare fun b hb=>⟨(hf3 b hb).2.2.2.1,(hf3 b hb).2.1,(hf3 b hb).2.2.2.2.1,(hf3 b hb).2.2.2.2.2⟩) (I3.wR (G9 _) I6.free) (let⟨m,hm,_⟩:=I6.loc;⟨m,hm⟩) q
  ·subst hX
   refine Hl (T.item (cxC X xs js scope h3.objs.size { s with heap:=h3 } (upd H s.heap.objs.size (.lst [])) fp) rfl rfl rfl hc i [] s5 _ H5 NoE I5 (fok (pins':=[]) I5 fr5) st5 go) (fun r s6 zz2_0=>?_) fun _ _ z=>z
   obtain⟨u,hr,h6⟩:=zz2_0
   subst hr
   refine Hl h6 (fun _ s7 zz3_0=>?_) fun _ _ z=>z
   obtain⟨y,H7,I7,r7,y7,st7,fr7⟩:=zz3_0
   have I7':=I7.pinned (fok (pins':=[]) I7 fr7) (T.obj _ _ st7)
   obtain⟨os8,ow8,q8⟩:=step y H7 y7
   have l8:=hG.len _ _ _ ow8
   refine Hl (hg _ _ _ _ _ s7 _ H7 y u (fun σ' H'=>σ'=cσ os8 js σ/\H'=H7) I7' r7 (hG.run y H7 os _ os8 _ hl5 ow8 ⟨rfl,rfl⟩)) (fun _ s8 zz4_0=>?_) fun _ _ z=>z
   obtain⟨σ8,H8,I8,e8,e8'⟩:=zz4_0
   subst e8 e8'
   refine Hl (ht _ _ _ _ _ s8 _ _ _ I8 q8) (fun ok s9 zz5_0=>?_) fun _ _ z=>z
   obtain⟨H9,I9,q9⟩:=zz5_0
   have back:∀{m':Nat} {H10:Hp} {s10:G3},Inv (cxC X xs js scope h3.objs.size { s with heap:=h3 } (upd H s.heap.objs.size (.lst [])) fp) ([]++kW fp s7.heap) (cσ os8 js σ) H10 s10->m'<n->W (i+1) m' H10->
    ∃m,m<n/\∃i os H',os.length=xs.length/\Inv (cxC X xs js scope h3.objs.size { s with heap:=h3 } (upd H s.heap.objs.size (.lst [])) fp) [] (cσ os js σ) H' s10/\tn i s10.heap/\(∀b∈fp,H' b=none)/\W i m H':=fun{m' H10 s10} I10 hm' w10=>by
    refine⟨m',hm',i+1,os8,H10,l8,I10.iS,T.keep _ _ _ st7 fun b hb o e=>(I10.pin (b,o) (Hn _ (Hn _ (fO hb e)))).1,fun b hb=>?_,w10⟩
    obtain⟨o',e,d⟩:=T.obj _ _ st7 b hb
    exact(I10.pin (b,o') (Hn _ (Hn _ (fO hb e)))).2.1
   cases ok with
   |false=>
    rw[if_neg G5]at q9 ⊢
    obtain⟨m',hm',w9⟩:=q9
    exact back I9 hm' w9
   |true=>
    rw[if_pos rfl]at q9 ⊢
    refine Hl (he _ _ _ _ _ s9 _ _ _ I9 q9) (fun v s10 zz6_0=>?_) fun _ _ z=>z
    obtain⟨vv,H10,I10,r10,ys,hd10,hl10,q10⟩:=zz6_0
    refine Hl (nj (X:=(cxC X xs js scope h3.objs.size { s with heap:=h3 } (upd H s.heap.objs.size (.lst [])) fp)) _ s10 _ H10 (.ref s.heap.objs.size) [vv] (.ref s.heap.objs.size) [v] (fun _ H'=>∃m',m'<n/\W (i+1) m' H') I10 rfl (.cons r10 .nil) ⟨_,ys,vv,rfl,rfl,hd10,hl10,q10⟩) (fun _ s11 zz7_0=>?_) fun _ _ z=>z
    obtain⟨_,H11,I11,_,m',hm',w11⟩:=zz7_0
    exact back I11 hm' w11
 exact codeAny_compStart_list loop (T.self X.A 0 _ _ _ st4 loop)
theorem Aw(c:CScope X xs js scope)(hc:X.calm=true)(hi:PI X tg iter wi)(hG:TgOk xs.length g own)(hg:∀C s H fp,PG (cxC X xs js scope C s H fp) tg g)(ht:∀C s H fp,PTs (cxC X xs js scope C s H fp) ifs tc)(he:∀C s H fp,PE (cxC X xs js scope C s H fp) elt te)(hs:∀x,HZ iter X.env x=pure x:=by intro _;rfl) : PE X (.ListComp elt [⟨tg,iter,ifs,0⟩] scope pos) (sJ js own wi tc te):=by intro pins s σ H Q I h;rw[eval_ListComp];refine wpAny_comprehension_free (use:=none) rfl hs (c.DB I.ok) c.kind c.names (thn (hi pins s σ H _ I h) fun v s1 h1=>thn h1 fun itv s2 zz8_0=>?_);obtain⟨it,fp,tn,J,H2,e,I2,T,st,f2,w⟩:=zz8_0;subst e;refine qC (R:=fun acc C=>compPost (GD X.prog X.w) X.A X.xe none (EP X pins σ Q) acc C) c hc hG hg ht he I2 T st f2 w fun D C H' s' I' fC zz9_0 q=>?_;obtain⟨m,hm⟩:=zz9_0;exact⟨m,hm,fun h' hsb=>⟨.ref D,H',I'.turned (t':=s'.toks) (fun b o ne e=>hsb.extBut b o ne e) fC.1 fC.2.1 fC.2.2.2.1 fC.2.2.2.2.1 fC.2.2.2.2.2,rfl,q⟩⟩
theorem zI{i:Nat}{y:Str}{py spos:Pos}(c:CScope X xs js scope)(hc:X.calm=true)(hN:X.N.Nodup)(hi:PI X tg iter wi)(hG:TgOk xs.length g own)(hg:∀C s H fp,PG (cxC X xs js scope C s H fp) tg g)(ht:∀C s H fp,PTs (cxC X xs js scope C s H fp) ifs tc)(he:∀C s H fp,PE (cxC X xs js scope C s H fp) elt te)(hy:X.N[i]?=some y)(hl:X.env.scope.names.lookup y=some .local)
 (hsw:swapsWith (.ListComp elt [⟨tg,iter,ifs,0⟩] scope pos) (some (.Name y py)) spos.line X.env=pure true) (hs:∀x,HZ iter X.env x=pure x:=by intro _;rfl) :
 PS X (.Assign [.Name y py] (.ListComp elt [⟨tg,iter,ifs,0⟩] scope pos) spos) (Cn (sJ js own wi tc te) (jd i)):=by
 intro pins s σ H B I h
 rw[exec_Assign_Name_used _ _ _ _ hsw]
 refine G2 (Jg (G2 ?_))
 show GA _ X.A (do let _ <-comprehension (.ListComp elt [⟨tg,iter,ifs,0⟩] scope pos) scope X.env _ (newList []) false (eval iter X.env) (some (assign (.Name y py) X.env))) _ _ s
 refine G2 (Hl (wpAny_comprehension_free (use:=some (assign (.Name y py) X.env)) (Q:=fun _ s'=>SP X pins B .next s') rfl hs (c.DB I.ok) c.kind c.names
  (thn (hi pins s σ H _ I h) fun v s1 h1=>thn h1 fun itv s2 z=>?_)) (fun _ s' hq=>Gw (Gw hq)) fun _ _ e=>e)
 obtain⟨it,fp,tn,J,H2,e,I2,T,st,f2,w⟩:=z
 subst e
 refine qC (R:=fun acc C=>compPost (GD X.prog X.w) X.A X.xe (some (assign (.Name y py) X.env)) (fun _ s'=>SP X pins B .next s') acc C) c hc hG hg ht he I2 T st f2 w fun D C H' s' I' fC zz10_0 q=>?_
 obtain⟨m,hm⟩:=zz10_0
 show GA _ X.A (assign (.Name y py) X.env (.ref D)) _ _ _
 refine wpAny_assign_Name (m7 I' hN hy (.inl hl) (v:=.ref D) rfl (fun s9 I9 zz11_0=>?_) (.inr hl))
 obtain⟨a,sb,ha⟩:=zz11_0
 have hne:C≠a:=by
  rcases ha with z|z
  ·rw[z];exact fC.2.1
  ·exact fun e=>fC.2.2.2.2.1 y a z e.symm
 refine⟨m,hm.sameBut sb hne,fun h' hsb=>?_⟩
 exact⟨_,H',I9.turned (t':=s9.toks) (fun b o ne e=>hsb.extBut b o ne e) fC.1 fC.2.1 fC.2.2.2.1 fC.2.2.2.2.1 fC.2.2.2.2.2,q⟩
end
inductive Tgt where
 |one|many (n:Nat)
def vW(K:cc):Tgt->Own
 |.one=>fun y _ os=>os=[some y]
 |.many n=>fun y H os=>∃a xs,y=.ref a/\SqT K H a xs/\xs.length=n/\os=xs.map some
theorem xi{K:cc}:TgOk 1 (jd 0) (vW K .one):=⟨fun _ _ os h=>by rw[h];rfl,fun y H os0 tail os Q hl ho q=>by
 obtain⟨o,rfl⟩:=y6 hl
 rw[show os=[some y]from ho]at q;exact q⟩
theorem Cf{K:cc}:TgOk 2 (B9 K 2 (pW (jd 0) (pW (jd 1) Dr))) (vW K (.many 2)):=⟨fun _ _ os z=>by
 obtain⟨a,xs,_,_,hl,e⟩:=z
 rw[e];simpa using hl,fun y H os0 tail os Q hl z q=>by
 obtain⟨a,xs,e,hq,hx,ho⟩:=z
 obtain⟨o,o',rfl⟩:=CL hl
 obtain⟨u,v,rfl⟩:=CL hx
 rw[ho]at q;exact⟨a,_,e,hq,hx,u,_,rfl,v,_,rfl,rfl,q⟩⟩
def AD:Tgt->D->DS->Prop
 |.one,d,os=>os=[some d]
 |.many n,d,os=>∃ds,d=.tup ds/\ds.length=n/\os=ds.map some
def cδ(os:DS)(js:List Nat)(δ:DS):DS:=os++js.map fun j=>(δ[j]?).join
theorem AF{K:cc}{H:Hp}{δ os:DS}{σ us:L2.St}{js:List Nat}(hs:Slots K H δ σ)(r:Slots K H os us):Slots K H (cδ os js δ) (cσ us js σ):=by
 refine⟨by simp[cδ,cσ,r.len],fun i e q=>?_⟩;unfold cδ at q;unfold cσ;by_cases hi:i<os.length
 ·rw[Hq hi]at q;rw[Hq (by rw[<-r.len];exact hi)];exact r.at' i e q
 ·rw[Hm (by omega)]at q;rw[Hm (by rw[<-r.len];omega),<-r.len];rw[Gs]at q ⊢;cases ej:js[i-os.length]? with
  |none=>rw[ej]at q;cases q
  |some j=>
   rw[ej]at q
   have e2:(δ[j]?).join=some e:=Option.some.inj q
   have e3:δ[j]?=some (some e):=by
    cases z:δ[j]? with
    |none=>rw[z]at e2;cases e2
    |some o=>rw[z]at e2;exact congrArg some e2
   obtain⟨v',e4,e5⟩:=hs.at' j e e3
   exact⟨v',by rw[show(some j).map (fun j=>(σ[j]?).join)=some ((σ[j]?).join)from rfl,e4];rfl,e5⟩
theorem nI{K:cc}{H:Hp}{ds:List D}{xs:List V}(r:aJ K H ds xs):Slots K H (ds.map some) (xs.map some):=by
 refine⟨by simp[r.length],fun i d e=>?_⟩;rw[Gs]at e ⊢;cases q:ds[i]? with
 |none=>rw[q]at e;cases e
 |some d'=>
  rw[q]at e;cases e
  obtain⟨x,e1,e2⟩:=r.get q
  exact⟨x,by rw[e1];rfl,e2⟩
theorem wG{K:cc}{H:Hp}{tk:Tgt}{d:D}{v:V}{os:DS}(r:Rep K H d v)(h:AD tk d os):∃us,vW K tk v H us/\Slots K H os us:=by
 cases tk with
 |one=>
  rw[show os=[some d]from h]
  exact⟨[some v],rfl,nI (.cons r .nil)⟩
 |many n=>
  obtain⟨ds,rfl,hl,rfl⟩:=h
  rw[Rep]at r
  obtain⟨a,xs,rfl,hq,rs⟩:=r
  exact⟨_,⟨a,xs,rfl,hq,by rw[<-rs.length];exact hl,rfl⟩,nI rs⟩
def pH:TTD:=fun _ M Q=>Q true M
def xb(I:ItD)(tk:Tgt)(js:List Nat)(tc:TTD)(te:TD)(δ:DS)(M1:MH)(Q:DK):Prop:=I.n<=1000000/\∀p,M1 p=none->∃W:Nat->List D->MH->Prop,W 0 [] (au M1 p (.lst []))/\(∀i ys M,i<=I.n->W i ys M->I.C M)/\
 (∀i ys d M,i<I.n->I.item i=some d->W i ys M->∃os,AD tk d os/\tc (cδ os js δ) M fun b M2=>if b=true then te (cδ os js δ) M2 fun e M'=>∃M3,Sub M3 M'/\M3 p=some (.lst ys)/\W (i+1) (ys++[e]) (au M3 p (.lst (ys++[e])))else ∃M3,Sub M3 M2/\W (i+1) ys M3)/\∀ys M,W I.n ys M->Q (.ref p) M
def jB(wd:TID)(tk:Tgt)(js:List Nat)(tc:TTD)(te:TD):TD:=fun δ M Q=>wd δ M fun I M1=>xb I tk js tc te δ M1 Q
section
variable{X:Cx}{K:cc}
theorem nN{wd:TID}{tk:Tgt}{js:List Nat}{tc:TTD}{te:TD}{σ:L2.St}{H:Hp}{Q:VK}(h:lift K (jB wd tk js tc te) σ H Q):sJ js (vW K tk) (A7 K wd) (liftT K tc) (lift K te) σ H Q:=by
 obtain⟨δ,M,R,hs,hM,q,fin⟩:=h;refine⟨δ,M,_,hs,hM,q,fun I M1 H1 J g1 a1 kc io p hp=>?_⟩;obtain⟨hn,kc⟩:=kc;obtain⟨W,w0,hC,turn,done⟩:=kc p (a1.fresh hp);refine⟨fun i m H2=>m=I.n-i/\i<=I.n/\Grow K H1 H2/\∃ys M,ys.length<=i/\Abs K H2 M/\W i ys M,⟨I.n,by simp,IU _,.new hp,[],_,G9 _,a1.jk hp .nil,w0⟩,?_⟩;rintro i m H2 ⟨rfl,hi,g2,ys,M2,hl,a2,w2⟩;by_cases hin:i<I.n
 ·refine .inr ⟨io.go i H2 M2 hin g2 a2 (hC _ _ _ hi w2),fun v H3 hy=>?_⟩;obtain⟨g3,a3,d,ed,rd⟩:=io.yld i H2 M2 v H3 hin g2 a2 (hC _ _ _ hi w2) hy;obtain⟨os,ow,q3⟩:=turn i ys d M2 hin ed w2;obtain⟨us,uv,su⟩:=wG rd ow;have s3:=AF (js:=js) (hs.mono ((g1.trans g2).trans g3)) su;refine⟨us,uv,cδ os js δ,M2,_,s3,a3,q3,fun b M4 H4 g4 a4 q4=>?_⟩;cases b with
  |false=>
   rw[if_neg G5]at q4 ⊢
   obtain⟨M5,s5,w5⟩:=q4
   exact⟨I.n-(i+1),by omega,rfl,hin,(g2.trans g3).trans g4,ys,M5,by omega,a4.sub s5,w5⟩
  |true=>
   rw[if_pos rfl]at q4 ⊢
   refine⟨cδ os js δ,M4,_,s3.mono g4,a4,q4,fun e M' u H5 g5 r5 a5 zz2_0=>?_⟩
   obtain⟨M6,s6,e6,w6⟩:=zz2_0
   obtain⟨zs,hx,rs⟩:=(a5.sub s6) _ _ e6
   refine⟨zs,hx,?_,I.n-(i+1),by omega,rfl,hin,(((g2.trans g3).trans g4).trans g5).trans (.lst hx),ys++[e],_,by simp;omega,(a5.sub s6).BA hx (rs.append (.cons r5 .nil)),w6⟩
   rw[<-rs.length]
   exact Nat.lt_of_le_of_lt hl (G6 hin (Gy hn (by decide)))
 ·obtain rfl:i=I.n:=by omega
  exact .inl ⟨io.stop H2 M2 g2 a2 (hC _ _ _ hi w2),fin _ _ _ _ (g1.trans g2) (by rw[Rep]) a2 (done ys M2 w2)⟩
variable{xs:List Str}{tg:Expr}{pos:Pos}{js:List Nat}{scope:Jb}{elt iter:Expr}{ifs:List Expr}{te:TD}{tc:TTD}{g:TG}{tk:Tgt}{wd:TID}
def DTs(X:Cx)(ifs:List Expr)(t:TTD):Prop:=PTs X ifs (liftT X.K t)
theorem b8:DTs X [] pH:=fun pins s σ H Q I zz3_0=>by obtain⟨δ,M,R,hs,hM,q,fin⟩:=zz3_0;exact(zV pins s σ H Q I (fin _ _ _ .refl hM q))
theorem zT{c:Expr}{t:TTD}(h:DT X c t):DTs X [c] t:=zf h
theorem tL(c:CScope X xs js scope)(hc:X.calm=true)(hi:DI X tg iter wd)(hG:TgOk xs.length g (vW X.K tk))(hg:∀C s H fp,PG (cxC X xs js scope C s H fp) tg g)(ht:∀C s H fp,DTs (cxC X xs js scope C s H fp) ifs tc)(he:∀C s H fp,DE (cxC X xs js scope C s H fp) elt te) (hs:∀x,HZ iter X.env x=pure x:=by intro _;rfl):DE X (.ListComp elt [⟨tg,iter,ifs,0⟩] scope pos) (jB wd tk js tc te):=bA (Aw (te:=lift X.K te) (tc:=liftT X.K tc) c hc hi hG hg ht he hs) fun _ _ _ h=>nN h
theorem Ar(i:Nat){y:Str}{py spos:Pos}(hN:X.N.Nodup)(c:CScope X xs js scope)(hc:X.calm=true)(hi:DI X tg iter wd)(hG:TgOk xs.length g (vW X.K tk))(hg:∀C s H fp,PG (cxC X xs js scope C s H fp) tg g)(ht:∀C s H fp,DTs (cxC X xs js scope C s H fp) ifs tc)(he:∀C s H fp,DE (cxC X xs js scope C s H fp) elt te) (hy:X.N[i]?=some y:=by rfl) (hl:X.env.scope.names.lookup y=some .local:=by rfl) (hsw:swapsWith (.ListComp elt [⟨tg,iter,ifs,0⟩] scope pos) (some (.Name y py)) spos.line X.env=pure true:=by rfl) (hs:∀x,HZ iter X.env x=pure x:=by intro _;rfl) : DSt X (.Assign [.Name y py] (.ListComp elt [⟨tg,iter,ifs,0⟩] scope pos) spos) (bE (jB wd tk js tc te) (aK i)):=dg (zI (te:=lift X.K te) (tc:=liftT X.K tc) c hc hN hi hG hg ht he hy hl hsw hs) fun E σ H zz4_0=>by obtain⟨δ,M,hs,a,B,ok,q⟩:=zz4_0;exact(nN ⟨δ,M,_,hs,a,q,fun d M1 v H1 g1 r1 a1 q1=>ok.nx _ _ _ _ g1 ((hs.mono g1).set r1 i) a1 q1⟩)
theorem comp_map{I:ItD}{tk:Tgt}{js:List Nat}{te:TD}{δ:DS}{M1:MH}{Q:DK}(f:Nat->D)(hn:I.n<=1000000)(hC:∀p ys,M1 p=none->I.C (au M1 p (.lst ys))) (h:∀i d M,i<I.n->I.item i=some d->Sub M1 M->∃os,AD tk d os/\∀K:DK,(∀M',Sub M M'->K (f i) M')->te (cδ os js δ) M K) (hq:∀p,M1 p=none->Q (.ref p) (au M1 p (.lst ((HD I.n).map f)))):xb I tk js pH te δ M1 Q:=by
 refine⟨hn,fun p hp=>⟨fun i ys M=>ys=(HD i).map f/\M=au M1 p (.lst ys),⟨rfl,rfl⟩,?_,?_,?_⟩⟩
 ·rintro i ys M _ ⟨_,rfl⟩;exact hC p ys hp
 ·rintro i ys d M hi hd ⟨rfl,rfl⟩;obtain⟨os,ow,k⟩:=h i d _ hi hd (.new hp .refl);refine⟨os,ow,?_⟩;unfold pH;refine DZ (k _ ?_);exact fun M' s'=>⟨_,s',ag,by rw[List.range_succ,HJ];rfl,by rw[cP]⟩
 ·rintro ys M ⟨rfl,rfl⟩;exact hq p hp
end
def Ex(X:Cx)(xs:List Str)(js:List Nat)(scope:Jb):Bool:=
 scope.kind==.function&&scope.names.all (fun y=>(y.2 != .cell||xs.contains y.1)&&(y.2 != .free||!xs.contains y.1))&&scope.names.all (fun y=>y.2 != .local||scope.names.lookup y.1==some .local)&&xs.all (fun x=>scope.names.lookup x==some .local||scope.names.lookup x==some .cell) &&
  scope.names.all (fun y=>y.2 != .free||(X.env.kindOf y.1==some .cell||X.env.kindOf y.1==some .free))&&decide (cN X xs js).Nodup&&js.all (fun j=>scope.names.lookup ((X.N[j]?).getD ("":Str)) != some .local)
theorem CScope.of{X:Cx}{xs:List Str}{js:List Nat}{scope:Jb}(h:Ex X xs js scope=true):CScope X xs js scope:=by
 unfold Ex at h;simp only[GG]at h;obtain⟨⟨⟨⟨⟨⟨h1,h2⟩,h3⟩,h4⟩,h5⟩,h6⟩,h7⟩:=h;refine⟨by simpa using h1,fun y hy hc=>?_,fun y hy hf=>?_,fun y hy hl=>?_,fun x hx=>?_,fun y hy hf=>?_,of_decide_eq_true h6,fun j hj=>?_⟩
 ·have:=HS.mp h2 y hy;rw[hc]at this;simpa using this
 ·have:=HS.mp h2 y hy;rw[hf]at this;simpa using this
 ·have:=HS.mp h3 y hy;rw[hl]at this;simpa using this
 ·have:=HS.mp h4 x hx;simpa using this
 ·have:=HS.mp h5 y hy;rw[hf]at this;simpa using this
 ·have:=HS.mp h7 j hj;simpa using this
abbrev TOD:=DS->MH->(Option Int->MH->Prop)->Prop
def m8(K:cc)(t:TOD):TO:=fun σ H Q=>∃δ M R,Slots K H δ σ/\Abs K H M/\t δ M R/\∀o M' H',Grow K H H'->Abs K H' M'->R o M'->Q o H'
def qR:TOD:=fun _ M Q=>Q none M
def xn(t:TD):TOD:=fun δ M Q=>t δ M fun x M1=>∃i,x=.int i/\Q (some i) M1
def cutD(xs:List D)(lo hi:Option Int):List D:=(xs.drop (HT.sIx xs.length 0 lo)).take (HT.sIx xs.length xs.length hi-HT.sIx xs.length 0 lo)
def zE:D->Option Int->Option Int->MH->DK->Prop:=fun x lo hi M Q=>match x with
 |.ref a=>∃ds,M a=some (.lst ds)/\∀p,M p=none->Q (.ref p) (au M p (.lst (cutD ds lo hi)))
 |.rol ds=>∀p,M p=none->Q (.ref p) (au M p (.lst (cutD ds lo hi)))
 |.tup ds=>¬(HT.sIx ds.length 0 lo=0/\HT.sIx ds.length ds.length hi=ds.length)/\Q (.tup (cutD ds lo hi)) M
 |_=>False
def FW(te:TD)(tl th:TOD):TD:=fun δ M Q=>te δ M fun x M1=>tl δ M1 fun l M2=>th δ M2 fun u M3=>zE x l u M3 Q
theorem aJ.cut{K:cc}{H:Hp}{ds:List D}{xs:List V}(h:aJ K H ds xs)(lo hi:Option Int):aJ K H (cutD ds lo hi) (qk xs lo hi):=by unfold cutD qk;rw[h.length];exact(h.drop _).take _
section
variable{X:Cx}{e a:Expr}{te:TD}{tl th:TOD}{lo hi:Option Expr}{pos p2:Pos}
theorem ym{e:Option Expr}{t t':TO}(h:PO X e t)(k:∀σ H Q,t' σ H Q->t σ H Q):PO X e t':=fun pins s σ H Q I q=>h pins s σ H Q I (k _ _ _ q)
theorem bz:PO X none (m8 X.K qR):=ym tW fun σ H Q zz5_0=>by obtain⟨δ,M,R,hs,a,q,fin⟩:=zz5_0;exact(fin _ _ _ .refl a q)
theorem aZ(h:DE X e te):PO X (some e) (m8 X.K (xn te)):=ym (uA h) fun σ H Q zz6_0=>by obtain⟨δ,M,R,hs,a,q,fin⟩:=zz6_0;exact(⟨δ,M,_,hs,a,q,fun d M1 v H1 g1 r1 a1 z9=>by
 obtain⟨i,ei,q1⟩:=z9
 subst ei
 rw[Rep]at r1
 exact⟨i,r1,fin _ _ _ g1 a1 q1⟩⟩)
theorem wK(he:DE X a te)(hl:PO X lo (m8 X.K tl))(hu:PO X hi (m8 X.K th)):DE X (.Subscript a (.Slice lo hi none p2) pos) (FW te tl th):=
 bA (lW (uC.or xq) he hl hu) fun σ H Q zz7_0=>by obtain⟨δ,M,R,hs,a,q,fin⟩:=zz7_0;exact(⟨δ,M,_,hs,a,q,fun x M1 v H1 g1 r1 a1 q1=>⟨δ,M1,_,hs.mono g1,a1,q1,fun l M2 H2 g2 a2 q2=>⟨δ,M2,_,hs.mono (g1.trans g2),a2,q2,fun u M3 H3 g3 a3 q3=>by
  have G:=(g1.trans g2).trans g3
  have r3:=r1.mono (g2.trans g3)
  unfold zE at q3
  split at q3
  ·obtain⟨ds,e3,q3⟩:=q3
   obtain rfl:v=.ref _:=r3
   obtain⟨xs,hx,rs⟩:=a3 _ _ e3
   exact .inl ⟨_,xs,rfl,SqL.of hx,fun z hz=>fin _ _ _ _ (G.trans (.new hz)) (by rw[Rep]) (a3.jk hz (rs.cut _ _)) (q3 z (a3.fresh hz))⟩
  ·rw[Rep]at r3
   obtain⟨b,xs,rfl,hx,rs⟩:=r3
   exact .inl ⟨_,xs,rfl,hx.sql,fun z hz=>fin _ _ _ _ (G.trans (.new hz)) (by rw[Rep]) (a3.jk hz (rs.cut _ _)) (q3 z (a3.fresh hz))⟩
  ·obtain⟨hw,q3⟩:=q3
   rw[Rep]at r3
   obtain⟨b,xs,rfl,hx,rs⟩:=r3
   exact .inr ⟨_,xs,rfl,hx,by rw[<-rs.length];exact hw,fun z hz=>fin _ _ _ _ (G.trans (.new hz)) (by rw[Rep];exact⟨z,_,rfl,SqT.of aW,(rs.cut _ _).mono (.new hz)⟩) (a3.new hz) q3⟩
  ·exact q3.elim⟩⟩⟩)
end
section
variable{X:Cx}{x y z:Str}{px py pz pt pos:Pos}{kt:Nat}{js:List Nat}{scope:Jb}{elt iter:Expr}{ifs:List Expr}{te:TD}{tc:TTD}{wd:TID}{xs:List Str}
theorem oP(c:CScope X xs js scope)(i:Nat)(hx:xs[i]?=some x){C:Addr}{s:G3}{H:Hp}{fp:List Addr}:PG (cxC X xs js scope C s H fp) (.Name x px) (jd i):=by
 have hi:i<xs.length:=(GN.mp hx).1;have hm:=GL hx
 have hl:Loc (cxC X xs js scope C s H fp).env.scope x:=by
  rcases c.own x hm with z|z
  ·exact .inl (fz (by decide) z)
  ·exact .inr (fz (by decide) z)
 refine tD (i:=i) c.nd ?_ hl (.inl (by show xs.contains x=true;simpa using hm));show(xs++js.map fun j=>(X.N[j]?).getD ("":Str))[i]?=some x;rw[Hq hi];exact hx
theorem AK(c:CScope X [x,y] js scope)(hc:X.calm=true){C:Addr}{s:G3}{H:Hp}{fp:List Addr}:PG (cxC X [x,y] js scope C s H fp) (.Tuple [.Name x px,.Name y py] kt pt) (B9 X.K 2 (pW (jd 0) (pW (jd 1) Dr))):=yP (X:=cxC X [x,y] js scope C s H fp) hc (lX (oP c 0 rfl) (lX (oP c 1 rfl) uH)) rfl rfl
theorem eB(c:CScope X [x] js scope)(hc:X.calm=true)(hi:DI X (.Name x px) iter wd)(ht:∀C s H fp,DTs (cxC X [x] js scope C s H fp) ifs tc)(he:∀C s H fp,DE (cxC X [x] js scope C s H fp) elt te) (hs:∀x,HZ iter X.env x=pure x:=by intro _;rfl):DE X (.ListComp elt [⟨.Name x px,iter,ifs,0⟩] scope pos) (jB wd .one js tc te):=tL c hc hi xi (fun _ _ _ _=>oP c 0 rfl) ht he hs
theorem qD(c:CScope X [x,y] js scope)(hc:X.calm=true)(hi:DI X (.Tuple [.Name x px,.Name y py] kt pt) iter wd)(ht:∀C s H fp,DTs (cxC X [x,y] js scope C s H fp) ifs tc)(he:∀C s H fp,DE (cxC X [x,y] js scope C s H fp) elt te) (hs:∀x,HZ iter X.env x=pure x:=by intro _;rfl):DE X (.ListComp elt [⟨.Tuple [.Name x px,.Name y py] kt pt,iter,ifs,0⟩] scope pos) (jB wd (.many 2) js tc te):=tL c hc hi Cf (fun _ _ _ _=>AK c hc) ht he hs
theorem eD(i:Nat){v:Str}{pv spos:Pos}(hN:X.N.Nodup)(c:CScope X [x] js scope)(hc:X.calm=true)(hi:DI X (.Name x px) iter wd)(ht:∀C s H fp,DTs (cxC X [x] js scope C s H fp) ifs tc)(he:∀C s H fp,DE (cxC X [x] js scope C s H fp) elt te) (hy:X.N[i]?=some v:=by rfl) (hl:X.env.scope.names.lookup v=some .local:=by rfl) (hsw:swapsWith (.ListComp elt [⟨.Name x px,iter,ifs,0⟩] scope pos) (some (.Name v pv)) spos.line X.env=pure true:=by rfl) (hs:∀x,HZ iter X.env x=pure x:=by intro _;rfl) : DSt X (.Assign [.Name v pv] (.ListComp elt [⟨.Name x px,iter,ifs,0⟩] scope pos) spos) (bE (jB wd .one js tc te) (aK i)):=Ar i hN c hc hi xi (fun _ _ _ _=>oP c 0 rfl) ht he hy hl hsw hs
end
section
variable{prog:GC}{w:Hd}{A:He}{E:G0->G3->Prop}{s:G3}
theorem max_two{a b:G0}{c:Bool}{Q:G0->G3->Prop}(hh:A.handled=none)
 (cmp:∀(t:G3) (Q':G0->G3->Prop) (E':G0->G3->Prop),(∀x o,s.heap.get? x=some o->t.heap.get? x=some o)->Q' (.bool c) t->GA (GD prog w) A.in1 (richCompare .Gt b a) Q' E' t)
 (h:∀h' tk,(∀x o,s.heap.get? x=some o->h'.get? x=some o)->Q (if c=true then b else a) { s with heap:=h',toks:=tk }) :
 GA (GD prog w) A (call (.builtin "max") [a,b]) Q E s:=by
 have nm:(toString "max"++toString ".loop":String)="max.loop":=by decide
 refine call_function_tree F.kind_max F.plain_max F.entry_max (F.args_max2 _ _) ?_
 show GA _ A.in1 (Builtin.Builtins.bindParams "max" ["key","default"] 0 ⟨[],[]⟩ >>= fun _=>_) _ _ s
 refine G2 (wpAny_of_eq (a:=[none,none]) rfl ?_)
 show GA _ A.in1 (newTuple [a,b] >>= fun _=>_) _ _ s
 refine G2 (HY ?_)
 generalize e1:s.heap.push { cls:=.type "tuple",dict:=none,data:=.seq ([a,b]:List G0).toArray }=h1
 have k1:∀x o,s.heap.get? x=some o->h1.get? x=some o:=fun x o q=>by rw[<-e1];exact G4 _ q
 have hT:h1.IsTuple s.heap.objs.size #[a,b]:=by rw[<-e1];exact⟨_,GB _ rfl,rfl,0,rfl⟩
 have z1:h1.objs.size=s.heap.objs.size+1:=by rw[<-e1,J2]
 refine G2 (wpAny_pyIter_tuple (s:={ s with heap:=h1 }) hT ?_)
 refine G2 (HY ?_)
 dsimp only
 generalize eI:h1.objs.size=I
 generalize e2:h1.push _=h2
 have k2:∀x o,h1.get? x=some o->h2.get? x=some o:=fun x o q=>by rw[<-e2];exact G4 _ q
 have hI:h2.IsTupleIter I s.heap.objs.size 0:=by rw[<-e2,<-eI];exact⟨_,GB _ rfl,rfl,rfl⟩
 have z2:h2.objs.size=I+1:=by rw[<-e2,J2,eI]
 generalize eS:h2.objs.size=S
 generalize e3:h2.push _=h3
 have k3:∀x o,h2.get? x=some o->h3.get? x=some o:=fun x o q=>by rw[<-e3];exact G4 _ q
 have hS:h3.get? S=some { cls:=.type "list",dict:=none,data:=.seq #[] 0,slots:=#[] }:=by rw[<-e3,<-eS];exact GB _ rfl
 have SI:S≠I:=by omega
 have old:∀x o,s.heap.get? x=some o->x≠I/\x≠S:=fun x o q=>⟨GZ (G6 (Gu q) (by omega)),GZ (G6 (Gu q) (by omega))⟩
 have hT3:h3.IsTuple s.heap.objs.size #[a,b]:=by
  obtain⟨o,q,r⟩:=hT
  exact⟨o,k3 _ _ (k2 _ _ q),r⟩
 have hI3:h3.IsTupleIter I s.heap.objs.size 0:=hI.at fun o q=>k3 _ _ q
 have TI:s.heap.objs.size≠I:=by omega
 have TS:s.heap.objs.size≠S:=by omega
 have keep3:∀x o,s.heap.get? x=some o->h3.get? x=some o:=fun x o q=>k3 _ _ (k2 _ _ (k1 _ _ q))
 rw[nm]
 refine Gw ⟨Jh IX _,?_⟩
 have last:∀(t:G3) (v:G0) (n:Nat),t.heap.IsTupleIter I s.heap.objs.size 2->t.heap.IsTuple s.heap.objs.size #[a,b]->t.heap.get? S=some { cls:=.type "list",dict:=none,data:=.seq #[v,v] n,slots:=#[] }->
  (∃h' tk,t={ s with heap:=h',toks:=tk }/\∀x o,s.heap.get? x=some o->h'.get? x=some o)->v=(if c=true then b else a)->codeAny (GD prog w) A (.builtin "max.loop" ⟨[.ref I,.none,.ref S],[]⟩) (fun r s'=>match r with|.ok (.ret v)=>Q v s'|.ok _=>False|.error e=>E e s') t:=by
  rintro t v n i2 tT lS ⟨h',tk,rfl,kt⟩ ev
  refine J7 F.entry_max_loop ?_
  rw[IE IX _]
  show GA _ A.in1 (seqItems? (.ref S) >>= fun _=>_) _ _ _
  refine G2 (wpAny_seqItems lS rfl ?_)
  show GA _ A.in1 (tryCatch (pyNext (.ref I)) _ >>= fun _=>_) _ _ _
  refine G2 (J3 (wpAny_pyNext_tuple_end (A:=A.in1) hh i2 tT (by simp) fun h4 q4=>?_))
  have lS4:h4.get? S=some _:=q4 _ _ SI lS
  show GA _ A.in1 (updateSeq S (fun _=>#[]) >>= fun _=>_) _ _ _
  refine G2 (wpAny_updateSeq lS4 rfl (G2 (wpAny_letGo (Gw ?_))))
  show Q v _
  rw[ev]
  exact h _ _ fun x o q=>(GJ _ _ (old x o q).2.symm).trans (q4 x o (old x o q).1 (kt x o q))
 refine J7 F.entry_max_loop ?_
 rw[IE IX _]
 show GA _ A.in1 (seqItems? (.ref S) >>= fun _=>_) _ _ _
 refine G2 (wpAny_seqItems (s:={ s with heap:=h3 }) hS rfl ?_)
 show GA _ A.in1 (tryCatch (pyNext (.ref I)) _ >>= fun _=>_) _ _ _
 refine G2 (J3 (II (s:={ s with heap:=h3 }) hI3 hT3 (x:=a) (by simp) fun h4 i4 q4=>?_))
 have hS4:h4.get? S=some _:=(q4.2 _ SI).trans hS
 have hT4:h4.IsTuple s.heap.objs.size #[a,b]:=by
  obtain⟨o,q,r⟩:=hT3
  exact⟨o,(q4.2 _ TI).trans q,r⟩
 show GA _ A.in1 (updateSeq S (fun _=>#[a,a]) >>= fun _=>_) _ _ _
 refine G2 (wpAny_updateSeq hS4 rfl ?_)
 rw[nm]
 refine Gw ⟨Jh IX _,?_⟩
 generalize e5:h4.update S _=h5
 have o5:∀x,x≠S->h5.get? x=h4.get? x:=fun x q=>by rw[<-e5];exact GJ _ _ q.symm
 have hS5:∃n,h5.get? S=some { cls:=.type "list",dict:=none,data:=.seq #[a,a] n,slots:=#[] }:=⟨_,by rw[<-e5];exact HH _ hS4 rfl⟩
 obtain⟨n5,hS5⟩:=hS5
 have i5:h5.IsTupleIter I s.heap.objs.size 1:=i4.at fun o q=>(o5 _ SI.symm).trans q
 have hT5:h5.IsTuple s.heap.objs.size #[a,b]:=by
  obtain⟨o,q,r⟩:=hT4
  exact⟨o,(o5 _ TS).trans q,r⟩
 have keep5:∀x o,s.heap.get? x=some o->h5.get? x=some o:=fun x o q=>(o5 _ (old x o q).2).trans ((q4.2 _ (old x o q).1).trans (keep3 x o q))
 refine J7 F.entry_max_loop ?_
 rw[IE IX _]
 show GA _ A.in1 (seqItems? (.ref S) >>= fun _=>_) _ _ _
 refine G2 (wpAny_seqItems (s:={ s with heap:=h5 }) hS5 rfl ?_)
 show GA _ A.in1 (tryCatch (pyNext (.ref I)) _ >>= fun _=>_) _ _ _
 refine G2 (J3 (II (s:={ s with heap:=h5 }) i5 hT5 (x:=b) (by simp) fun h6 i6 q6=>?_))
 have hS6:h6.get? S=some _:=(q6.2 _ SI).trans hS5
 have hT6:h6.IsTuple s.heap.objs.size #[a,b]:=by
  obtain⟨o,q,r⟩:=hT5
  exact⟨o,(q6.2 _ TI).trans q,r⟩
 have keep6:∀x o,s.heap.get? x=some o->h6.get? x=some o:=fun x o q=>(q6.2 _ (old x o q).1).trans (keep5 x o q)
 show GA _ A.in1 (tryCatch (holding [b,b] (richCompare .Gt b a >>= fun _=>_)) _ >>= fun _=>_) _ _ _
 refine G2 (J3 (HQ (G2 (cmp _ _ _ keep6 ?_))))
 refine G2 (HQ (HF ?_))
 refine G2 (wpAny_letGo (Gw ?_))
 cases c with
 |true=>
  simp only[if_true]at last ⊢
  refine G2 (wpAny_updateSeq hS6 rfl (G2 (wpAny_letGo ?_)))
  rw[nm]
  refine Gw ⟨Jh IX _,last _ b _ (i6.at fun o q=>(GJ _ _ SI).trans q) ?_ (HH _ hS6 rfl) ⟨_,_,rfl,fun x o q=>(GJ _ _ (old x o q).2.symm).trans (keep6 x o q)⟩ rfl⟩
  obtain⟨o,q,r⟩:=hT6
  exact⟨o,(GJ _ _ TS.symm).trans q,r⟩
 |false=>
  simp only[Bool.false_eq_true,if_false]at last ⊢
  refine G2 (wpAny_letGo ?_)
  rw[nm]
  exact Gw ⟨Jh IX _,last _ a _ i6 hT6 hS6 ⟨_,_,rfl,keep6⟩ rfl⟩
theorem min_two{a b:G0}{c:Bool}{Q:G0->G3->Prop}(hh:A.handled=none)
 (cmp:∀(t:G3) (Q':G0->G3->Prop) (E':G0->G3->Prop),(∀x o,s.heap.get? x=some o->t.heap.get? x=some o)->Q' (.bool c) t->GA (GD prog w) A.in1 (richCompare .Lt b a) Q' E' t)
 (h:∀h' tk,(∀x o,s.heap.get? x=some o->h'.get? x=some o)->Q (if c=true then b else a) { s with heap:=h',toks:=tk }) :
 GA (GD prog w) A (call (.builtin "min") [a,b]) Q E s:=by
 have nm:(toString "min"++toString ".loop":String)="min.loop":=by decide
 refine call_function_tree F.kind_min F.plain_min F.entry_min (F.args_min2 _ _) ?_
 show GA _ A.in1 (Builtin.Builtins.bindParams "min" ["key","default"] 0 ⟨[],[]⟩ >>= fun _=>_) _ _ s
 refine G2 (wpAny_of_eq (a:=[none,none]) rfl ?_)
 show GA _ A.in1 (newTuple [a,b] >>= fun _=>_) _ _ s
 refine G2 (HY ?_)
 generalize e1:s.heap.push { cls:=.type "tuple",dict:=none,data:=.seq ([a,b]:List G0).toArray }=h1
 have k1:∀x o,s.heap.get? x=some o->h1.get? x=some o:=fun x o q=>by rw[<-e1];exact G4 _ q
 have hT:h1.IsTuple s.heap.objs.size #[a,b]:=by rw[<-e1];exact⟨_,GB _ rfl,rfl,0,rfl⟩
 have z1:h1.objs.size=s.heap.objs.size+1:=by rw[<-e1,J2]
 refine G2 (wpAny_pyIter_tuple (s:={ s with heap:=h1 }) hT ?_)
 refine G2 (HY ?_)
 dsimp only
 generalize eI:h1.objs.size=I
 generalize e2:h1.push _=h2
 have k2:∀x o,h1.get? x=some o->h2.get? x=some o:=fun x o q=>by rw[<-e2];exact G4 _ q
 have hI:h2.IsTupleIter I s.heap.objs.size 0:=by rw[<-e2,<-eI];exact⟨_,GB _ rfl,rfl,rfl⟩
 have z2:h2.objs.size=I+1:=by rw[<-e2,J2,eI]
 generalize eS:h2.objs.size=S
 generalize e3:h2.push _=h3
 have k3:∀x o,h2.get? x=some o->h3.get? x=some o:=fun x o q=>by rw[<-e3];exact G4 _ q
 have hS:h3.get? S=some { cls:=.type "list",dict:=none,data:=.seq #[] 0,slots:=#[] }:=by rw[<-e3,<-eS];exact GB _ rfl
 have SI:S≠I:=by omega
 have old:∀x o,s.heap.get? x=some o->x≠I/\x≠S:=fun x o q=>⟨GZ (G6 (Gu q) (by omega)),GZ (G6 (Gu q) (by omega))⟩
 have hT3:h3.IsTuple s.heap.objs.size #[a,b]:=by
  obtain⟨o,q,r⟩:=hT
  exact⟨o,k3 _ _ (k2 _ _ q),r⟩
 have hI3:h3.IsTupleIter I s.heap.objs.size 0:=hI.at fun o q=>k3 _ _ q
 have TI:s.heap.objs.size≠I:=by omega
 have TS:s.heap.objs.size≠S:=by omega
 have keep3:∀x o,s.heap.get? x=some o->h3.get? x=some o:=fun x o q=>k3 _ _ (k2 _ _ (k1 _ _ q))
 rw[nm]
 refine Gw ⟨Jh IY _,?_⟩
 have last:∀(t:G3) (v:G0) (n:Nat),t.heap.IsTupleIter I s.heap.objs.size 2->t.heap.IsTuple s.heap.objs.size #[a,b]->t.heap.get? S=some { cls:=.type "list",dict:=none,data:=.seq #[v,v] n,slots:=#[] }->
  (∃h' tk,t={ s with heap:=h',toks:=tk }/\∀x o,s.heap.get? x=some o->h'.get? x=some o)->v=(if c=true then b else a)->codeAny (GD prog w) A (.builtin "min.loop" ⟨[.ref I,.none,.ref S],[]⟩) (fun r s'=>match r with|.ok (.ret v)=>Q v s'|.ok _=>False|.error e=>E e s') t:=by
  rintro t v n i2 tT lS ⟨h',tk,rfl,kt⟩ ev
  refine J7 F.entry_min_loop ?_
  rw[IE IY _]
  show GA _ A.in1 (seqItems? (.ref S) >>= fun _=>_) _ _ _
  refine G2 (wpAny_seqItems lS rfl ?_)
  show GA _ A.in1 (tryCatch (pyNext (.ref I)) _ >>= fun _=>_) _ _ _
  refine G2 (J3 (wpAny_pyNext_tuple_end (A:=A.in1) hh i2 tT (by simp) fun h4 q4=>?_))
  have lS4:h4.get? S=some _:=q4 _ _ SI lS
  show GA _ A.in1 (updateSeq S (fun _=>#[]) >>= fun _=>_) _ _ _
  refine G2 (wpAny_updateSeq lS4 rfl (G2 (wpAny_letGo (Gw ?_))))
  show Q v _
  rw[ev]
  exact h _ _ fun x o q=>(GJ _ _ (old x o q).2.symm).trans (q4 x o (old x o q).1 (kt x o q))
 refine J7 F.entry_min_loop ?_
 rw[IE IY _]
 show GA _ A.in1 (seqItems? (.ref S) >>= fun _=>_) _ _ _
 refine G2 (wpAny_seqItems (s:={ s with heap:=h3 }) hS rfl ?_)
 show GA _ A.in1 (tryCatch (pyNext (.ref I)) _ >>= fun _=>_) _ _ _
 refine G2 (J3 (II (s:={ s with heap:=h3 }) hI3 hT3 (x:=a) (by simp) fun h4 i4 q4=>?_))
 have hS4:h4.get? S=some _:=(q4.2 _ SI).trans hS
 have hT4:h4.IsTuple s.heap.objs.size #[a,b]:=by
  obtain⟨o,q,r⟩:=hT3
  exact⟨o,(q4.2 _ TI).trans q,r⟩
 show GA _ A.in1 (updateSeq S (fun _=>#[a,a]) >>= fun _=>_) _ _ _
 refine G2 (wpAny_updateSeq hS4 rfl ?_)
 rw[nm]
 refine Gw ⟨Jh IY _,?_⟩
 generalize e5:h4.update S _=h5
 have o5:∀x,x≠S->h5.get? x=h4.get? x:=fun x q=>by rw[<-e5];exact GJ _ _ q.symm
 have hS5:∃n,h5.get? S=some { cls:=.type "list",dict:=none,data:=.seq #[a,a] n,slots:=#[] }:=⟨_,by rw[<-e5];exact HH _ hS4 rfl⟩
 obtain⟨n5,hS5⟩:=hS5
 have i5:h5.IsTupleIter I s.heap.objs.size 1:=i4.at fun o q=>(o5 _ SI.symm).trans q
 have hT5:h5.IsTuple s.heap.objs.size #[a,b]:=by
  obtain⟨o,q,r⟩:=hT4
  exact⟨o,(o5 _ TS).trans q,r⟩
 have keep5:∀x o,s.heap.get? x=some o->h5.get? x=some o:=fun x o q=>(o5 _ (old x o q).2).trans ((q4.2 _ (old x o q).1).trans (keep3 x o q))
 refine J7 F.entry_min_loop ?_
 rw[IE IY _]
 show GA _ A.in1 (seqItems? (.ref S) >>= fun _=>_) _ _ _
 refine G2 (wpAny_seqItems (s:={ s with heap:=h5 }) hS5 rfl ?_)
 show GA _ A.in1 (tryCatch (pyNext (.ref I)) _ >>= fun _=>_) _ _ _
 refine G2 (J3 (II (s:={ s with heap:=h5 }) i5 hT5 (x:=b) (by simp) fun h6 i6 q6=>?_))
 have hS6:h6.get? S=some _:=(q6.2 _ SI).trans hS5
 have hT6:h6.IsTuple s.heap.objs.size #[a,b]:=by
  obtain⟨o,q,r⟩:=hT5
  exact⟨o,(q6.2 _ TI).trans q,r⟩
 have keep6:∀x o,s.heap.get? x=some o->h6.get? x=some o:=fun x o q=>(q6.2 _ (old x o q).1).trans (keep5 x o q)
 show GA _ A.in1 (tryCatch (holding [b,b] (richCompare .Lt b a >>= fun _=>_)) _ >>= fun _=>_) _ _ _
 refine G2 (J3 (HQ (G2 (cmp _ _ _ keep6 ?_))))
 refine G2 (HQ (HF ?_))
 refine G2 (wpAny_letGo (Gw ?_))
 cases c with
 |true=>
  simp only[if_true]at last ⊢
  refine G2 (wpAny_updateSeq hS6 rfl (G2 (wpAny_letGo ?_)))
  rw[nm]
  refine Gw ⟨Jh IY _,last _ b _ (i6.at fun o q=>(GJ _ _ SI).trans q) ?_ (HH _ hS6 rfl) ⟨_,_,rfl,fun x o q=>(GJ _ _ (old x o q).2.symm).trans (keep6 x o q)⟩ rfl⟩
  obtain⟨o,q,r⟩:=hT6
  exact⟨o,(GJ _ _ TS.symm).trans q,r⟩
 |false=>
  simp only[Bool.false_eq_true,if_false]at last ⊢
  refine G2 (wpAny_letGo ?_)
  rw[nm]
  exact Gw ⟨Jh IY _,last _ a _ i6 hT6 hS6 ⟨_,_,rfl,keep6⟩ rfl⟩
end
end SD
namespace HT
open PySem PyProof.Rows
def lexLe:List Int->List Int->Bool
 |[],[]=>true
 |[],_::_=>true
 |_::_,[]=>false
 |x::xs,y::ys=>if x=y then lexLe xs ys else decide (x<=y)
theorem so(x y:Int)(xs ys:List Int):lexLe (x::xs) (y::ys)=if x=y then lexLe xs ys else decide (x<=y):=rfl
theorem mM:lexLe [] []=true:=rfl
theorem mn(y:Int)(ys:List Int):lexLe [] (y::ys)=true:=rfl
theorem kB(x:Int)(xs:List Int):lexLe (x::xs) []=false:=rfl
theorem wM(A:He)(s:G3)(a:Int)(t:Tok)(c:Int)(u:Tok)(prog:GC)(w:Hd)(E:G0->G3->Prop)(Q:G0->G3->Prop)(h:Q (.bool (decide (a<=c))) s) : GA (GD prog w) A (richCompare .LtE (.int a t) (.int c u)) Q E s:=(PyProof.Rows.le_int h:GA (GD prog w) A (GF .LtE (.int a t) (.int c u)) Q E s)
section
open PySem.SeqAt
open PySem.AutoSeq1 (wpAny_loadPart')
open PySem.MeetsSeq PySem.MeetsSeq2 PySem.MeetsSeq3
theorem mB(l b:Addr)(items items2:Array G0)(n n2:Nat)(dd dd2:Option Addr)(sl sl2:Array (Option G0))(ns ms:List Int)(hi:HN items.toList ns)(hj:HN items2.toList ms) :
 Meets (Builtin.«tuple.__le__» ⟨[.ref l,.ref b],[]⟩)
  (fun _ R s=>s.heap.get? l=some { cls:=.type "tuple",dict:=dd,data:=.seq items n,slots:=sl }/\s.heap.get? b=some { cls:=.type "tuple",dict:=dd2,data:=.seq items2 n2,slots:=sl2 }/\
   R (.ok (.ret (.bool (lexLe ns ms)))) s):=
 .of_wp fun prog w A R s h=>by
  obtain⟨hp,g,d,tk,os⟩:=s;obtain⟨hl,hb,h⟩:=h
  have f2:=AutoSeq1.sub_tuple_tuple
  have z1:items.size=ns.length:=by rw[<-hi.length];simp
  have z2:items2.size=ms.length:=by rw[<-hj.length];simp
  wp_walk using HP hl,HP hb,wpAny_forIn_list _ (fun rest b s'=>b.1=none/\s'=⟨hp,g,d,tk,os⟩/\∃(vs ws:List G0) (ns' ms':List Int),rest=vs.zip ws/\
   HN vs ns'/\HN ws ms'/\ns'.length+items2.size=ms'.length+items.size/\R (.ok (.ret (.bool (lexLe ns' ms')))) ⟨hp,g,d,tk,os⟩) _
  case turn=>
   rintro⟨y,x⟩ rest b s' ⟨hb',rfl,vs,ws,ns',ms',hz,hvi,hwi,hlen,hR⟩
   cases hvi with
   |nil=>rw[List.zip_nil_left]at hz;cases hz
   |cons a t hvi'=>
    cases hwi with
    |nil=>rw[List.zip_nil_right]at hz;cases hz
    |cons c u hwi'=>
     rw[Ic]at hz
     injection hz with hyx hrest
     injection hyx with hy hx
     subst hy hx
     rw[so]at hR
     simp only[GP]at hlen
     obtain⟨e,he,hiff⟩:=iF A.in1 ⟨hp,g,d,tk,os⟩ a t c u
     refine G2 (he prog w _ _ ?_)
     cases e with
     |true=>
      rw[if_pos (hiff.mp rfl)]at hR
      wp_walk
      exact⟨rfl,rfl,_,_,_,_,hrest,hvi',hwi',by omega,hR⟩
     |false=>
      rw[if_neg (fun q=>absurd (hiff.mpr q) G5)]at hR
      have hri:=wM A.in1 ⟨hp,g,d,tk,os⟩ a t c u prog w
      wp_walk using hri
      exact⟨_,rfl,by simpa using hR⟩
  case fin=>
   rintro⟨b1,b2⟩ s' ⟨hb',rfl,vs,ws,ns',ms',hz,hvi,hwi,hlen,hR⟩
   simp only at hb'
   subst hb'
   have hv:lexLe ns' ms'=decide (items.size<=items2.size):=by
    cases hvi with
    |nil=>
     cases hwi with
     |nil=>
      simp only[HI]at hlen
      rw[mM]
      exact(decide_eq_true (by omega)).symm
     |cons c u hw=>
      simp only[HI,GP]at hlen
      rw[mn]
      exact(decide_eq_true (by omega)).symm
    |cons a t hv=>
     cases hwi with
     |nil=>
      simp only[HI,GP]at hlen
      rw[kB]
      exact(decide_eq_false (by omega)).symm
     |cons c u hw=>
      rw[Ic]at hz
      cases hz
   rw[hv]at hR
   wp_walk
   exact⟨_,rfl,by simpa[Ir]using hR⟩
  case h=>
   exact⟨rfl,rfl,items.toList,items2.toList,ns,ms,rfl,hi,hj,by omega,h⟩
end
section
variable{prog:GC}{w:Hd}{A:He}{E:G0->G3->Prop}{s:G3}
theorem rB{l b:Addr}{items items2:Array G0}{ns ms:List Int}{Q:G0->G3->Prop}(hl:IsTup s.heap l items)(hb:IsTup s.heap b items2)(hi:HN items.toList ns)(hj:HN items2.toList ms) (hu:A.units<Jc) (h:Q (.bool (lexLe ns ms)) s):GA (GD prog w) A (GF .LtE (.ref l) (.ref b)) Q E s:=by obtain⟨⟨cls,dd,data,sl⟩,ho,hc,n,hd⟩:=id hl;obtain⟨⟨cls2,dd2,data2,sl2⟩,ho2,hc2,n2,hd2⟩:=id hb;simp only at hc hd hc2 hd2;subst hc hd hc2 hd2;exact richCompare_meets_room (op:=.LtE) ⟨_,ho,rfl⟩ ⟨_,ho2,rfl⟩ PySem.F.slot_tuple_le PySem.F.entry_tuple_le (PySem.F.args_tuple_le_2 _ _) (mB l b items items2 n n2 dd dd2 sl sl2 ns ms hi hj) ⟨ho,ho2,show Ib (lexLe ns ms)≠Value.notImplemented/\Q (.bool (lexLe ns ms)) s from⟨(fun x=>nomatch x),h⟩⟩ hu
end
def bZ:List Int->List Int->Bool
 |[],[]=>false
 |[],_::_=>false
 |_::_,[]=>true
 |x::xs,y::ys=>if x=y then bZ xs ys else decide (y<x)
theorem sA(x y:Int)(xs ys:List Int):bZ (x::xs) (y::ys)=if x=y then bZ xs ys else decide (y<x):=rfl
theorem my:bZ [] []=false:=rfl
theorem lg(y:Int)(ys:List Int):bZ [] (y::ys)=false:=rfl
theorem l5(x:Int)(xs:List Int):bZ (x::xs) []=true:=rfl
theorem yR(A:He)(s:G3)(a:Int)(t:Tok)(c:Int)(u:Tok)(prog:GC)(w:Hd)(E:G0->G3->Prop)(Q:G0->G3->Prop)(h:Q (.bool (decide (c<a))) s) : GA (GD prog w) A (richCompare .Gt (.int a t) (.int c u)) Q E s:=(PyProof.Rows.gt_int h:GA (GD prog w) A (GF .Gt (.int a t) (.int c u)) Q E s)
section
open PySem.SeqAt
open PySem.AutoSeq1 (wpAny_loadPart')
open PySem.MeetsSeq PySem.MeetsSeq2 PySem.MeetsSeq3
theorem mP(l b:Addr)(items items2:Array G0)(n n2:Nat)(dd dd2:Option Addr)(sl sl2:Array (Option G0))(ns ms:List Int)(hi:HN items.toList ns)(hj:HN items2.toList ms) :
 Meets (Builtin.«tuple.__gt__» ⟨[.ref l,.ref b],[]⟩)
  (fun _ R s=>s.heap.get? l=some { cls:=.type "tuple",dict:=dd,data:=.seq items n,slots:=sl }/\s.heap.get? b=some { cls:=.type "tuple",dict:=dd2,data:=.seq items2 n2,slots:=sl2 }/\
   R (.ok (.ret (.bool (bZ ns ms)))) s):=
 .of_wp fun prog w A R s h=>by
  obtain⟨hp,g,d,tk,os⟩:=s;obtain⟨hl,hb,h⟩:=h
  have f2:=AutoSeq1.sub_tuple_tuple
  have z1:items.size=ns.length:=by rw[<-hi.length];simp
  have z2:items2.size=ms.length:=by rw[<-hj.length];simp
  wp_walk using HP hl,HP hb,wpAny_forIn_list _ (fun rest b s'=>b.1=none/\s'=⟨hp,g,d,tk,os⟩/\∃(vs ws:List G0) (ns' ms':List Int),rest=vs.zip ws/\
   HN vs ns'/\HN ws ms'/\ns'.length+items2.size=ms'.length+items.size/\R (.ok (.ret (.bool (bZ ns' ms')))) ⟨hp,g,d,tk,os⟩) _
  case turn=>
   rintro⟨y,x⟩ rest b s' ⟨hb',rfl,vs,ws,ns',ms',hz,hvi,hwi,hlen,hR⟩
   cases hvi with
   |nil=>rw[List.zip_nil_left]at hz;cases hz
   |cons a t hvi'=>
    cases hwi with
    |nil=>rw[List.zip_nil_right]at hz;cases hz
    |cons c u hwi'=>
     rw[Ic]at hz
     injection hz with hyx hrest
     injection hyx with hy hx
     subst hy hx
     rw[sA]at hR
     simp only[GP]at hlen
     obtain⟨e,he,hiff⟩:=iF A.in1 ⟨hp,g,d,tk,os⟩ a t c u
     refine G2 (he prog w _ _ ?_)
     cases e with
     |true=>
      rw[if_pos (hiff.mp rfl)]at hR
      wp_walk
      exact⟨rfl,rfl,_,_,_,_,hrest,hvi',hwi',by omega,hR⟩
     |false=>
      rw[if_neg (fun q=>absurd (hiff.mpr q) G5)]at hR
      have hri:=yR A.in1 ⟨hp,g,d,tk,os⟩ a t c u prog w
      wp_walk using hri
      exact⟨_,rfl,by simpa using hR⟩
  case fin=>
   rintro⟨b1,b2⟩ s' ⟨hb',rfl,vs,ws,ns',ms',hz,hvi,hwi,hlen,hR⟩
   simp only at hb'
   subst hb'
   have hv:bZ ns' ms'=decide (items.size>items2.size):=by
    cases hvi with
    |nil=>
     cases hwi with
     |nil=>
      simp only[HI]at hlen
      rw[my]
      exact(decide_eq_false (by omega)).symm
     |cons c u hw=>
      simp only[HI,GP]at hlen
      rw[lg]
      exact(decide_eq_false (by omega)).symm
    |cons a t hv=>
     cases hwi with
     |nil=>
      simp only[HI,GP]at hlen
      rw[l5]
      exact(decide_eq_true (by omega)).symm
     |cons c u hw=>
      rw[Ic]at hz
      cases hz
   rw[hv]at hR
   wp_walk
   exact⟨_,rfl,by simpa[Ir]using hR⟩
  case h=>
   exact⟨rfl,rfl,items.toList,items2.toList,ns,ms,rfl,hi,hj,by omega,h⟩
end
section
variable{prog:GC}{w:Hd}{A:He}{E:G0->G3->Prop}{s:G3}
theorem kx{l b:Addr}{items items2:Array G0}{ns ms:List Int}{Q:G0->G3->Prop}(hl:IsTup s.heap l items)(hb:IsTup s.heap b items2)(hi:HN items.toList ns)(hj:HN items2.toList ms) (hu:A.units<Jc) (h:Q (.bool (bZ ns ms)) s):GA (GD prog w) A (GF .Gt (.ref l) (.ref b)) Q E s:=by obtain⟨⟨cls,dd,data,sl⟩,ho,hc,n,hd⟩:=id hl;obtain⟨⟨cls2,dd2,data2,sl2⟩,ho2,hc2,n2,hd2⟩:=id hb;simp only at hc hd hc2 hd2;subst hc hd hc2 hd2;exact richCompare_meets_room (op:=.Gt) ⟨_,ho,rfl⟩ ⟨_,ho2,rfl⟩ PySem.F.slot_tuple_gt PySem.F.entry_tuple_gt (PySem.F.args_tuple_gt_2 _ _) (mP l b items items2 n n2 dd dd2 sl sl2 ns ms hi hj) ⟨ho,ho2,show Ib (bZ ns ms)≠Value.notImplemented/\Q (.bool (bZ ns ms)) s from⟨(fun x=>nomatch x),h⟩⟩ hu
end
end HT
namespace SD
open PySem PySem.Spec PyProof.Rows L2
section
variable{X:Cx}
theorem fE{K:cc}{H:Hp}:∀{ns:List Int} {xs:List V},aJ K H (ns.map D.int) xs->xs=ns.map V.int
 |[],xs,h=>by rw[List.map_nil,aJ]at h;exact h
 |n::ns,xs,h=>by
  rw[GH,aJ]at h
  obtain⟨x,r,rfl,h1,h2⟩:=h
  rw[Rep]at h1
  rw[h1,fE h2];rfl
theorem B7(hu:X.A.units<Jc):OpR X (GF .LtE) (fun x y H Q=>∃a b ns ms,x=.ref a/\y=.ref b/\SqT X.K H a (ns.map V.int)/\SqT X.K H b (ms.map V.int)/\Q (.bl (HT.lexLe ns ms)) H):=by intro pins s σ H x y v u Q I rx ry h;obtain⟨a,b,ns,ms,rfl,rfl,ha,hb,q⟩:=h;cases rx;cases ry;obtain⟨its,r1,p1,_⟩:=I.tuple ha;obtain⟨its2,r2,p2,_⟩:=I.tuple hb;exact HT.rB p1 p2 (intsAre_of r1) (intsAre_of r2) hu ⟨.bl (HT.lexLe ns ms),H,I,rfl,q⟩
theorem Dk(hu:X.A.units<Jc):OpR X (GF .Gt) (fun x y H Q=>∃a b ns ms,x=.ref a/\y=.ref b/\SqT X.K H a (ns.map V.int)/\SqT X.K H b (ms.map V.int)/\Q (.bl (HT.bZ ns ms)) H):=by intro pins s σ H x y v u Q I rx ry h;obtain⟨a,b,ns,ms,rfl,rfl,ha,hb,q⟩:=h;cases rx;cases ry;obtain⟨its,r1,p1,_⟩:=I.tuple ha;obtain⟨its2,r2,p2,_⟩:=I.tuple hb;exact HT.kx p1 p2 (intsAre_of r1) (intsAre_of r2) hu ⟨.bl (HT.bZ ns ms),H,I,rfl,q⟩
def nk(f:Int->Int->Bool)(g:List Int->List Int->Bool):R2D:=fun x y M Q=>match x,y with
 |.int i,.int j=>True/\Q (.bl (f i j)) M
 |.tup a,.tup b=>∃ns ms,a=Hz D.int ns/\b=Hz D.int ms/\Q (.bl (g ns ms)) M
 |_,_=>False
theorem ud{op:CmpOp}{f:Int->Int->Bool}{g:List Int->List Int->Bool}(h1:OpD X (GF op) (rI2 (fun _ _=>True) fun i j=>.bl (f i j))) (h2:OpR X (GF op) (fun x y H Q=>∃a b ns ms,x=.ref a/\y=.ref b/\SqT X.K H a (ns.map V.int)/\SqT X.K H b (ms.map V.int)/\Q (.bl (g ns ms)) H)):OpD X (GF op) (nk f g):=by
 refine d7 (h1.or h2) fun v u H Q zz1_0=>?_;obtain⟨x,y,M,R,r1,r2,a,q,fin⟩:=zz1_0;unfold nk at q;split at q
 ·exact .inl ⟨_,_,M,R,r1,r2,a,q,fin⟩
 ·obtain⟨ns,ms,rfl,rfl,q⟩:=q;rw[Rep]at r1;obtain⟨p,xs,rfl,hx,rx⟩:=r1;obtain⟨p',ys,rfl,hy,ry⟩:∃a xs,u=V.ref a/\SqT X.K H a xs/\aJ X.K H (Hz D.int ms) xs:=by rw[Rep]at r2;exact r2
  rw[fE rx]at hx;rw[fE ry]at hy;exact .inr ⟨p,p',ns,ms,rfl,rfl,hx,hy,fin _ _ _ _ .refl (by rw[Rep]) a q⟩
 ·exact q.elim
theorem eP(hu:X.A.units+64<Jc):OpD X (GF .Lt) (nk (fun i j=>decide (i<j)) HT.lexLt):=ud Fc (BX (by omega))
theorem jC(hu:X.A.units+64<Jc):OpD X (GF .LtE) (nk (fun i j=>decide (i<=j)) HT.lexLe):=ud Fb (B7 (by omega))
theorem iq(hu:X.A.units+64<Jc):OpD X (GF .Gt) (nk (fun i j=>decide (j<i)) HT.bZ):=ud Fh (Dk (by omega))
theorem vT(hc:X.calm=true)(hu:X.A.units+64<Jc):b5 X (.builtin "max") (fun xs H Q=>∃p q ns ms,xs=[.ref p,.ref q]/\SqT X.K H p (ns.map V.int)/\SqT X.K H q (ms.map V.int)/\Q (if HT.bZ ms ns=true then .ref q else .ref p) H):=by
 intro pins s σ H xs us Q I r z0;obtain⟨p,q,ns,ms,e,hp,hq,k⟩:=z0;subst e;obtain⟨u,v,rfl,ru,rv⟩:=vals2 r;cases ru;cases rv;obtain⟨its,r1,p1,_⟩:=I.tuple hp;obtain⟨its2,r2,p2,_⟩:=I.tuple hq;refine max_two (c:=HT.bZ ms ns) (I.ok.hd hc) (fun t Q' E' kt q'=>?_) fun h' tk kt=>⟨_,H,I.kept kt,?_,k⟩
 ·obtain⟨o1,a1,b1⟩:=p1;obtain⟨o2,a2,b2⟩:=p2;exact HT.kx (A:=X.A.in1) (s:=t) ⟨o2,kt _ _ a2,b2⟩ ⟨o1,kt _ _ a1,b1⟩ (intsAre_of r2) (intsAre_of r1) (by show X.A.units+1<Jc;omega) q'
 ·cases HT.bZ ms ns<;>rfl
theorem uS(hc:X.calm=true)(hu:X.A.units+64<Jc):b5 X (.builtin "min") (fun xs H Q=>∃p q ns ms,xs=[.ref p,.ref q]/\SqT X.K H p (ns.map V.int)/\SqT X.K H q (ms.map V.int)/\Q (if HT.lexLt ms ns=true then .ref q else .ref p) H):=by
 intro pins s σ H xs us Q I r z0;obtain⟨p,q,ns,ms,e,hp,hq,k⟩:=z0;subst e;obtain⟨u,v,rfl,ru,rv⟩:=vals2 r;cases ru;cases rv;obtain⟨its,r1,p1,_⟩:=I.tuple hp;obtain⟨its2,r2,p2,_⟩:=I.tuple hq;refine min_two (c:=HT.lexLt ms ns) (I.ok.hd hc) (fun t Q' E' kt q'=>?_) fun h' tk kt=>⟨_,H,I.kept kt,?_,k⟩
 ·obtain⟨o1,a1,b1⟩:=p1;obtain⟨o2,a2,b2⟩:=p2;exact HT.ml (A:=X.A.in1) (s:=t) ⟨o2,kt _ _ a2,b2⟩ ⟨o1,kt _ _ a1,b1⟩ (intsAre_of r2) (intsAre_of r1) (by show X.A.units+1<Jc;omega) q'
 ·cases HT.lexLt ms ns<;>rfl
def Bb:RC:=fun ds M Q=>match ds with
 |[.int i,.int j]=>Q (.int (max i j)) M
 |[.tup a,.tup b]=>∃ns ms,a=Hz D.int ns/\b=Hz D.int ms/\Q (.tup (Hz D.int (if HT.bZ ms ns=true then ms else ns))) M
 |_=>False
def Bp:RC:=fun ds M Q=>match ds with
 |[.int i,.int j]=>Q (.int (min i j)) M
 |[.tup a,.tup b]=>∃ns ms,a=Hz D.int ns/\b=Hz D.int ms/\Q (.tup (Hz D.int (if HT.lexLt ms ns=true then ms else ns))) M
 |_=>False
theorem uE(hc:X.calm=true)(hu:X.A.units+64<Jc):c7 X (.builtin "max") Bb:=bJ (b5.or (Cp hc) (vT hc hu)) fun vs H Q z9=>by
 obtain⟨ds,M,R,rs,a,q,fin⟩:=z9;unfold Bb at q;split at q
 ·exact .inl ⟨_,M,R,rs,a,q,fin⟩
 ·obtain⟨ns,ms,rfl,rfl,q⟩:=q;obtain⟨v,u,rfl,r1,r2⟩:=lE rs;rw[Rep]at r1;obtain⟨p,xs,rfl,hx,rx⟩:=r1;obtain⟨p',ys,rfl,hy,ry⟩:∃a xs,u=V.ref a/\SqT X.K H a xs/\aJ X.K H (Hz D.int ms) xs:=by rw[Rep]at r2;exact r2
  have hx':=hx;have hy':=hy;rw[fE rx]at hx';rw[fE ry]at hy';refine .inr ⟨p,p',ns,ms,rfl,hx',hy',fin _ _ _ _ .refl ?_ a q⟩;by_cases z:HT.bZ ms ns=true
  ·rw[if_pos z,if_pos z,Rep];exact⟨_,_,rfl,hy,ry⟩
  ·rw[if_neg z,if_neg z,Rep];exact⟨_,_,rfl,hx,rx⟩
 ·exact q.elim
theorem uO(hc:X.calm=true)(hu:X.A.units+64<Jc):c7 X (.builtin "min") Bp:=bJ (b5.or (Dq hc) (uS hc hu)) fun vs H Q z9=>by
 obtain⟨ds,M,R,rs,a,q,fin⟩:=z9;unfold Bp at q;split at q
 ·exact .inl ⟨_,M,R,rs,a,q,fin⟩
 ·obtain⟨ns,ms,rfl,rfl,q⟩:=q;obtain⟨v,u,rfl,r1,r2⟩:=lE rs;rw[Rep]at r1;obtain⟨p,xs,rfl,hx,rx⟩:=r1;obtain⟨p',ys,rfl,hy,ry⟩:∃a xs,u=V.ref a/\SqT X.K H a xs/\aJ X.K H (Hz D.int ms) xs:=by rw[Rep]at r2;exact r2
  have hx':=hx;have hy':=hy;rw[fE rx]at hx';rw[fE ry]at hy';refine .inr ⟨p,p',ns,ms,rfl,hx',hy',fin _ _ _ _ .refl ?_ a q⟩;by_cases z:HT.lexLt ms ns=true
  ·rw[if_pos z,if_pos z,Rep];exact⟨_,_,rfl,hy,ry⟩
  ·rw[if_neg z,if_neg z,Rep];exact⟨_,_,rfl,hx,rx⟩
 ·exact q.elim
end
end SD
namespace Ma
open SD
theorem AV{p z:Int}(h:0<p):0<p*z↔0<z:=by
 constructor
 ·intro q;by_cases hz:0<z
  ·exact hz
  ·have:p*z<=0:=Int.mul_nonpos_of_nonneg_of_nonpos (by omega) (by omega);omega
 ·exact fun q=>HX h q
theorem wg{a b c d:Int}(hb:0<b)(hd:0<d):Rat.divInt a b<Rat.divInt c d↔a*d<c*b:=by
 have e:=Rat.divInt_sub_divInt c a (d₁:=d) (d₂:=b) (by omega) (by omega);have h1:Rat.divInt a b<Rat.divInt c d↔0<Rat.divInt c d-Rat.divInt a b:=by constructor<;>intro z<;>grind
 rw[h1,e,kJ (HX hd hb)];omega
def ut(t b X m x:Int):Rat:=Rat.divInt (x*t+X*m) (b*m)
theorem nK{t b X m n x y:Int}(ht:0<t)(hb:0<b)(hm:0<m)(hn:0<n):ut t b X m x<ut t b X n y↔n*x<m*y:=by
 unfold ut;rw[wg (HX hb hm) (HX hb hn)];have e:(y*t+X*n)*(b*m)-(x*t+X*m)*(b*n)=(b*t)*(m*y-n*x):=by grind
 have:=AV (z:=m*y-n*x) (HX hb ht);omega
theorem xG{t b X m n x y:Int}(ht:0<t)(hb:0<b)(hm:0<m)(hn:0<n):ut t b X m x=ut t b X n y↔n*x=m*y:=by
 have h1:=nK (X:=X) (x:=x) (y:=y) ht hb hm hn;have h2:=nK (X:=X) (x:=y) (y:=x) ht hb hn hm;constructor
 ·intro e;have a:¬ut t b X m x<ut t b X n y:=by rw[e];exact Rat.lt_irrefl
  have c:¬ut t b X n y<ut t b X m x:=by rw[e];exact Rat.lt_irrefl
  rw[h1]at a;rw[h2]at c;omega
 ·intro e;have a:¬ut t b X m x<ut t b X n y:=by rw[h1];omega
  have c:¬ut t b X n y<ut t b X m x:=by rw[h2];omega
  grind
theorem oX{t b X x:Int}:Rat.divInt (x*t+X) b=ut t b X 1 x:=by unfold ut;rw[Int.mul_one,Int.mul_one]
theorem D1{t b X Y m n x y u v:Int}(ht:0<t)(hb:0<b)(hm:0<m)(hn:0<n) : ah (ut t b X m x) (ut t b Y m y) (ut t b X n u) (ut t b Y n v)↔HT.lexLt [n*x,n*y] [m*u,m*v]=true:=by
 unfold ah;rw[nK ht hb hm hn,xG ht hb hm hn,nK ht hb hm hn];simp only[HT.lexLt];by_cases h:n*x=m*u
 ·rw[if_pos h];by_cases h2:n*y=m*v
  ·rw[if_pos h2];simp;omega
  ·rw[if_neg h2];simp;omega
 ·rw[if_neg h];simp;omega
theorem dS(a b c d:Int):HT.lexLe [a,b] [c,d]=!HT.lexLt [c,d] [a,b]:=by
 simp only[HT.lexLe,HT.lexLt];by_cases h:a=c
 ·subst h;rw[if_pos rfl,if_pos rfl];by_cases h2:b=d
  ·subst h2;rw[if_pos rfl,if_pos rfl];rfl
  ·rw[if_neg h2,if_neg (fun e=>h2 e.symm)];rw[<-decide_not,decide_eq_decide];omega
 ·rw[if_neg h,if_neg (fun e=>h e.symm),<-decide_not,decide_eq_decide];omega
theorem dW(a b c d:Int):HT.bZ [a,b] [c,d]=HT.lexLt [c,d] [a,b]:=by
 simp only[HT.bZ,HT.lexLt];by_cases h:a=c
 ·subst h;rw[if_pos rfl,if_pos rfl];by_cases h2:b=d
  ·subst h2;simp
  ·rw[if_neg h2,if_neg (fun e=>h2 e.symm)]
 ·rw[if_neg h,if_neg (fun e=>h e.symm)]
theorem a9{a b c d:Int}:HT.lexLt [a,b] [c,d]=true↔a<c\/(a=c/\b<d):=by
 simp only[HT.lexLt];by_cases h:a=c
 ·subst h;rw[if_pos rfl];by_cases h2:b=d
  ·subst h2;rw[if_pos rfl];simp
  ·rw[if_neg h2];simp
 ·rw[if_neg h];simp;omega
end Ma
namespace SD
open PySem PySem.Spec PyProof.Rows L2
theorem aC{M:MH}{a p:PySem.Addr}{o:MO}(h:M a=some o)(hp:M p=none):a≠p:=fun e=>by subst e;rw[h]at hp;cases hp
def scl(t b x y:Int):D:=.tup [.int t,.int b,.int x,.int y]
structure Scl(t b x y:Int):Prop where
 t0:0<t
 t1:t<=10^9
 b0:0<b
 b1:b<=10^9
 x0:-(10^17)<=x
 x1:x<=10^17
 y0:-(10^17)<=y
 y1:y<=10^17
def uw(w:Int×Int×Int×Int):D:=.tup [.tup [.int w.1,.int w.2.1],.tup [.int w.2.2.1,.int w.2.2.2]]
def rwl(t b x y:Int)(w:Int×Int×Int×Int):D:=Ma.wll (Ma.ut t b x 1 w.1) (Ma.ut t b y 1 w.2.1) (Ma.ut t b x 1 w.2.2.1) (Ma.ut t b y 1 w.2.2.2)
def Uok(n:Int)(w:Int×Int×Int×Int):Prop:=(-n<=w.1/\w.1<=n)/\(-n<=w.2.1/\w.2.1<=n)/\(-n<=w.2.2.1/\w.2.2.1<=n)/\(-n<=w.2.2.2/\w.2.2.2<=n)
theorem range_getD(l:List D):(HD l.length).map (fun i=>(l[i]?).getD .non)=l:=by refine List.ext_getElem (by simp) fun i h1 h2=>?_;simp[h2]
theorem getD_map{α:Type}{f:α->D}{l:List α}{i:Nat}{a:α}(h:l[i]?=some a):((l.map f)[i]?).getD .non=f a:=by rw[Gs,h];rfl
theorem gP(a b c d:Int):Hc (.tuple [.int a,.int b]) (.tuple [.int c,.int d])=decide (a=c/\b=d):=by simp only[Hc,GV,ku,Bool.and_true,Bool.decide_and]
section
variable{X:Cx}
end
open PySem PySem.Spec PyProof.Rows L2 Ma
instance(a b c d:Rat):Decidable (Ma.ah a b c d):=inferInstanceAs (Decidable (_\/_))
def AS(a b c d e f g h:Rat):D:=
 let s:=if Ma.ah e f a b then(a,b)else(e,f)
 let n:=if Ma.ah c d g h then(c,d)else(g,h)
 if Ma.ah s.1 s.2 n.1 n.2 then .tup [.str "stretch",Ma.wll s.1 s.2 n.1 n.2]else if Ma.ah n.1 n.2 s.1 s.2 then .non else .tup [.str "spot",Ma.spt s.1 s.2]
def btw(x y s:Rat):Rat:=x+s*(y-x)
def lh(a b c d e f g h:Rat):D:=
 if Ma.sgn (Ma.cr a b c d e f)=0/\Ma.sgn (Ma.cr a b c d g h)=0 then AS a b c d e f g h
 else if 0<Ma.sgn (Ma.cr a b c d e f)*Ma.sgn (Ma.cr a b c d g h)\/0<Ma.sgn (Ma.cr e f g h a b)*Ma.sgn (Ma.cr e f g h c d)then .non
 else .tup [.str "spot",Ma.spt (btw e g (Ma.cr a b c d e f/(Ma.cr a b c d e f-Ma.cr a b c d g h))) (btw f h (Ma.cr a b c d e f/(Ma.cr a b c d e f-Ma.cr a b c d g h)))]
def crs(a b c d:Int):Int:=a*d-b*c
def dA(p q e f:Int):Int×Int:=if HT.bZ [e,f] [p,q]=true then(e,f)else(p,q)
def fQ(r s g h:Int):Int×Int:=if HT.lexLt [g,h] [r,s]=true then(g,h)else(r,s)
def wN(p q r s e f g h:Int):D:=
 let w:=crs (r-p) (s-q) (g-e) (h-f)
 if w=0 then
  if crs (r-p) (s-q) (e-p) (f-q)≠0\/HT.bZ [(dA p q e f).1,(dA p q e f).2] [(fQ r s g h).1,(fQ r s g h).2]=true then .non
  else if(dA p q e f).1=(fQ r s g h).1/\(dA p q e f).2=(fQ r s g h).2 then .tup [.int (dA p q e f).1,.int (dA p q e f).2,.int 1]
  else .tup [.tup [.int (dA p q e f).1,.int (dA p q e f).2],.tup [.int (fQ r s g h).1,.int (fQ r s g h).2]]
 else
  let k:=if w<0 then -crs (e-p) (f-q) (g-e) (h-f)else crs (e-p) (f-q) (g-e) (h-f)
  let m:=if w<0 then -crs (e-p) (f-q) (r-p) (s-q)else crs (e-p) (f-q) (r-p) (s-q)
  if min k m<0\/(w.natAbs:Int)<max k m then .non else .tup [.int (p*(w.natAbs:Int)+k*(r-p)),.int (q*(w.natAbs:Int)+k*(s-q)),.int (w.natAbs:Int)]
def E9(t b X Y:Int):D->D
 |.tup [.int x,.int y,.int m]=>.tup [.str "spot",Ma.spt (Ma.ut t b X m x) (Ma.ut t b Y m y)]
 |.tup [.tup [.int x,.int y],.tup [.int u,.int v]]=>.tup [.str "stretch",Ma.wll (Ma.ut t b X 1 x) (Ma.ut t b Y 1 y) (Ma.ut t b X 1 u) (Ma.ut t b Y 1 v)]
 |_=>.non
theorem wH{t b X m x:Int}(hb:0<b)(hm:0<m):Ma.ut t b X m x=((t:Rat)/b)*((x:Rat)/m)+(X:Rat)/b:=by
 unfold Ma.ut;rw[Rat.divInt_eq_div];have h1:(b:Rat)≠0:=by have:=Ma.pos_int hb;grind
 have h2:(m:Rat)≠0:=by have:=Ma.pos_int hm;grind
 rw[Rat.intCast_add,IL,IL,IL];grind
theorem eE{t b X x:Int}(hb:0<b):Ma.ut t b X 1 x=((t:Rat)/b)*(x:Rat)+(X:Rat)/b:=by rw[wH hb (by decide)];have:((1:Int):Rat)=1:=rfl;rw[this];grind
theorem CY(k x y p q r s e f:Rat):Ma.cr (k*p+x) (k*q+y) (k*r+x) (k*s+y) (k*e+x) (k*f+y)=k*k*((r-p)*(f-q)-(s-q)*(e-p)):=by unfold Ma.cr;grind
theorem qt{t b X Y p q r s e f:Int}(hb:0<b):Ma.cr (Ma.ut t b X 1 p) (Ma.ut t b Y 1 q) (Ma.ut t b X 1 r) (Ma.ut t b Y 1 s) (Ma.ut t b X 1 e) (Ma.ut t b Y 1 f)=((t:Rat)/b)*((t:Rat)/b)*((crs (r-p) (s-q) (e-p) (f-q):Int):Rat):=by rw[eE hb,eE hb,eE hb,eE hb,eE hb,eE hb,CY];unfold crs;rw[J9,IL,IL,J9,J9,J9,J9]
theorem sgn_mul{k:Rat}(hk:0<k)(z:Int):Ma.sgn (k*(z:Rat))=GW z:=by
 unfold Ma.sgn;by_cases h1:0<z
 ·rw[if_pos (Rat.mul_pos hk (Ma.pos_int h1)),GY h1]
 ·by_cases h2:z<0
  ·have h3:0<k*((-z:Int):Rat):=Rat.mul_pos hk (Ma.pos_int (by omega));rw[Rat.intCast_neg]at h3;rw[if_neg (by grind),if_pos (by grind),GK h2]
  ·obtain rfl:z=0:=by omega
   have:((0:Int):Rat)=0:=rfl;rw[this];simp
theorem gj{x y:Int}:0<GW x*GW y↔(0<x/\0<y)\/(x<0/\y<0):=by
 rcases Ht x 0 with h|h|h<;>rcases Ht y 0 with h'|h'|h'
 ·rw[GK h,GK h'];omega
 ·subst h';simp
 ·rw[GK h,GY h'];omega
 ·subst h;simp
 ·subst h;simp
 ·subst h;simp
 ·rw[GY h,GK h'];omega
 ·subst h';simp
 ·rw[GY h,GY h'];omega
theorem nv{t b X Y p q e f:Int}(ht:0<t)(hb:0<b):Ma.ah (Ma.ut t b X 1 p) (Ma.ut t b Y 1 q) (Ma.ut t b X 1 e) (Ma.ut t b Y 1 f)↔(p<e\/(p=e/\q<f)):=by rw[Ma.D1 ht hb (by decide) (by decide),Ma.a9];omega
theorem ui(p q r s e f g h:Int):crs (r-p) (s-q) (g-p) (h-q)=crs (r-p) (s-q) (e-p) (f-q)+crs (r-p) (s-q) (g-e) (h-f):=by unfold crs;grind
theorem tK(p q e f g h:Int):crs (g-e) (h-f) (p-e) (q-f)=crs (e-p) (f-q) (g-e) (h-f):=by unfold crs;grind
theorem uD(p q r s e f g h:Int):crs (g-e) (h-f) (r-e) (s-f)=crs (e-p) (f-q) (g-e) (h-f)-crs (r-p) (s-q) (g-e) (h-f):=by unfold crs;grind
theorem uK(p q r s e f:Int):crs (e-p) (f-q) (r-p) (s-q)=-crs (r-p) (s-q) (e-p) (f-q):=by unfold crs;grind
theorem A3(p q r s e f g h:Int):crs (r-p) (s-q) (g-e) (h-f)*(e-p)=crs (e-p) (f-q) (g-e) (h-f)*(r-p)+crs (r-p) (s-q) (e-p) (f-q)*(g-e):=by unfold crs;grind
theorem Ba(p q r s e f g h:Int):crs (r-p) (s-q) (g-e) (h-f)*(f-q)=crs (e-p) (f-q) (g-e) (h-f)*(s-q)+crs (r-p) (s-q) (e-p) (f-q)*(h-f):=by unfold crs;grind
theorem CG{k c W G H e g p r:Rat}(hk:k≠0)(hW:W≠0)(id:W*(e-p)=H*(r-p)+G*(g-e)) :
 btw (k*e+c) (k*g+c) (k*k*G/(k*k*G-k*k*(G+W)))=k*(p+H*(r-p)/W)+c:=by
 unfold btw
 have e1:k*k*G-k*k*(G+W)=-(k*k*W):=by grind
 rw[e1]
 grind
theorem yJ{t b X Y p q r s e f g h:Int}(ht:0<t)(hb:0<b) :
 lh (Ma.ut t b X 1 p) (Ma.ut t b Y 1 q) (Ma.ut t b X 1 r) (Ma.ut t b Y 1 s) (Ma.ut t b X 1 e) (Ma.ut t b Y 1 f) (Ma.ut t b X 1 g) (Ma.ut t b Y 1 h)=E9 t b X Y (wN p q r s e f g h):=by
 have htb:0<(t:Rat)/b:=by
  have h1:=Ma.pos_int ht
  have h2:=Ma.pos_int hb
  rw[Rat.div_def]
  exact Rat.mul_pos h1 (Rat.inv_pos.mpr h2)
 have hk:=Rat.mul_pos htb htb
 unfold lh wN
 rw[qt hb,qt hb,qt hb,qt hb,sgn_mul hk,sgn_mul hk,sgn_mul hk,sgn_mul hk,ui p q r s e f g h,tK p q e f g h,uD p q r s e f g h,uK p q r s e f]
 have ix:=A3 p q r s e f g h
 have iy:=Ba p q r s e f g h
 generalize crs (r-p) (s-q) (g-e) (h-f)=W at ix iy
 generalize crs (r-p) (s-q) (e-p) (f-q)=G at ix iy
 generalize crs (e-p) (f-q) (g-e) (h-f)=H at ix iy
 dsimp only
 by_cases hW:W=0
 ·subst hW
  rw[if_pos rfl]
  by_cases hG:G=0
  ·subst hG
   rw[if_pos (by simp)]
   unfold AS
   have hs:(if Ma.ah (Ma.ut t b X 1 e) (Ma.ut t b Y 1 f) (Ma.ut t b X 1 p) (Ma.ut t b Y 1 q)then(Ma.ut t b X 1 p,Ma.ut t b Y 1 q)else(Ma.ut t b X 1 e,Ma.ut t b Y 1 f))=(Ma.ut t b X 1 (dA p q e f).1,Ma.ut t b Y 1 (dA p q e f).2):=by
    unfold dA
    rw[Ma.dW]
    by_cases z:HT.lexLt [p,q] [e,f]=true
    ·rw[if_pos z,if_neg]
     rw[nv ht hb]
     rw[Ma.a9]at z
     omega
    ·rw[if_neg z]
     rw[Ma.a9]at z
     by_cases y:Ma.ah (Ma.ut t b X 1 e) (Ma.ut t b Y 1 f) (Ma.ut t b X 1 p) (Ma.ut t b Y 1 q)
     ·rw[if_pos y]
     ·rw[if_neg y]
      rw[nv ht hb]at y
      obtain⟨rfl,rfl⟩:e=p/\f=q:=by omega
      rfl
   have hn:(if Ma.ah (Ma.ut t b X 1 r) (Ma.ut t b Y 1 s) (Ma.ut t b X 1 g) (Ma.ut t b Y 1 h)then(Ma.ut t b X 1 r,Ma.ut t b Y 1 s)else(Ma.ut t b X 1 g,Ma.ut t b Y 1 h))=(Ma.ut t b X 1 (fQ r s g h).1,Ma.ut t b Y 1 (fQ r s g h).2):=by
    unfold fQ
    by_cases z:HT.lexLt [g,h] [r,s]=true
    ·rw[if_pos z,if_neg]
     rw[nv ht hb]
     rw[Ma.a9]at z
     omega
    ·rw[if_neg z]
     rw[Ma.a9]at z
     by_cases y:Ma.ah (Ma.ut t b X 1 r) (Ma.ut t b Y 1 s) (Ma.ut t b X 1 g) (Ma.ut t b Y 1 h)
     ·rw[if_pos y]
     ·rw[if_neg y]
      rw[nv ht hb]at y
      obtain⟨rfl,rfl⟩:g=r/\h=s:=by omega
      rfl
   rw[hs,hn]
   dsimp only
   generalize (dA p q e f).1=x1
   generalize (dA p q e f).2=y1
   generalize (fQ r s g h).1=x2
   generalize (fQ r s g h).2=y2
   rw[Ma.dW]
   have a1:=nv (X:=X) (Y:=Y) (p:=x1) (q:=y1) (e:=x2) (f:=y2) ht hb
   have a2:=nv (X:=X) (Y:=Y) (p:=x2) (q:=y2) (e:=x1) (f:=y1) ht hb
   have l1:=Ma.a9 (a:=x2) (b:=y2) (c:=x1) (d:=y1)
   by_cases z1:Ma.ah (Ma.ut t b X 1 x1) (Ma.ut t b Y 1 y1) (Ma.ut t b X 1 x2) (Ma.ut t b Y 1 y2)
   ·rw[if_pos z1]
    rw[a1]at z1
    rw[if_neg (by rw[l1];omega),if_neg (by omega)]
    rfl
   ·rw[if_neg z1]
    rw[a1]at z1
    by_cases z2:Ma.ah (Ma.ut t b X 1 x2) (Ma.ut t b Y 1 y2) (Ma.ut t b X 1 x1) (Ma.ut t b Y 1 y1)
    ·rw[if_pos z2]
     rw[a2]at z2
     rw[if_pos (by rw[l1];omega)]
     rfl
    ·rw[if_neg z2]
     rw[a2]at z2
     rw[if_neg (by rw[l1];omega),if_pos (by omega)]
     rfl
  ·rw[if_neg (by simp only[Int.sign_eq_zero_iff_zero];omega),if_pos (.inl (by rw[gj];omega)),if_pos (.inl hG)]
   rfl
 ·rw[if_neg (by simp only[Int.sign_eq_zero_iff_zero];omega),if_neg hW]
  by_cases hc:0<GW G*GW (G+W)\/0<GW H*GW (H-W)
  ·rw[if_pos hc]
   rw[gj,gj]at hc
   rw[if_pos]
   ·rfl
   ·by_cases hn:W<0
    ·rw[if_pos hn,if_pos hn];omega
    ·rw[if_neg hn,if_neg hn];omega
  ·rw[if_neg hc]
   rw[gj,gj]at hc
   rw[if_neg]
   ·show D.tup _=D.tup _
    have hWa:0<(W.natAbs:Int):=by omega
    have hWr:(W:Rat)≠0:=fun z=>hW (by have:=Rat.intCast_inj (a:=W) (b:=0);exact this.mp z)
    have hN:((W.natAbs:Int):Rat)≠0:=fun z=>by have:=(Rat.intCast_inj (a:=(W.natAbs:Int)) (b:=0)).mp z;omega
    have co:∀(Z a g' e' r':Int),W*(e'-a)=H*(r'-a)+G*(g'-e')->
     btw (Ma.ut t b Z 1 e') (Ma.ut t b Z 1 g') ((t:Rat)/b*((t:Rat)/b)*(G:Rat)/((t:Rat)/b*((t:Rat)/b)*(G:Rat)-(t:Rat)/b*((t:Rat)/b)*((G+W:Int):Rat))) =
      Ma.ut t b Z (W.natAbs:Int) (a*(W.natAbs:Int)+(if W<0 then -H else H)*(r'-a)):=fun Z a g' e' r' id=>by
     have idq:(W:Rat)*((e':Rat)-a)=H*((r':Rat)-a)+G*((g':Rat)-e'):=by
      have:=congrArg (fun z:Int=>(z:Rat)) id
      simpa[Rat.intCast_add,IL,J9]using this
     rw[eE hb,eE hb,wH hb hWa,Rat.intCast_add,CG (by grind) hWr idq,Rat.intCast_add,IL,IL,J9]
     have hq:(((if W<0 then -H else H:Int):Rat))/((W.natAbs:Int):Rat)=(H:Rat)/(W:Rat):=by
      by_cases hn:W<0
      ·rw[if_pos hn,show(W.natAbs:Int)=-W from by omega,Rat.intCast_neg,Rat.intCast_neg]
       grind
      ·rw[if_neg hn,show(W.natAbs:Int)=W from by omega]
     generalize (((if W<0 then -H else H:Int):Rat))=K at hq
     generalize ((W.natAbs:Int):Rat)=N at hq hN
     grind
    rw[co X p g e r ix,co Y q h f s iy]
   ·by_cases hn:W<0
    ·rw[if_pos hn,if_pos hn];omega
    ·rw[if_neg hn,if_neg hn];omega
theorem uc(x:Str):Hc (.str x) (.str x)=true:=by simp[Hc]
theorem om:Iy (G1 "spot")=true:=by decide +kernel
theorem sU:Iy (G1 "stretch")=true:=by decide +kernel
theorem Scl.b60{t b x y p:Int}(S:Scl t b x y)(hp:Bd 6 p):Ma.Bq 60 (Ma.ut t b x 1 p)/\Ma.Bq 60 (Ma.ut t b y 1 p):=by
 have bt:Bd 30 t:=by have:=S.t0;have:=S.t1;show t.natAbs<2^30;omega
 have bb:Bd 30 b:=by have:=S.b0;have:=S.b1;show b.natAbs<2^30;omega
 have bx:Bd 58 x:=by have:=S.x0;have:=S.x1;show x.natAbs<2^58;omega
 have by':Bd 58 y:=by have:=S.y0;have:=S.y1;show y.natAbs<2^58;omega
 have hb0:b≠0:=by have:=S.b0;omega
 rw[<-Ma.oX,<-Ma.oX];exact⟨.divInt hb0 ((((hp.mul bt).mono (by decide)).add bx).mono (by decide)) (bb.mono (by decide)),.divInt hb0 ((((hp.mul bt).mono (by decide)).add by').mono (by decide)) (bb.mono (by decide))⟩
theorem ny(z:Rat):Ma.sgn z=1\/Ma.sgn z=-1\/Ma.sgn z=0:=by
 unfold Ma.sgn;split
 ·exact .inl rfl
 ·split
  ·exact .inr (.inl rfl)
  ·exact .inr (.inr rfl)
theorem rF(z:Rat):Bd 64 (Ma.sgn z):=by rcases ny z with h|h|h<;>rw[h]<;>decide
end SD
namespace HT
open PySem PyProof.Rows
def dZ:List Int->List Int->Bool
 |[],[]=>true
 |[],_::_=>false
 |_::_,[]=>true
 |x::xs,y::ys=>if x=y then dZ xs ys else decide (y<=x)
theorem rT(x y:Int)(xs ys:List Int):dZ (x::xs) (y::ys)=if x=y then dZ xs ys else decide (y<=x):=rfl
theorem mI:dZ [] []=true:=rfl
theorem lM(y:Int)(ys:List Int):dZ [] (y::ys)=false:=rfl
theorem kD(x:Int)(xs:List Int):dZ (x::xs) []=true:=rfl
theorem yG(A:He)(s:G3)(a:Int)(t:Tok)(c:Int)(u:Tok)(prog:GC)(w:Hd)(E:G0->G3->Prop)(Q:G0->G3->Prop)(h:Q (.bool (decide (c<=a))) s) : GA (GD prog w) A (richCompare .GtE (.int a t) (.int c u)) Q E s:=(PyProof.Rows.ge_int h:GA (GD prog w) A (GF .GtE (.int a t) (.int c u)) Q E s)
section
open PySem.SeqAt
open PySem.AutoSeq1 (wpAny_loadPart')
open PySem.MeetsSeq PySem.MeetsSeq2 PySem.MeetsSeq3
theorem mL(l b:Addr)(items items2:Array G0)(n n2:Nat)(dd dd2:Option Addr)(sl sl2:Array (Option G0))(ns ms:List Int)(hi:HN items.toList ns)(hj:HN items2.toList ms) :
 Meets (Builtin.«tuple.__ge__» ⟨[.ref l,.ref b],[]⟩)
  (fun _ R s=>s.heap.get? l=some { cls:=.type "tuple",dict:=dd,data:=.seq items n,slots:=sl }/\s.heap.get? b=some { cls:=.type "tuple",dict:=dd2,data:=.seq items2 n2,slots:=sl2 }/\
   R (.ok (.ret (.bool (dZ ns ms)))) s):=
 .of_wp fun prog w A R s h=>by
  obtain⟨hp,g,d,tk,os⟩:=s;obtain⟨hl,hb,h⟩:=h
  have f2:=AutoSeq1.sub_tuple_tuple
  have z1:items.size=ns.length:=by rw[<-hi.length];simp
  have z2:items2.size=ms.length:=by rw[<-hj.length];simp
  wp_walk using HP hl,HP hb,wpAny_forIn_list _ (fun rest b s'=>b.1=none/\s'=⟨hp,g,d,tk,os⟩/\∃(vs ws:List G0) (ns' ms':List Int),rest=vs.zip ws/\
   HN vs ns'/\HN ws ms'/\ns'.length+items2.size=ms'.length+items.size/\R (.ok (.ret (.bool (dZ ns' ms')))) ⟨hp,g,d,tk,os⟩) _
  case turn=>
   rintro⟨y,x⟩ rest b s' ⟨hb',rfl,vs,ws,ns',ms',hz,hvi,hwi,hlen,hR⟩
   cases hvi with
   |nil=>rw[List.zip_nil_left]at hz;cases hz
   |cons a t hvi'=>
    cases hwi with
    |nil=>rw[List.zip_nil_right]at hz;cases hz
    |cons c u hwi'=>
     rw[Ic]at hz
     injection hz with hyx hrest
     injection hyx with hy hx
     subst hy hx
     rw[rT]at hR
     simp only[GP]at hlen
     obtain⟨e,he,hiff⟩:=iF A.in1 ⟨hp,g,d,tk,os⟩ a t c u
     refine G2 (he prog w _ _ ?_)
     cases e with
     |true=>
      rw[if_pos (hiff.mp rfl)]at hR
      wp_walk
      exact⟨rfl,rfl,_,_,_,_,hrest,hvi',hwi',by omega,hR⟩
     |false=>
      rw[if_neg (fun q=>absurd (hiff.mpr q) G5)]at hR
      have hri:=yG A.in1 ⟨hp,g,d,tk,os⟩ a t c u prog w
      wp_walk using hri
      exact⟨_,rfl,by simpa using hR⟩
  case fin=>
   rintro⟨b1,b2⟩ s' ⟨hb',rfl,vs,ws,ns',ms',hz,hvi,hwi,hlen,hR⟩
   simp only at hb'
   subst hb'
   have hv:dZ ns' ms'=decide (items.size≥items2.size):=by
    cases hvi with
    |nil=>
     cases hwi with
     |nil=>
      simp only[HI]at hlen
      rw[mI]
      exact(decide_eq_true (by omega)).symm
     |cons c u hw=>
      simp only[HI,GP]at hlen
      rw[lM]
      exact(decide_eq_false (by omega)).symm
    |cons a t hv=>
     cases hwi with
     |nil=>
      simp only[HI,GP]at hlen
      rw[kD]
      exact(decide_eq_true (by omega)).symm
     |cons c u hw=>
      rw[Ic]at hz
      cases hz
   rw[hv]at hR
   wp_walk
   exact⟨_,rfl,by simpa[Ir]using hR⟩
  case h=>
   exact⟨rfl,rfl,items.toList,items2.toList,ns,ms,rfl,hi,hj,by omega,h⟩
end
section
variable{prog:GC}{w:Hd}{A:He}{E:G0->G3->Prop}{s:G3}
theorem sH{l b:Addr}{items items2:Array G0}{ns ms:List Int}{Q:G0->G3->Prop}(hl:IsTup s.heap l items)(hb:IsTup s.heap b items2)(hi:HN items.toList ns)(hj:HN items2.toList ms) (hu:A.units<Jc) (h:Q (.bool (dZ ns ms)) s):GA (GD prog w) A (GF .GtE (.ref l) (.ref b)) Q E s:=by obtain⟨⟨cls,dd,data,sl⟩,ho,hc,n,hd⟩:=id hl;obtain⟨⟨cls2,dd2,data2,sl2⟩,ho2,hc2,n2,hd2⟩:=id hb;simp only at hc hd hc2 hd2;subst hc hd hc2 hd2;exact richCompare_meets_room (op:=.GtE) ⟨_,ho,rfl⟩ ⟨_,ho2,rfl⟩ PySem.F.slot_tuple_ge PySem.F.entry_tuple_ge (PySem.F.args_tuple_ge_2 _ _) (mL l b items items2 n n2 dd dd2 sl sl2 ns ms hi hj) ⟨ho,ho2,show Ib (dZ ns ms)≠Value.notImplemented/\Q (.bool (dZ ns ms)) s from⟨(fun x=>nomatch x),h⟩⟩ hu
end
end HT
namespace SD
open PySem PySem.Spec PyProof.Rows L2
section
variable{X:Cx}
theorem Ds(hu:X.A.units<Jc):OpR X (GF .GtE) (fun x y H Q=>∃a b ns ms,x=.ref a/\y=.ref b/\SqT X.K H a (ns.map V.int)/\SqT X.K H b (ms.map V.int)/\Q (.bl (HT.dZ ns ms)) H):=by intro pins s σ H x y v u Q I rx ry h;obtain⟨a,b,ns,ms,rfl,rfl,ha,hb,q⟩:=h;cases rx;cases ry;obtain⟨its,r1,p1,_⟩:=I.tuple ha;obtain⟨its2,r2,p2,_⟩:=I.tuple hb;exact HT.sH p1 p2 (intsAre_of r1) (intsAre_of r2) hu ⟨.bl (HT.dZ ns ms),H,I,rfl,q⟩
theorem jr(hu:X.A.units+64<Jc):OpD X (GF .GtE) (nk (fun i j=>decide (j<=i)) HT.dZ):=ud EL (Ds (by omega))
def vS(g:Bool->Bool):R2D:=fun x y M Q=>∃p ps,Pd M x p/\(Pd M y (.list ps)\/Pd M y (.tuple ps))/\Ia p=true/\Hi ps=true/\Q (.bl (g (ps.any fun q=>Hc q p))) M
theorem kI{p:Jj}{n:Nat}(h:Ia p=true):min n p.depth<=63+1:=Gy (Nat.min_le_right _ _) (SeqAt.depth_of_shaped h)
theorem t4(hu:X.A.units+66<Jc):OpD X (GF .In) (vS fun b=>b):=by
 intro pins s σ H v u v' u' Q I rv ru h;obtain⟨x,y,M,R,r1,r2,a,⟨p,ps,p1,p2,s1,s2,hq⟩,fin⟩:=h;obtain⟨as,q1⟩:=cE I a p1 r1 rv;have hm:=kI (n:=HK ps) s1;rcases p2 with p2|p2
 ·obtain⟨bs,q2⟩:=cE I a p2 r2 ru;exact SeqAt.in_list_reads q2 q1 s2 (SeqAt.canLay_of_shaped s1) (by omega) ⟨.bl _,H,I,rfl,fin _ _ _ _ .refl (by rw[Rep]) a hq⟩
 ·obtain⟨bs,q2⟩:=cE I a p2 r2 ru;exact SeqAt.in_tuple_reads q2 q1 s2 (SeqAt.canLay_of_shaped s1) (by omega) ⟨.bl _,H,I,rfl,fin _ _ _ _ .refl (by rw[Rep]) a hq⟩
theorem me(hu:X.A.units+66<Jc):OpD X (GF .NotIn) (vS fun b=>!b):=by
 intro pins s σ H v u v' u' Q I rv ru h;obtain⟨x,y,M,R,r1,r2,a,⟨p,ps,p1,p2,s1,s2,hq⟩,fin⟩:=h;obtain⟨as,q1⟩:=cE I a p1 r1 rv;have hm:=kI (n:=HK ps) s1;rcases p2 with p2|p2
 ·obtain⟨bs,q2⟩:=cE I a p2 r2 ru;exact SeqAt.notIn_list_reads q2 q1 s2 (SeqAt.canLay_of_shaped s1) (by omega) ⟨.bl _,H,I,rfl,fin _ _ _ _ .refl (by rw[Rep]) a hq⟩
 ·obtain⟨bs,q2⟩:=cE I a p2 r2 ru;exact SeqAt.notIn_tuple_reads q2 q1 s2 (SeqAt.canLay_of_shaped s1) (by omega) ⟨.bl _,H,I,rfl,fin _ _ _ _ .refl (by rw[Rep]) a hq⟩
theorem l7{K:cc}{H:Hp}:∀{bs:List Bool} {xs:List V},aJ K H (bs.map D.bl) xs->xs=bs.map V.bl
 |[],xs,h=>by rw[List.map_nil,aJ]at h;exact h
 |n::ns,xs,h=>by
  rw[GH,aJ]at h
  obtain⟨x,r,rfl,h1,h2⟩:=h
  rw[Rep]at h1
  rw[h1,l7 h2];rfl
theorem fJ:∀{bs:List Bool} {us:List G0},Vals (bs.map V.bl) us->us=bs.map Ib
 |[],_,.nil=>rfl
 |b::bs,_,.cons r t=>by
  cases (show _=Ib b from r)
  rw[fJ t];rfl
def Ey:RC:=fun ds M Q=>match ds with
 |[.ref l]=>∃bs:List Bool,M l=some (.lst (Hz D.bl bs))/\Q (.bl (bs.all id)) M
 |_=>False
theorem vY(hc:X.calm=true):b5 X (.builtin "all") (fun xs H Q=>∃(p:Addr) (bs:List Bool),xs=[.ref p]/\SqL X.K H p (bs.map V.bl)/\Q (.bl (bs.all id)) H):=by
 intro pins s σ H xs us Q I r z0;obtain⟨l,bs,e,hp,k⟩:=z0;subst e;obtain⟨u,rfl,ru⟩:=vals1 r;cases ru;obtain⟨its,r1,p1,_⟩:=I.list hp;have hv:=fJ r1;have hl:=p1.isList;have lt:l≠s.heap.objs.size:=GZ (let⟨_,e,_⟩:=hl;Gu e);refine call_all_walk (x:=.ref l) (wpAny_pyIter_list hl ⟨s.heap.objs.size,[s.heap.objs.size,l],[s.heap.objs.size],its.toArray.size,_,_,fun i=>(bs[i]?).getD true,rfl,Walks.list (A:=X.A.in1) (I.ok.hd hc) _ l lt its.toArray,⟨⟨_,GB _ rfl,rfl,rfl⟩,hl.push _⟩,fun i v s' Q' E' hP hQ=>?_,fun h' tk hk=>?_⟩)
 ·have hP':its[i]?=some v:=by simpa using hP
  rw[hv,Gs]at hP';cases eb:bs[i]? with
  |none=>rw[eb]at hP';cases hP'
  |some b=>
   rw[eb]at hP'
   cases hP'
   have hQ':Q' b s':=by simpa[eb]using hQ
   exact HF hQ'
 ·rw[show((HD its.toArray.size).all fun i=>(bs[i]?).getD true)=bs.all id by rw[Gz,hv,G7];exact LSm.range_all bs];exact⟨.bl (bs.all id),H,I.kept (LSm.kept_iter hk),rfl,k⟩
theorem yW(hc:X.calm=true):c7 X (.builtin "all") Ey:=bJ (vY hc) fun vs H Q z9=>by
 obtain⟨ds,M,R,rs,a,q,fin⟩:=z9;unfold Ey at q;split at q
 ·obtain⟨bs,e,q⟩:=q;obtain⟨v,rfl,r⟩:=b4 rs;rw[Rep]at r;subst r;obtain⟨xs,hx,rx⟩:=a _ _ e;rw[l7 rx]at hx;exact⟨_,bs,rfl,SqL.of hx,fin _ _ _ _ .refl (by rw[Rep]) a q⟩
 ·exact q.elim
def Ea(to:TD)(t:TAD):TD:=fun δ M Q=>to δ M fun x M1=>∃l ys,x=.ref l/\M1 l=some (.lst ys)/\t δ M1 fun ds M2=>∃xs d,ds=[d]/\M2 l=some (.lst xs)/\xs.length<1000000/\Q .non (au M2 l (.lst (xs++[d])))
variable{o e:Expr}{to:TD}{t:TAD}{apos cpos:Pos}
theorem bF(ho:DE X o to)(ha:DA X [e] t)
 (hbase:Iw o "append" X.env (eval o X.env)=eval o X.env:=by rfl)
 (hfew:((Ik cpos (Gx [e] X.env)).all (fun x=>!x.1)&&(backToKw cpos (keywordEach [] X.env)).all (fun x=>x.1.isSome)
  && decide ([e].length+([]:List Keyword).length+(if([]:List Keyword).isEmpty then 0 else 1)<30))=true:=by rfl)
 (hline:(apos.endLine==cpos.line)=true:=by rfl) (hs:Gx [e] X.env=(false,eval e X.env)::Gx [] X.env:=by rfl) (hplain:(Ik cpos (Gx [] X.env)).any (·.1)=false:=by rfl) :
 DE X (.Call (.Attribute o "append" apos) [e] [] cpos) (Ea to t):=
 bA (nW PySem.F.plainAttrs_list PySem.F.slot_list_append PySem.F.type_list_append nj ho ha hbase hfew hline hs hplain) fun σ H Q z9=>by
  obtain⟨δ,M,R,hsl,hM,q,fin⟩:=z9
  refine⟨δ,M,_,hsl,hM,q,fun x M1 v H1 g1 r1 a1 zz1_0=>?_⟩
  obtain⟨l,ys,ex,hl,q1⟩:=zz1_0
  subst ex
  rw[Rep]at r1
  subst r1
  obtain⟨vs,hvs,_⟩:=a1 _ _ hl
  refine⟨.inl ⟨rfl,vs,SqL.of hvs⟩,δ,M1,_,hsl.mono g1,a1,q1,fun ds M2 us H2 g2 r2 a2 zz2_0=>?_⟩
  obtain⟨xs,d,ed,hx,hn,q2⟩:=zz2_0
  subst ed
  obtain⟨u,rfl,ru⟩:=b4 r2
  obtain⟨ws,hws,rws⟩:=a2 _ _ hx
  have hlen:=rws.length
  refine⟨l,ws,u,rfl,rfl,hws,G6 (by omega) (show 1000000<=Gp from nbL rfl),?_⟩
  exact fin _ _ _ _ (g1.trans (g2.trans (.lst hws))) (by rw[Rep]) (a2.BA hws (rws.append (.cons ru .nil))) q2
end
theorem oi{k:Nat}{A:He}(r:Room k A):A.units+66<Jc:=by have:=r.un;omega
abbrev Wl:=Int×Int×Int×Int
def la(x y:Int):Int:=100*x+y
def l1(w:Wl):Int:=la w.1 w.2.1
def l2(w:Wl):Int:=la w.2.2.1 w.2.2.2
def sd(w:Wl)(x y:Int):Int:=crs (w.2.2.1-w.1) (w.2.2.2-w.2.1) (x-w.1) (y-w.2.1)
def sd1(w v:Wl):Int:=sd w v.1 v.2.1
def sd2(w v:Wl):Int:=sd w v.2.2.1 v.2.2.2
structure Un5(w:Wl):Prop where
 a:0<=w.1/\w.1<=20
 b:0<=w.2.1/\w.2.1<=20
 c:0<=w.2.2.1/\w.2.2.1<=20
 d:0<=w.2.2.2/\w.2.2.2<=20
 lt:l1 w<l2 w
def cm(w:Wl)(l s:Int):Prop:=l=l1 w\/l=l2 w\/l<l1 w\/l2 w<l\/s≠0
structure Fair(U V:Wl):Prop where
 ne:¬(l1 U=l1 V/\l2 U=l2 V)
 e1:cm U (l1 V) (sd1 U V)
 e2:cm U (l2 V) (sd2 U V)
 e3:cm V (l1 U) (sd1 V U)
 e4:cm V (l2 U) (sd2 V U)
 pr:0<=GW (sd1 U V)*GW (sd2 U V)\/0<=GW (sd1 V U)*GW (sd2 V U)
theorem Fair.swap{U V:Wl}(h:Fair U V):Fair V U:=⟨fun z=>h.ne ⟨z.1.symm,z.2.symm⟩,h.e3,h.e4,h.e1,h.e2,h.pr.symm⟩
theorem xP{z k:Int}(hk:0<k)(h:0<z*k):0<z:=by
 rcases Ht z 0 with q|q|q
 ·have:=Int.mul_neg_of_neg_of_pos q hk;omega
 ·subst q;simp at h
 ·exact q
theorem yB{z k:Int}(hk:0<k)(h:z*k<0):z<0:=by
 rcases Ht z 0 with q|q|q
 ·exact q
 ·subst q;simp at h
 ·have:=HX q hk;omega
theorem yI{x y u v:Int}(h1:0<=y/\y<=20)(h2:0<=v/\v<=20)(h:la x y=la u v):x=u/\y=v:=by unfold la at h;omega
section
variable{U V:Wl}(ap:max (l1 U) (l1 V)<min (l2 U) (l2 V))
include ap
end
theorem yV{a b c d:Int}(hb:0<=b/\b<=20)(hd:0<=d/\d<=20):HT.lexLt [a,b] [c,d]=decide (la a b<la c d):=by have h:=Ma.a9 (a:=a) (b:=b) (c:=c) (d:=d);rw[GU,h,decide_eq_true_eq];unfold la;omega
theorem A6{a b c d:Int}(hb:0<=b/\b<=20)(hd:0<=d/\d<=20):HT.lexLe [a,b] [c,d]=decide (la a b<=la c d):=by rw[Ma.dS,yV hd hb,<-decide_not,decide_eq_decide];omega
theorem Et{a b c d:Int}(hb:0<=b/\b<=20)(hd:0<=d/\d<=20):HT.bZ [a,b] [c,d]=decide (la c d<la a b):=by rw[Ma.dW,yV hd hb]
theorem e7{z:Int}(h:0<=z/\z<=20):Bd 6 z:=by show z.natAbs<2^6;omega
theorem xZ{x y u v:Int}(h1:0<=y/\y<=20)(h2:0<=v/\v<=20):(x=u/\y=v)↔la x y=la u v:=by unfold la;omega
theorem Ag{I:ItD}{tk:Tgt}{js:List Nat}{tc:TTD}{te:TD}{δ:DS}{M1:MH}{Q:DK}(f:Nat->Option D)(hn:I.n<=1000000)(hC:∀p ys,M1 p=none->I.C (au M1 p (.lst ys))) (h:∀i d M,i<I.n->I.item i=some d->Sub M1 M->∃os,AD tk d os/\(∀K:Bool->MH->Prop,K (f i).isSome M->tc (cδ os js δ) M K)/\∀e,f i=some e->∀K:DK,(∀M',Sub M M'->K e M')->te (cδ os js δ) M K) (hq:∀p,M1 p=none->Q (.ref p) (au M1 p (.lst ((HD I.n).filterMap f)))):xb I tk js tc te δ M1 Q:=by
 refine⟨hn,fun p hp=>⟨fun i ys M=>ys=(HD i).filterMap f/\M=au M1 p (.lst ys),⟨rfl,rfl⟩,?_,?_,?_⟩⟩
 ·rintro i ys M _ ⟨_,rfl⟩;exact hC p ys hp
 ·rintro i ys d M hi hd ⟨rfl,rfl⟩;obtain⟨os,ow,kt,ke⟩:=h i d _ hi hd (.new hp .refl);refine⟨os,ow,kt _ ?_⟩;cases e:f i with
  |none=>
   refine cu rfl ⟨_,.refl,?_,?_⟩
   ·rw[List.range_succ,List.filterMap_append];simp[e]
   ·rfl
  |some v=>
   refine bS rfl (ke v e _ fun M' s'=>⟨_,s',ag,?_,by rw[cP]⟩)
   rw[List.range_succ,List.filterMap_append];simp[e]
 ·rintro ys M ⟨rfl,rfl⟩;exact hq p hp
theorem xx{A:Wl}{x y:Int}(hA:Un5 A)(hy:0<=y/\y<=20)(h:(!(decide (A.1=x/\A.2.1=y)||decide (A.2.2.1=x/\A.2.2.2=y))&&(decide (l1 A<=la x y)&&decide (la x y<=l2 A)&&decide (sd A x y=0)))=false):cm A (la x y) (sd A x y):=by
 unfold cm;by_cases h1:A.1=x/\A.2.1=y
 ·exact .inl ((xZ hA.b hy).mp h1).symm
 ·by_cases h2:A.2.2.1=x/\A.2.2.2=y
  ·exact .inr (.inl ((xZ hA.d hy).mp h2).symm)
  ·rw[decide_eq_false h1,decide_eq_false h2,Bool.or_false,Bool.not_false,Bool.true_and,<-Bool.decide_and,<-Bool.decide_and,decide_eq_false_iff_not]at h;by_cases h3:sd A x y=0
   ·rcases Int.lt_or_le (la x y) (l1 A)with z|z
    ·exact .inr (.inr (.inl z))
    ·rcases Int.lt_or_le (l2 A) (la x y)with z'|z'
     ·exact .inr (.inr (.inr (.inl z')))
     ·exact absurd ⟨⟨z,z'⟩,h3⟩ h
   ·exact .inr (.inr (.inr (.inr h3)))
theorem BC(M:MH)(A:Wl)(x y:Int)(g:Bool->Bool)(Q:DK)(q:Q (.bl (g (decide (A.1=x/\A.2.1=y)||decide (A.2.2.1=x/\A.2.2.2=y)))) M):vS g (.tup [.int x,.int y]) (uw A) M Q:=by refine⟨_,_,Pd.of rfl,.inr (Pd.of rfl),rfl,rfl,?_⟩;rw[Iz,Iz,List.any_nil,gP,gP,Bool.or_false];exact q
theorem Br(z:Int):Bd 64 (GW z):=by
 rcases Ht z 0 with h|h|h
 ·rw[GK h];decide
 ·subst h;decide
 ·rw[GY h];decide
def uwP(w:Wl):Jj:=.tuple [.tuple [.int w.1,.int w.2.1],.tuple [.int w.2.2.1,.int w.2.2.2]]
theorem wO{M:MH}:∀ws:List Wl,Pds M (ws.map uw) (ws.map uwP)
 |[]=>.nil
 |w::ws=>.cons (Pd.of rfl) (wO ws)
theorem yr:∀ws:List Wl,Hi (ws.map uwP)=true
 |[]=>rfl
 |w::ws=>by rw[GH,Hi,yr ws];rfl
theorem xV:∀ws:List Wl,HK (ws.map uwP)<=10
 |[]=>nbL rfl
 |w::ws=>by
  rw[GH,HK]
  exact Nat.max_le.mpr ⟨nbL rfl,xV ws⟩
theorem u7(ws:List Wl):Ia (.list (ws.map uwP))=true:=by unfold Ia;have h1:=yr ws;have h2:=xV ws;rw[GG];refine⟨by rw[IF];exact h1,decide_eq_true ?_⟩;rw[PyData.depth];omega
theorem rC:∀ws:List Wl,Hc (.list (ws.map uwP)) (.list [])=ws.isEmpty
 |[]=>by simp[Hc,GV]
 |w::ws=>by simp[Hc,GV]
def PF(ws:List Wl):Prop:=∀(i j:Nat) (U V:Wl),i≠j->ws[i]?=some U->ws[j]?=some V->Fair U V
theorem Cy:PF []:=fun i j U V _ h=>by simp at h
theorem u9{ws:List Wl}{U:Wl}(h:PF ws)(hU:∀(j:Nat) (w:Wl),ws[j]?=some w->Fair U w):PF (ws++[U]):=by
 intro i j A B hij hA hB
 have get:∀{k:Nat} {C:Wl},(ws++[U])[k]?=some C->ws[k]?=some C\/(k=ws.length/\C=U):=fun{k C} e=>by
  rcases Nat.lt_trichotomy k ws.length with z|z|z
  ·rw[Hq z]at e;exact .inl e
  ·subst z;rw[Hm (G9 _)]at e;simp at e;exact .inr ⟨rfl,e.symm⟩
  ·rw[Hx (by simp;omega)]at e;cases e
 rcases get hA with a|⟨a,rfl⟩<;>rcases get hB with b|⟨b,rfl⟩
 ·exact h i j A B hij a b
 ·exact(hU _ _ a).swap
 ·exact hU _ _ b
 ·omega
theorem xE{w:Wl}(h:Un5 w){v:Int}(h0:0<=v)(h1:v<2):∃x y,atI [D.tup [.int w.1,.int w.2.1],.tup [.int w.2.2.1,.int w.2.2.2]] v=some (.tup [.int x,.int y])/\(0<=x/\x<=20)/\(0<=y/\y<=20):=by
 rcases(show v=0\/v=1 by omega)with rfl|rfl
 ·exact⟨_,_,rfl,h.a,h.b⟩
 ·exact⟨_,_,rfl,h.c,h.d⟩
theorem zB{ws:List Wl}{v:Int}(h0:0<=v)(h1:v<ws.length):∃w,w∈ws/\atI (ws.map uw) v=some (uw w):=by
 obtain⟨j,rfl⟩:∃j:Nat,v=(j:Int):=⟨v.toNat,by omega⟩;have hj:j<ws.length:=by omega
 exact⟨ws[j],List.getElem_mem hj,fL (by simp[hj])⟩
theorem vQ{p q e f:Int}(hp:0<=p/\p<=20)(hq:0<=q/\q<=20)(he:0<=e/\e<=20)(hf:0<=f/\f<=20)(ne:¬(p=e/\q=f)) :
 ∃w:Wl,(if HT.lexLt [e,f] [p,q]=true then[e,f]else[p,q])=[w.1,w.2.1]/\(if HT.bZ [e,f] [p,q]=true then[e,f]else[p,q])=[w.2.2.1,w.2.2.2]/\Un5 w:=by
 rw[yV hf hq,Et hf hq]
 have nl:la p q≠la e f:=fun z=>ne ((xZ hq hf).mpr z)
 by_cases h:la e f<la p q
 ·exact⟨(e,f,p,q),by rw[if_pos (decide_eq_true h)],by rw[if_neg (by simp;omega)],⟨he,hf,hp,hq,h⟩⟩
 ·have h':la p q<la e f:=by omega
  exact⟨(p,q,e,f),by rw[if_neg (by simpa using h)],by rw[if_pos (decide_eq_true h')],⟨hp,hq,he,hf,h'⟩⟩
theorem kS{t b X Y:Int}(ht:0<t)(hb:0<b)(w:Wl)(x y:Int):Ma.sgn (Ma.cr (Ma.ut t b X 1 w.1) (Ma.ut t b Y 1 w.2.1) (Ma.ut t b X 1 w.2.2.1) (Ma.ut t b Y 1 w.2.2.2) (Ma.ut t b X 1 x) (Ma.ut t b Y 1 y))=GW (sd w x y):=by
 have k:(0:Rat)<(t:Rat)/b:=by rw[Rat.div_def];exact Rat.mul_pos (Ma.pos_int ht) (Rat.inv_pos.mpr (Ma.pos_int hb))
 rw[qt hb,sgn_mul (Rat.mul_pos k k)];rfl
theorem rN{K:cc}{r r':R2D}{ta tb tc:TD}{σ:L2.St}{H:Hp}{Q:VK}(h:lift K (pR r r' ta tb tc) σ H Q):rW (jq K r) (jq K r') (lift K ta) (lift K tb) (lift K tc) σ H Q:=by
 obtain⟨δ,M,R,hs,hM,q,fin⟩:=h;refine⟨δ,M,_,hs,hM,q,fun x M1 v H1 g1 r1 a1 q1=>⟨δ,M1,_,hs.mono g1,a1,q1,fun y M2 u H2 g2 r2 a2 q2=>⟨x,y,M2,_,r1.mono g2,r2,a2,q2,fun z M3 w H3 g3 r3 a3 zz1_0=>?_⟩⟩⟩;obtain⟨k,e,q3⟩:=zz1_0;subst e;rw[Rep]at r3;refine⟨k,r3,?_⟩;cases k with
 |true=>
  rw[if_pos rfl]at q3 ⊢
  exact⟨δ,M3,_,hs.mono ((g1.trans g2).trans g3),a3,q3,fun u' M4 w' H4 g4 r4 a4 q4=>⟨y,u',M4,R,r2.mono (g3.trans g4),r4,a4,q4,fin.go (((g1.trans g2).trans g3).trans g4)⟩⟩
 |false=>
  rw[if_neg G5]at q3 ⊢
  exact fin _ _ _ _ ((g1.trans g2).trans g3) (by rw[Rep]) a3 q3
theorem qM{X:Cx}{a b c:Expr}{ta tb tc:TD}{pos:Pos}{op op':CmpOp}{r r':R2D}(ho:OpD X (GF op) r)(ho':OpD X (GF op') r')(ha:DE X a ta)(hb:DE X b tb)(hc:DE X c tc) (hm:lastMarks [op,op'] [b,c]=false:=by with_unfolding_all rfl):DT X (.Compare a [op,op'] [b,c] pos) (tBD (pR r r' ta tb tc)):=k6 (wV ho ho' ha hb hc hm) fun _ _ _ h=>jj (fun _ _ _ h=>rN h) h
section
variable{X:Cx}
variable{o e1 e2:Expr}{to:TD}{t:TAD}{apos cpos:Pos}
def xY:RC:=fun ds M Q=>match ds with
 |[.ref l]=>∃xs,M l=some (.lst xs)/\∀p,M p=none->Q (.ref p) (au M p (.lst xs))
 |[.tup xs]=>∀p,M p=none->Q (.ref p) (au M p (.lst xs))
 |_=>False
theorem ze:c7 X (.type "list") xY:=bJ oq fun vs H Q z9=>by
 obtain⟨ds,M,R,rs,a,q,fin⟩:=z9;unfold xY at q;split at q
 ·obtain⟨ys,e,q⟩:=q;obtain⟨v,rfl,r⟩:=b4 rs;rw[Rep]at r;subst r;obtain⟨xs,hx,rx⟩:=a _ _ e;exact⟨_,xs,rfl,.inl (SqL.of hx),fun z hz=>fin _ _ _ _ (.new hz) (by rw[Rep]) (a.jk hz rx) (q z (a.fresh hz))⟩
 ·obtain⟨v,rfl,r⟩:=b4 rs;rw[Rep]at r;obtain⟨p,xs,rfl,hx,rx⟩:=r;exact⟨_,xs,rfl,.inr hx,fun z hz=>fin _ _ _ _ (.new hz) (by rw[Rep]) (a.jk hz rx) (q z (a.fresh hz))⟩
 ·exact q.elim
end
theorem yE{α β:Type}(g:α->Option β):∀l:List α,(HD l.length).filterMap (fun i=>(l[i]?).bind g)=l.filterMap g:=by
 intro l
 induction l with
 |nil=>rfl
 |cons a l ih=>
  rw[GP,List.range_succ_eq_map,IP,IP,List.filterMap_map]
  have e:((fun i=>((a::l)[i]?).bind g)∘Nat.succ)=fun i=>(l[i]?).bind g:=by funext i;simp
  rw[e,ih]
  simp
section
variable{X:Cx}{pins:List (Addr×Obj)}{σ:L2.St}{H:Hp}{s:G3}
theorem rQ{h':Heap}{t':Nat}{e it:Addr}(I:Inv X pins σ H s)(k:∀b o,b≠e->b≠it->s.heap.get? b=some o->h'.get? b=some o)(fe:gp X pins H e)(fi:gp X pins H it):Inv X pins σ H { s with heap:=h',toks:=t' }:=by
 obtain⟨e0,e1,_,e3,e4,e5⟩:=fe;obtain⟨i0,i1,_,i3,i4,i5⟩:=fi;have ne:∀b u,H b=some u->b≠e/\b≠it:=fun b u q=>⟨fun z=>(by rw[z,e0]at q;cases q),fun z=>(by rw[z,i0]at q;cases q)⟩;have nc:∀{b:Addr},b∉[e,it]->b≠e/\b≠it:=fun{b} hc=>⟨fun z=>hc (by simp[z]),fun z=>hc (by simp[z])⟩;refine I.step (g':=s.gens) (d':=s.drawn) (ch:=[e,it]) (fun b hb=>?_) (fun b o _ _ hc q _=>k b o (nc hc).1 (nc hc).2 q) (fun b o _ _ hc q _=>⟨o.slots,k b o (nc hc).1 (nc hc).2 q⟩) (fun _ _ _ _ n=>n) (fun b o hc q=>⟨o,k b o (nc hc).1 (nc hc).2 q⟩) (fun _ _ q=>q) (fun _ _ _ q=>q) (fun b ps q=>⟨#[],by rw[q];simp⟩) (fun m hm=>?_) (fun b u q=>?_) I.bare
 ·rcases(show b=e\/b=it by simpa using hb)with rfl|rfl
  ·exact⟨e3,e1,e4,e5⟩
  ·exact⟨i3,i1,i4,i5⟩
 ·obtain⟨o,es,ep,ho,r⟩:=hm;exact⟨o,es,ep,k _ o (Ne.symm e1) (Ne.symm i1) ho,r⟩
 ·refine(I.hok b u q).gb (fun c v hc z=>?_) (fun _ z=>z) fun _ _ z=>z;rcases hc with y|y
  ·subst y;exact k _ v (ne _ u q).1 (ne _ u q).2 z
  ·exact k c v (ne c _ y).1 (ne c _ y).2 z
end
def Ite(K:cc)(a:Addr):It:=
 ⟨fun i H=>∃xs x,SqL K H a xs/\xs[i]?=some x,fun i H x H'=>∃T y,x=.ref T/\H T=none/\H'=upd H T (.tup [.int (i:Int),y])/\∀xs,SqL K H a xs->xs[i]?=some y,fun i H=>∃xs,SqL K H a xs/\xs.length<=i⟩
theorem vH{P:GC}{w:Hd}{K:cc}{elts:List Expr}{kt}{pt:Pos}(a e it:Addr)(hei:e≠it):Turn P w K (.Tuple elts kt pt) (Ite K a) [e,it] e (fun i h=>(∃old,IsEnum h e it (i:Int) old)/\h.IsListIter it a i) where
 mem:=by simp
 obj:=fun i h st b hb=>by
  rcases(show b=e\/b=it by simpa using hb)with rfl|rfl
  ·obtain⟨⟨old,q⟩,_⟩:=st
   exact⟨_,q,fun v z=>by
    have z':Data.fields _=Data.cell v:=z
    cases z'⟩
  ·obtain⟨o,q,c,d⟩:=st.2
   exact⟨o,q,fun v z=>by rw[d]at z;cases z⟩
 keep:=fun i h h' st k=>by
  obtain⟨⟨old,q⟩,st⟩:=st
  exact⟨⟨old,k e (by simp) _ q⟩,st.at fun o z=>k it (by simp) o z⟩
 item:=by
  intro X hP hw hK hc i pins s σ H E I hf st hg
  subst hP hw hK
  obtain⟨xs,x,hq,hx⟩:=hg
  obtain⟨its,rv,p,hz⟩:=I.list hq
  obtain⟨u,hu,ru⟩:=rv.get hx
  obtain⟨⟨old,he⟩,hit⟩:=st
  have le:e<s.heap.objs.size:=Gu he
  have li:it<s.heap.objs.size:=by obtain⟨o,q,_⟩:=hit;exact Gu q
  refine wpAny_pyNext_enum_item he hit p.isList (x:=u) (by simpa using hu) hei fun h1 ho hit1 hT hsz hk=>⟨_,rfl,wpAny_letOwnedTupleGo_enum (s:={ s with heap:=h1,toks:=s.toks+1 }) ho fun h2 he2 hs2=>?_⟩
  have hs2:Heap.SameBut e h1 h2:=hs2
  have fr:=I.fresh
  have I1:Inv X pins σ (upd H s.heap.objs.size (.tup [.int (i:Int),x])) { s with heap:=s.heap.push { cls:=.type "tuple",data:=.seq #[.int (i:Int) s.toks,u] },toks:=s.toks }:=
   I.laid (fun b v q=>G4 _ q) (G9 _) ⟨nbL rfl,[.int (i:Int) s.toks,u],.cons ⟨_,rfl⟩ (.cons ru .nil),⟨_,GB _ rfl,rfl,_,rfl⟩⟩
  have fk:∀{b:Addr},b<s.heap.objs.size->gp X pins H b->gp X pins (upd H s.heap.objs.size (.tup [.int (i:Int),x])) b:=fun{b} lt f=>⟨by rw[aQ (GZ lt)];exact f.1,f.2⟩
  have fe:=fk le (hf e (by simp))
  have fi:=fk li (hf it (by simp))
  have I2:Inv X pins σ (upd H s.heap.objs.size (.tup [.int (i:Int),x])) { s with heap:=h2,toks:=s.toks+1 }:=by
   refine rQ (s:={ s with heap:=s.heap.push { cls:=.type "tuple",data:=.seq #[.int (i:Int) s.toks,u] },toks:=s.toks }) I1 (fun b o ne ni q=>?_) fe fi
   have q:(s.heap.push { cls:=.type "tuple",data:=.seq #[.int (i:Int) s.toks,u] }).get? b=some o:=q
   refine(hs2.2 b ne).trans ?_
   rcases Heap.get?_push_cases q with⟨rfl,rfl⟩|q
   ·exact hT
   ·exact hk b o ne ni q
  refine⟨.ref s.heap.objs.size,_,I2,rfl,⟨_,x,rfl,fr,rfl,fun ys hy=>by rw[I.qS hy hq];exact hx⟩,⟨⟨u,?_⟩,hit1.at fun o z=>(hs2.2 it hei.symm).trans z⟩,fun b hb=>?_⟩
  ·have:(((i+1:Nat):Int))=(i:Int)+1:=by omega
   rw[this];exact he2
  ·rcases(show b=e\/b=it by simpa using hb)with rfl|rfl
   ·exact fe.1
   ·exact fi.1
 done:=by
  intro X hP hw hK hc i pins s σ H E I hf st hg
  subst hP hw hK
  obtain⟨xs,hq,hx⟩:=hg
  obtain⟨its,rv,p,hz⟩:=I.list hq
  obtain⟨⟨old,he⟩,hit⟩:=st
  obtain⟨f0,f1,f2,f3,f4,f5⟩:=hf it (by simp)
  have hl:=rv.length
  exact wpAny_pyNext_enum_end (I.ok.hd hc) he hit p.isList (by simp;omega) fun h' eb=>⟨rfl,I.turned (t':=s.toks) (fun b o hb q=>eb b o hb q) f0 f1 f3 f4 f5⟩
 self:=fun _ _ _ _ _ st h=>let⟨⟨_,he⟩,_⟩:=st;wpAny_pyIter_enum he h
theorem oH:Hj "enumerate"=some (.type "enumerate"):=by decide +kernel
section
variable{X:Cx}{elts:List Expr}{kt:Nat}{pt:Pos}
def Es(K:cc)(ta:TA):TI:=fun σ H R=>ta σ H fun vs H1=>∃a xs,vs=[.ref a]/\H1 a=some (.lst xs)/\R (Ite K a) H1
theorem zU{a:Expr}{ta:TA}{p pos:Pos}(hg:Gl X "enumerate")(hm:X.mg "enumerate"=none)(ha:PA X [a] ta)(hs:Gx [a] X.env=[(false,eval a X.env)]:=by rfl):PI X (.Tuple elts kt pt) (.Call (.Name "enumerate" p) [a] [] pos) (Es X.K ta):=by
 intro pins s σ H R I h;refine Call_ (kQ I hg hm oH (PyProof.Rows.callWith_type1 (thn (ha pos pins s σ H _ I h) fun us s1 zz1_0=>?_) hs rfl));obtain⟨vs,H1,I1,r1,q1⟩:=zz1_0;obtain⟨l,xs,ev,hH,q⟩:=q1;subst ev;obtain⟨u,rfl,ru⟩:=r1.one;cases ru;obtain⟨z,its,n,r,hl,e⟩:=I1.wj hH;refine call_enumerate_1 e fun h' he hit hsz hk=>wpAny_pyIter_enum he ?_
 have fp:∀b∈[s1.heap.objs.size+1,s1.heap.objs.size],gp X pins H1 b:=fun b hb=>by
  have hb':s1.heap.objs.size<=b:=by
   rcases(show b=s1.heap.objs.size+1\/b=s1.heap.objs.size by simpa using hb)with rfl|rfl
   ·exact Nat.le_succ _
   ·exact G9 _
  exact I1.wR hb' (I1.hok.fresh hb')
 exact⟨_,[s1.heap.objs.size+1,s1.heap.objs.size],_,_,H1,rfl,I1.kept (t':=s1.toks) hk,vH l _ _ (Nat.succ_ne_self _),⟨⟨_,he⟩,hit⟩,fp,q⟩
def E6(ta:TAD):TID:=fun δ M R=>ta δ M fun ds M1=>∃l es,ds=[.ref l]/\M1 l=some (.lst es)/\R ⟨es.length,fun i=>(es[i]?).map fun d=>.tup [.int (i:Int),d],fun M=>M l=some (.lst es)⟩ M1
theorem km{a:Expr}{ta:TAD}{p pos:Pos}(hg:Gl X "enumerate")(hm:X.mg "enumerate"=none)(ha:DA X [a] ta)(hs:Gx [a] X.env=[(false,eval a X.env)]:=by rfl):DI X (.Tuple elts kt pt) (.Call (.Name "enumerate" p) [a] [] pos) (E6 ta):=
 oK (zU hg hm ha hs) fun σ H R ⟨δ,M,RD,hs,hM,q,fin⟩=>⟨δ,M,_,hs,hM,q,fun ds M1 vs H1 g1 r1 a1 z9=>by
  obtain⟨l,es,e,hl,q1⟩:=z9
  subst e
  obtain⟨v,rfl,r⟩:=b4 r1
  rw[Rep]at r;subst r
  obtain⟨xs,hx,rs⟩:=a1 _ _ hl
  refine⟨l,xs,rfl,hx,fin _ M1 H1 _ g1 a1 q1 ⟨fun H2 M2 g2 a2 c2=>?_,fun i H2 M2 hi g2 a2 c2=>?_,?_⟩⟩
  ·obtain⟨ys,hy,ry⟩:=a2 _ _ (show M2 l=some (.lst es)from c2)
   exact⟨ys,SqL.of hy,by rw[<-ry.length];exact G9 _⟩
  ·obtain⟨ys,hy,ry⟩:=a2 _ _ (show M2 l=some (.lst es)from c2)
   have hi':i<ys.length:=by rw[<-ry.length];exact hi
   exact⟨ys,ys[i],SqL.of hy,by simp[hi']⟩
  ·rintro i H2 M2 v H3 hi g2 a2 c2 ⟨T,y,rfl,hT,rfl,hy⟩
   have hi:i<es.length:=hi
   obtain⟨ys,hys,ry⟩:=a2 _ _ (show M2 l=some (.lst es)from c2)
   obtain⟨x,e1,e2⟩:=ry.get (show es[i]?=some es[i] by simp[hi])
   have:=hy ys (SqL.of hys)
   rw[e1]at this;cases this
   exact⟨.new hT,a2.new hT,.tup [.int (i:Int),es[i]],by simp[hi],by rw[Rep];exact⟨T,_,rfl,SqT.of aW,.cons (by rw[Rep]) (.cons (e2.mono (.new hT)) .nil)⟩⟩⟩
end
section
variable{X:Cx}
theorem qN{x:Str}{i:Int}{pos:Pos}(hg:Gl X x)(hm:∃t,X.mg x=some (.int i t))(hd:(x==("__debug__":Str))=false:=by decide):DE X (.Name x pos) (tCD (.int i)):=by obtain⟨t,hm⟩:=hm;exact dc (t7 (v:=.int i) hg hm ⟨t,rfl⟩ hd) fun _=>by rw[Rep]
theorem DV{K:cc}{mg:Str->Option G0}{h:Heap}{x:Str}{i:Int}{t:Tok}(X:K.In h)(G:h.Ns Hb mg)(a:Hr K Hb x=some (some (.int i t))):∃t,mg x=some (.int i t):=⟨t,PySem.W.mg_of X G a⟩
theorem aJ.rev{K:cc}{H:Hp}:∀{ds:List D} {xs:List V},aJ K H ds xs->aJ K H ds.reverse xs.reverse
 |[],_,h=>by rw[aJ]at h;subst h;exact .nil
 |d::ds,_,h=>by
  rw[aJ]at h
  obtain⟨x,r,rfl,h1,h2⟩:=h
  rw[Jd,Jd]
  exact(aJ.rev h2).append (.cons h1 .nil)
variable{o:Expr}{to:TD}{apos cpos:Pos}
end
open PySem PySem.W PySem.Spec PySem.Calls PyProof.Rows Builtin Builtin.ObjectAttr Builtin.Getset_descriptor
section
variable{prog:GC}{w:Hd}{A:He}{E:G0->G3->Prop}{h:Heap}{g:Array GenState}{d:Drawn}{t:Nat}{os:OsState}{K:Frag}{a C:Addr}{o:Obj}
structure ErrC(K:Frag)(C:Addr):Prop where
 ga:findIn K (.ref C) "__getattribute__"=some (some (.builtin "BaseException.__getattribute__"))
 gt:findIn K (.ref C) "__getattr__"=some none
 cl:findIn K (.ref C) "__class__"=some (some (.builtin "object.__class__"))
 sub:subIn K (.ref C) (.type "BaseException")=some true
 mro:mroIn K C (.type "object")=some true
theorem dX{M:Model}(hx:h.get? a=some o)(hc:o.cls=.ref C):Looks M h (typeOf (.ref a)) (.ref C):=hc▸(Looks.ld hx).andThen .now
theorem mF{R:Result->G3->Prop}{tp:G0}(X:K.In h)(Z:ErrC K C)(hx:h.get? a=some o)(hc:o.cls=.ref C)(hq:R (.ok (.ret (.ref C))) ⟨h,g,d,t,os⟩) :
 codeAny (GD prog w) A (.call (.builtin "getset_descriptor.__get__") ⟨[.builtin "object.__class__",.ref a,tp],[]⟩) R ⟨h,g,d,t,os⟩:=by
 have L0:=dX (M:=GD prog w) hx hc
 have L1:=looks_mroIn (M:=GD prog w) X Z.mro
 refine Je KF.slot_gs.plain KF.entry_gs (KF.slot_gs.check _ _ _ _ _ _ _ _ KF.type_class (KF.args_gs _ _ tp) ?_)
 unfold Builtin.«getset_descriptor.__get__» descrGet;rw[dga_obj];refine G2 (Gw ?_);unfold descrGetter descrCheckInstance;unfold descrNameAndClass isInstance
 simp only[KF.owner_class]
 repeat lk
 refine And.intro (Code.quiet_builtin _ (by decide +kernel)) (J7 KF.entry_class ?_);unfold Builtin.«object.__class__» shownTypeOf;(repeat lk)
 exact hq
theorem vI{tk:Tok}{Q:PySem.Fin->G3->Prop}(X:K.In h)(Z:ErrC K C)(hx:h.get? a=some o)(hc:o.cls=.ref C)(hq:Q (.done (.ret (.ref C))) ⟨h,g,d,t,os⟩) :
 GA (GD prog w) A (Builtin.«object.__getattribute__» ⟨[.ref a,.str "__class__" tk],[]⟩) Q E ⟨h,g,d,t,os⟩:=by
 have L0:=dX (M:=GD prog w) (a:=a) hx hc
 have L3:=looks_findIn (M:=GD prog w) X Z.cl
 have hT5:(⟨h,g,d,t,os⟩:G3).TypeIs (.builtin "object.__class__") "getset_descriptor":=KF.type_class
 have f5:=KF.type_class
 have gsGet:=F.slot_gs_get.lookup;have gsSet:=F.slot_gs_set.lookup
 repeat (any_goals (first|assumption|with_reducible refine Looks.at L0 ?_|with_reducible refine Looks.at L3 ?_|wp_step))
 refine mF X Z hx hc ?_
 repeat (any_goals (first|wp_step|assumption))
theorem nT{M:Model}{nameV:G0}{Q:Unit->G3->Prop}(X:K.In h)(Z:ErrC K C)(hx:h.get? a=some o)(hc:o.cls=.ref C)(hq:Q () ⟨h,g,d,t,os⟩):GA M A (checkBuiltinCall "BaseException.__getattribute__" ⟨[.ref a,nameV],[]⟩) Q E ⟨h,g,d,t,os⟩:=by
 have kd:builtinKind "BaseException.__getattribute__"=some .slot:=by decide +kernel
 have sp:splitId "BaseException.__getattribute__"=some ("BaseException","__getattribute__"):=by decide +kernel
 have okArgs:=F.args_bexc_ga (.ref a) nameV;have L0:=dX (M:=M) hx hc;have L1:=looks_subIn (M:=M) X Z.sub;have LI:Looks M h (isInstance (.ref a) (.type "BaseException")) true:=L0.andThen L1;simp only[checkBuiltinCall,kd,sp];refine G2 (LI.at ?_)
 repeat (first|assumption|wp_step)
theorem xu{tk:Tok}{R:Result->G3->Prop}(sl:Slot "ValueError" "__getattribute__" "BaseException.__getattribute__")(X:K.In h)(Z:ErrC K C)(hx:h.get? a=some o)(hc:o.cls=.ref C)(hq:R (.ok (.ret (.ref C))) ⟨h,g,d,t,os⟩) : codeAny (GD prog w) A (.call (.builtin "BaseException.__getattribute__") ⟨[.ref a,.str "__class__" tk],[]⟩) R ⟨h,g,d,t,os⟩:=Je sl.plain F.entry_bexc_ga (nT X Z hx hc (vI X Z hx hc hq))
theorem va{Q:Option G0->G3->Prop}(sl:Slot "ValueError" "__getattribute__" "BaseException.__getattribute__")(X:K.In h)(Z:ErrC K C)(hx:h.get? a=some o)(hc:o.cls=.ref C)(hq:Q (some (.ref C)) ⟨h,g,d,t+1,os⟩):GA (GD prog w) A (getAttr? (.ref a) "__class__") Q E ⟨h,g,d,t,os⟩:=by
 have L0:=dX (M:=GD prog w) hx hc;have L1:=looks_findIn (M:=GD prog w) X Z.ga;have L2:=looks_findIn (M:=GD prog w) X Z.gt;have f3:=sl.bind (.ref a);have hx0:(false&&onTheHeap (IA "BaseException.__getattribute__"))=false:=rfl;have ne2:(IA "BaseException.__getattribute__"==IA "object.__getattribute__")=false:=by decide +kernel
 have ne1:(onTheHeap (Hy C)&&IA "BaseException.__getattribute__"==IA "object.__getattribute__")=false:=by rw[ne2];rfl
 unfold getAttr? getAttrBy?
 repeat (any_goals (first|assumption|with_reducible refine Looks.at L0 ?_|with_reducible refine Looks.at L1 ?_|with_reducible refine Looks.at L2 ?_|wp_step))
 refine xu sl X Z hx hc ?_
 repeat (any_goals (first|wp_step|assumption))
theorem Ay(sl:Slot "ValueError" "__getattribute__" "BaseException.__getattribute__")(Z:ErrC K C)(hcls:(clsIn K C).isSome=true):KitX K (.ref a) (.ref C) (fun h=>∃o,h.get? a=some o/\o.cls=.ref C) where
 ty:=fun M h X ⟨o,hx,hc⟩=>dX hx hc
 it:=fun M h X _=>by
  unfold clsIn at hcls
  split at hcls
  ·rename_i c' d' cd' sl' ho
   intro A' Q' E' s' k q
   unfold isType loadHead
   refine G2 ?_;exact wpAny_loadPart (k _ _ (X _ _ ho)) (Gw q)
  ·cases hcls
 ne:=fun h tp dd its n sl X ht=>by
  unfold clsIn at hcls
  split at hcls
  ·rename_i c' d' cd' sl' ho
   refine Bool.eq_false_iff.mpr fun q=>?_;have e:C=tp:=Hy.inj (beq_iff_eq.mp q)
   subst e
   have:=X _ _ ho
   rw[ht]at this
   cases this
  ·cases hcls
 ca:=fun{prog w A E Q s} X zz1_0 hq=>by
  obtain⟨o,hx,hc⟩:=zz1_0
  obtain⟨hh,g,d,t,os⟩:=s
  exact va sl X Z hx hc hq
end
def jJ(h:Heap):List Addr->Heap
 |[]=>h
 |a::l=>(jJ h l).hide a
theorem fg{h:Heap}{b:Addr}:∀{l:List Addr},b∉l->(jJ h l).get? b=h.get? b
 |[],_=>rfl
 |a::l,n=>by
  unfold jJ
  rw[Heap.hide_ne _ (fun e=>n (by rw[e];exact GR))]
  exact fg fun z=>n (Gr _ z)
theorem gE{h:Heap}{b:Addr}:∀{l:List Addr},b∈l->(jJ h l).get? b=none
 |a::l,m=>by
  unfold jJ
  by_cases e:b=a
  ·subst e;exact Heap.hide_self _ _
  ·rw[Heap.hide_ne _ e]
   exact gE ((GO.mp m).resolve_left e)
theorem rp{h:Heap}{b:Addr}{o:Obj}{l:List Addr}(e:(jJ h l).get? b=some o):b∉l/\h.get? b=some o:=by
 by_cases m:b∈l
 ·rw[gE m]at e;cases e
 ·rw[fg m]at e;exact⟨m,e⟩
theorem jg{env:Env}{l:List Env}{L:Addr}(h:env.frame=some L):frs (env::l)=L::frs l:=by unfold frs;rw[IP,h]
theorem pZ{h base base':Heap}:∀{l:List Env},h.FunFrames base l->(∀b∈frs l,base'.get? b=none)->h.FunFrames base' l
 |[],_,_=>trivial
 |env::r,⟨hk,⟨L,o,hf,hn,ho,hd⟩,hr⟩,n=>⟨hk,⟨L,o,hf,n L (by rw[jg hf];exact GR),ho,hd⟩,pZ hr fun b hb=>n b (by rw[jg hf];exact Gr _ hb)⟩
theorem kj{h base:Heap}:∀{l:List Env} {b:Addr},h.FunFrames base l->b∈frs l->∃o,h.get? b=some o/\∀vs:Array G0,o.data≠.fields vs
 |[],_,_,m=>by unfold frs at m;simp at m
 |env::r,b,⟨hk,⟨L,o,hf,hn,ho,hd⟩,hr⟩,m=>by
  rw[jg hf]at m
  rcases GO.mp m with e|m
  ·exact⟨o,by rw[e];exact ho,hd⟩
  ·exact kj hr m
theorem Af{P:GC}{w:Hd}{H:Hp}{h:Heap}{a:Addr}{o:HO}(x:cY P w H h a o):∃u,h.get? a=some u:=by
 cases o with
 |lst xs=>obtain⟨_,_,_,_,e⟩:=x;exact⟨_,e⟩
 |tup xs=>obtain⟨_,_,_,⟨_,e,_⟩⟩:=x;exact⟨_,e⟩
 |dK kvs=>obtain⟨_,_,_,_,o,_,_,e,_⟩:=x;exact⟨_,e⟩
 |dT kvs=>obtain⟨_,_,_,_,o,_,_,e,_⟩:=x;exact⟨_,e⟩
 |set S n=>obtain⟨o,_,_,_,e,_⟩:=x;exact⟨_,e⟩
 |ins C dx fs=>obtain⟨_,_,_,e,_⟩:=x;exact⟨_,e⟩
 |own y=>obtain⟨_,e⟩:=x;exact⟨_,e⟩
 |xd fs=>obtain⟨_,⟨_,_,_,e,_⟩,_⟩:=x;exact⟨_,e⟩
 |rng lo hi=>obtain⟨_,_,_,e⟩:=x;exact⟨_,e⟩
 |frz ob u=>obtain⟨e,_⟩:=x;exact⟨_,e⟩
 |tbl ps=>exact⟨_,(show h.get? a=some _ from x)⟩
 |met f y=>exact⟨_,(show h.get? a=some _ from x)⟩
 |ext φ=>obtain⟨_,e,_⟩:=x;exact e
structure Fly(P:GC)(w:Hd)(outer:List Env)(H H':Hp)(s s':G3)(a C:Addr):Prop where
 os:s'.os=s.os
 bare:AllBare s'.gens
 bs:∃(b:Heap) (a0:G0),b.FlyingW outer a (.ref C) a0 s'.heap/\HOk P w H' b/\
  (∀x o,s.heap.get? x=some o->H x=none->x∉frs outer->b.get? x=some o)/\(∀x o,s.heap.get? x=some o->x∉frs outer->∃o',b.get? x=some o')
 slot:∀x o,s.heap.get? x=some o->H x=none->x∈frs outer->∃sl,s'.heap.get? x=some { o with slots:=sl }
 free:∀x o,s.heap.get? x=some o->H x=none->H' x=none
 tups:∀b xs,H b=some (.tup xs)->H' b=some (.tup xs)
 frzs:∀b o u,H b=some (.frz o u)->H' b=some (.frz o u)
 tbls:∀b ps,H b=some (.tbl ps)->∃more,H' b=some (.tbl (ps++more))
section
variable{P:GC}{w:Hd}{outer:List Env}{H H':Hp}{s s':G3}{a C:Addr}
theorem Fly.un(F:Fly P w outer H H' s s' a C)(hf:∀x∈frs outer,H x=none):Un (frs outer) [] H H' s.heap s'.heap:=by
 obtain⟨b,a0,fl,hok,kp,th⟩:=F.bs;refine⟨fun x o e n nf _=>fl.1 x o (kp x o e n nf),fun x o e n m _=>F.slot x o e n m,fun x o e n _=>F.free x o e n,fun x o e _=>?_,F.tups,F.frzs,F.tbls⟩;by_cases m:x∈frs outer
 ·obtain⟨sl,q⟩:=F.slot x o e (hf x m) m;exact⟨_,q⟩
 ·obtain⟨o',q⟩:=th x o e m;exact⟨o',fl.1 x o' q⟩
theorem Fly.hok(F:Fly P w outer H H' s s' a C):HOk P w H' s'.heap:=by obtain⟨b,a0,fl,hok,_,_⟩:=F.bs;exact hok.kept fl.1
theorem Fly.new(F:Fly P w outer H H' s s' a C):H' a=none:=by
 obtain⟨b,a0,fl,hok,_,_⟩:=F.bs;cases e:H' a with
 |none=>rfl
 |some o=>
  obtain⟨u,q⟩:=Af (hok a o e)
  rw[fl.2.1]at q;cases q
theorem Fly.apart(F:Fly P w outer H H' s s' a C){x:Addr}{o:Obj}(e:s.heap.get? x=some o)(n:H x=none):x≠a:=by
 rintro rfl;obtain⟨b,a0,fl,hok,kp,_⟩:=F.bs;by_cases m:x∈frs outer
 ·obtain⟨o',e',d⟩:=kj fl.2.2.1 m;obtain⟨oe,vs,T,oT,ts,h1,_,h2,_⟩:=fl.2.2.2;rw[h1]at e';cases e';exact d vs h2
 ·have:=kp x o e n m;rw[fl.2.1]at this;cases this
end
theorem zA{K:cc}{fs ex:List Addr}{H H':Hp}{h h':Heap}(u:Un fs ex H H' h h'):Grow K H H':=by
 refine⟨fun a xs q=>?_,fun a xs q=>?_⟩
 ·rcases q with(q|⟨o,q⟩)|q
  ·exact .inl (.inl (u.tups _ _ q))
  ·exact .inl (.inr ⟨o,u.frzs _ _ _ q⟩)
  ·exact .inr q
 ·rcases q with⟨o,q⟩|q
  ·exact .inl ⟨o,u.frzs _ _ _ q⟩
  ·exact .inr q
def CXE(P:GC)(w:Hd):CXT:=fun outer H s E e s'=>∃a C H',e=.ref a/\Fly P w outer H H' s s' a C/\E (.ref C) none H'
section
variable{P:GC}{w:Hd}{K:cc}{mg:Str->Option G0}{base:Heap}{N:List Str}{qual:Str}{scope:Jb}{f:Addr}{cd:G0}{A:He}{outer:List Env}{s:G3}{H:Hp}{E:XK}
theorem Aa{pins:List (Addr×Obj)}{σ:L2.St}{H1:Hp}{s1:G3}(I:Inv (bI (CXE P w) P w K mg base N qual scope f cd A outer s H E) pins σ H1 s1){x:Addr}{o:Obj}(e:s.heap.get? x=some o)(n:x∉frs outer):x∉frs (bI (CXE P w) P w K mg base N qual scope f cd A outer s H E).stack:=by
 show x∉frs ((bI (CXE P w) P w K mg base N qual scope f cd A outer s H E).env::outer);rw[jg (L:=(bI (CXE P w) P w K mg base N qual scope f cd A outer s H E).env.locals) rfl];intro m;rcases GO.mp m with z|z
 ·have h1:s.heap.objs.size<=(bI (CXE P w) P w K mg base N qual scope f cd A outer s H E).env.locals:=I.ok.above;have h2:=Gu e;rw[z]at h2;exact absurd (G6 h2 h1) (Im _)
 ·exact n z
end
abbrev veM:List G0:=[Value.type "ValueError",Value.type "Exception",Value.type "BaseException",Value.type "object"]
structure ClsE(K:cc)(x:Str)(C:Addr):Prop where
 nm:Hr K Hb x=some (some (.ref C))
 ex:Ji K C veM "ValueError.__new__"=true
section
variable{P:GC}{w:Hd}{K:cc}{mg:Str->Option G0}{base:Heap}{N:List Str}{qual:Str}{scope:Jb}{f:Addr}{cd:G0}{A:He}{outer:List Env}{s:G3}{H:Hp}{E:XK}
end
section
variable{P:GC}{w:Hd}{K:cc}{mg:Str->Option G0}{base:Heap}
end
abbrev hold(X:Cx)(a:Addr):Cx:={ X with A:=X.A.mark (some (.ref a)),calm:=false }
section
variable{X:Cx}{pins:List (Addr×Obj)}{σ:L2.St}{H:Hp}{s:G3}{a:Addr}
theorem qy(I:Inv X pins σ H s):Inv (hold X a) pins σ H s:=⟨⟨I.ok.mod,I.ok.kind,I.ok.glob,I.ok.blt,I.ok.above,I.ok.inj,I.ok.has,I.ok.cab,(fun z=>Bool.noConfusion z),I.ok.frames,I.ok.stk,I.ok.exf,I.ok.bs,I.ok.bsz,I.ok.noex,I.ok.exfs,I.ok.jb,I.ok.frf⟩,I.os,I.bare,I.base,I.loc,I.cell,I.free,I.freeC,I.pin,I.hok,I.len⟩
theorem fB(ok:X.Ok)(I:Inv (hold X a) pins σ H s):Inv X pins σ H s:=⟨ok,I.os,I.bare,I.base,I.loc,I.cell,I.free,I.freeC,I.pin,I.hok,I.len⟩
theorem gU{M:Model}{A:He}{E:G0->G3->Prop}{j:Nat}{n:Str}{pos:Pos}{Q:Unit->G3->Prop}(I:Inv X pins σ H s)(hN:X.N.Nodup)(hj:X.N[j]?=some n)(hk:X.env.scope.names.lookup n=some .local)
 (h:∀s',Inv X pins (σ.set j none) H s'->Q () s'):GA M A (do bindName X.env n HC;unbindBehindTheSuite X.env n pos) Q E s:=by
 obtain⟨m,hn,hl⟩:=id I.loc
 have hcls:(X.env.scope.kind==.class||(X.env.scope.kind==.module&&X.env.locals != X.env.globals))=false:=by rw[I.ok.kind];rfl
 have hjσ:j<σ.length:=by rw[I.len];exact(GN.mp hj).1
 have cne:=I.cne
 obtain⟨oL,_,_,hoL,_⟩:=id hn
 refine wpAny_nameGoes_keeps hk hn hcls fun h' v hn' hs=>?_
 refine h { s with heap:=h',toks:=s.toks+1 } ⟨I.ok,I.os,I.bare,⟨fun b o e n hb hx=>?_,fun b o e n hb hx=>?_,I.base.free,fun b o e hx=>?_,I.base.tups,I.base.frzs,I.base.tbls⟩,⟨_,hn',fun i y v' e1 e2 e3=>?_⟩,fun y c e=>?_,I.free,I.freeC,fun p hp=>?_,fun b ob e=>?_,by simpa using I.len⟩
 ·exact(hs.2 b (GZ (G6 (Gu e) I.ok.above))).trans (I.base.keep b o e n hb hx)
 ·obtain⟨sl,e1⟩:=I.base.slot b o e n hb hx
  exact⟨sl,(hs.2 b (GZ (G6 (Gu e) I.ok.above))).trans e1⟩
 ·obtain⟨o',e1⟩:=I.base.there b o e hx
  exact⟨o',(hs.2 b (GZ (G6 (Gu e) I.ok.above))).trans e1⟩
 ·by_cases hij:i=j
  ·subst hij
   rw[List.getElem?_set_self hjσ]at e2
   cases e2
  ·rw[List.getElem?_set_ne (Ne.symm hij)]at e2
   obtain⟨u',r',q⟩:=hl i y v' e1 e2 e3
   refine⟨u',r',?_⟩
   rcases q with⟨k,e⟩|⟨k,c,e,z⟩
   ·refine .inl ⟨k,?_⟩
    have:y≠n:=fun e=>hij (kz hN e1 (e▸hj))
    simp[this,e]
   ·exact .inr ⟨k,c,e,z.sameBut hs (cne y c e)⟩
 ·obtain⟨w',z⟩:=I.cell y c e
  exact⟨w',z.sameBut hs (cne y c e)⟩
 ·obtain⟨e,n,ne,nf,d⟩:=I.pin p hp
  exact⟨(hs.2 p.1 ne).trans e,n,ne,nf,d⟩
 ·refine(I.hok b ob e).gb (fun c w' hc q=>(hs.2 c ?_).trans q) (fun _ q=>q) fun _ _ q=>q
  rintro rfl
  rcases hc with rfl|hc
  ·rw[I.free]at e;cases e
  ·rw[I.free]at hc;cases hc
end
theorem qm{M:Model}{A:He}{E:G0->G3->Prop}{K:cc}{s:G3}{a C S:Addr}{o:Obj}{Q:Bool->G3->Prop}(X:K.In s.heap)(ho:s.heap.get? a=some o)(hc:o.cls=.ref C) (hS:Ji K S veM "ValueError.__new__"=true) (hB:Hk K (.ref S) (.type "BaseException")=some true) {b:Bool} (hs:Hk K (.ref C) (.ref S)=some b) (q:Q b s):GA M A (excMatches (.ref a) (.ref S)) Q E s:=by
 unfold Ji at hS;split at hS
 ·rename_i dct cd sl hl;have gS:s.heap.get? S=some _:=X _ _ hl
  have L0:PySem.W.Looks M s.heap (isInstance (.ref S) (.type "tuple")) false:=by
   have t0:PySem.W.Looks M s.heap (typeOf (.ref S)) (.type "type"):=(PySem.W.Looks.ld gS).andThen .now
   exact t0.andThen (PySem.W.looks_subIn X (show Option.map _ (fastBuiltinMro "type")=_ by decide +kernel))
  have L1:PySem.W.Looks M s.heap (isType (.ref S)) true:=by intro A' Q' E' s' k q;unfold isType loadHead;refine G2 ?_;exact wpAny_loadPart (k _ _ gS) (Gw q)
  have L2:=PySem.W.looks_subIn (M:=M) X hB;have L3:PySem.W.Looks M s.heap (typeOf (.ref a)) (.ref C):=hc▸(PySem.W.Looks.ld ho).andThen .now;have L4:=PySem.W.looks_subIn (M:=M) X hs;have kk:∀(b:Addr) (o:Obj),s.heap.get? b=some o->s.heap.get? b=some o:=fun _ _ z=>z;unfold excMatches isExcClass;refine G2 (L0 _ _ _ _ kk ?_);simp only[Bool.false_eq_true,if_false,List.forIn_cons,List.forIn_nil,pure_bind,bind_assoc,Bool.not_true];refine G2 (L1 _ _ _ _ kk ?_);simp only[if_true];refine G2 (L2 _ _ _ _ kk ?_);simp only[Bool.not_true,Bool.false_eq_true,if_false,pure_bind,bind_assoc];refine G2 (L3 _ _ _ _ kk ?_);refine G2 (L4 _ _ _ _ kk ?_);cases b
  ·simp only[Bool.false_eq_true,if_false,pure_bind,bind_assoc];exact Gw q
  ·simp only[if_true,pure_bind,bind_assoc];exact Gw q
 ·cases hS
abbrev TR:=L2.St->Hp->(Hp->XK)->Prop
section
variable{Y:Cx}{k:Nat}{f:Addr}{fd:IC}{ps:List Str}{sp:Sp}{x:Str}{p pos:Pos}{e:Expr}{es:List Expr}{t:TA}
end
def gone(j:Nat)(D:Ends):Ends:={ nx:=fun σ H=>D.nx (σ.set j none) H,rt:=D.rt,bk:=fun σ H=>D.bk (σ.set j none) H,ct:=fun σ H=>D.ct (σ.set j none) H }
theorem Slots.gone{K:cc}{H:Hp}{δ:DS}{σ:L2.St}(h:Slots K H δ σ)(j:Nat):Slots K H (δ.set j none) (σ.set j none):=by
 refine⟨by simp[h.len],fun i d q=>?_⟩;rw[List.getElem?_set]at q;by_cases hij:j=i
 ·rw[if_pos hij]at q;split at q<;>cases q
 ·rw[if_neg hij]at q;obtain⟨v',e1,e2⟩:=h.at' i d q;exact⟨v',by rw[List.getElem?_set,if_neg hij];exact e1,e2⟩
def Bv(j:Nat)(B:EndsD):EndsD:={ nx:=fun δ M=>B.nx (δ.set j none) M,rt:=B.rt,bk:=fun δ M=>B.bk (δ.set j none) M,ct:=fun δ M=>B.ct (δ.set j none) M }
section
variable{Y:Cx}
end
open PySem.Sem (wp)
def jc(h h':Heap):Prop:=∀a o,h.get? a=some o->∃o',h'.get? a=some o'/\o'.dict=o.dict
theorem jc.refl{h:Heap}:jc h h:=fun _ o e=>⟨o,e,rfl⟩
theorem jc.trans{h h1 h2:Heap}(a:jc h h1)(b:jc h1 h2):jc h h2:=fun x o e=>let⟨o1,e1,d1⟩:=a x o e;let⟨o2,e2,d2⟩:=b x o1 e1;⟨o2,e2,d2.trans d1⟩
def KpD{α:Type}(t:Sem α):Prop:=∀(M:Model) (Γ:PySem.Ctx) (Q:α->Pos->G3->Prop) (E:G0->Pos->G3->Prop) (p:Pos) (s:G3),
 wp M Γ t Q E p s->wp M Γ t (fun a p' s'=>Q a p' s'/\jc s.heap s'.heap) (fun _ _ _=>False) p s
section
variable{α β:Type}
theorem KpD.pure{a:α}:KpD (Pure.pure a:Sem α):=fun M Γ Q E p s h=>⟨h,.refl⟩
theorem KpD.uns{w:String}:KpD (unsupported w:Sem α):=fun M Γ Q E p s h=>(show False from h).elim
theorem KpD.bind{t:Sem α}{f:α->Sem β}(h1:KpD t)(h2:∀a,KpD (f a)):KpD (t >>= f):=fun M Γ Q E p s h=>by rw[Hs]at h ⊢;refine Sem.wp_mono M Γ t (fun a p1 s1 zz1_0=>?_) (fun _ _ _ z=>z) p s (h1 M Γ _ E p s h);obtain⟨q,k⟩:=zz1_0;exact Sem.wp_mono M Γ (f a) (fun b p2 s2 zz2_0=>by obtain⟨q2,k2⟩:=zz2_0;exact(⟨q2,k.trans k2⟩)) (fun _ _ _ z=>z) p1 s1 (h2 a M Γ Q E p1 s1 q)
theorem KpD.load{a:Addr}:KpD (PySem.load a):=fun M Γ Q E p s h=>by obtain⟨o,e,q⟩:=(show ∃o,s.heap.get? a=some o/\Q o p s from h);exact⟨o,e,q,.refl⟩
theorem KpD.stack:KpD PySem.stack:=fun M Γ Q E p s h=>⟨h,.refl⟩
theorem AG{h:Heap}{a b:Addr}{f:Obj->Obj}{o:Obj}(hf:∀o,(f o).dict=o.dict/\(f o).isFreed=o.isFreed)(e:h.get? b=some o):∃o',(h.update a f).get? b=some o'/\o'.dict=o.dict:=by
 by_cases z:a=b
 ·subst z;exact⟨f o,HH f e ((hf o).2.trans (Heap.get?_some_iff.mp e).2),(hf o).1⟩
 ·exact⟨o,(GJ h f z).trans e,rfl⟩
theorem KpD.update{a:Addr}{f:Obj->Obj}(hf:∀o,(f o).dict=o.dict/\(f o).isFreed=o.isFreed):KpD (PySem.update a f):=fun M Γ Q E p s h=>
 have h':(s.heap.get? a).isSome/\Q () p { s with heap:=s.heap.update a f }:=h
 show(s.heap.get? a).isSome/\_ from⟨h'.1,h'.2,fun b o e=>AG hf e⟩
theorem KpD.alloc{o:Obj}:KpD (PySem.alloc o):=fun M Γ Q E p s h=>⟨h,fun a u e=>⟨u,G4 _ e,rfl⟩⟩
theorem KpD.ite{c:Prop}[Decidable c]{t u:Sem α}(h1:KpD t)(h2:KpD u):KpD (if c then t else u):=by
 split
 ·exact h1
 ·exact h2
end
theorem uY(g:Array G0->Array G0)(o:Obj):(o.mapFields g).dict=o.dict/\(o.mapFields g).isFreed=o.isFreed:=by obtain⟨c,d,dt,sl⟩:=o;cases dt<;>exact⟨rfl,rfl⟩
theorem vU{v:G0}:KpD (fieldsOf v):=by
 unfold fieldsOf;cases v<;>first|exact .uns|skip
 refine .bind .load fun o=>?_;cases o.data<;>first|exact .uns|exact .pure
theorem iU{v:G0}{i:Nat}:KpD (field v i):=by unfold field;refine .bind vU fun vs=>?_;cases vs[i]?<;>first|exact .uns|exact .pure
theorem gG{v x:G0}{i:Nat}:KpD (setField v i x):=by
 unfold setField;cases v<;>first|exact .uns|skip
 unfold updateField;refine .bind .load fun o=>?_;cases o.data<;>first|exact .uns|skip
 exact .ite (.update fun o=>uY _ o) .uns
theorem fv{e:G0}{f:Option Addr}:KpD (setFlight e f):=by unfold setFlight;refine .bind iU fun tb=>?_;exact .ite gG .pure
theorem xN:KpD underTheClaimsCaller:=by unfold underTheClaimsCaller;exact .bind .stack fun _=>.pure
theorem qq{env:Env}{b:Bool}:∀{l:List Env},KpD (keptBack env b l)
 |[]=>by
  unfold keptBack
  exact .ite .pure (.bind xN fun _=>.pure)
 |_::_=>.pure
theorem uR{env:Env}{l:List Env}:KpD (behindIsImport env l):=by unfold behindIsImport;refine .ite .pure (.ite .pure (.bind iU fun _=>.pure))
theorem qJ:∀{l:List Env},KpD (readyFrames l)
 |[]=>.pure
 |env::outer=>by
  unfold readyFrames
  cases env.frame with
  |none=>exact .uns
  |some f=>
   refine .bind .load fun o=>.ite .pure (.bind uR fun b=>.bind qq fun v=>.bind (.update fun o=>?_) fun _=>qJ)
   obtain⟨c,d,dt,sl⟩:=o
   cases dt<;>exact⟨rfl,rfl⟩
theorem rG{env:Env}:KpD (PySem.frameOf env):=by
 unfold PySem.frameOf frameEnvs;refine .bind (.bind .stack fun _=>.pure) fun l=>.bind ?_ fun r=>?_
 ·generalize List.dropWhile _ l=l';cases l' with
  |nil=>exact .pure
  |cons e r=>exact .bind qJ fun _=>.pure
 ·cases r<;>first|exact .uns|exact .pure
theorem xX{f:Addr}{b:Bool}:KpD (entryPlaceOf f b):=by
 unfold entryPlaceOf;refine .bind .stack fun acts=>?_;split
 ·exact .pure
 ·exact .pure
theorem wm{a b c d e:G0}{pl:List G0}:KpD (IT a b c d e pl):=by unfold IT newFields newObj;dsimp only;refine .ite .uns ?_;unfold newObjAsIs;exact .bind .alloc fun _=>.pure
theorem tq{e:G0}{env:Env}:KpD (noteFrame e env):=by
 unfold noteFrame;cases env.frame with
 |none=>exact .uns
 |some f=>
  have last:∀head:G0,KpD (do setField e 1 (<-IT head (<-PySem.frameOf env) .none (rawInt f) .none (<-entryPlaceOf f (head != .none)))):=fun head=>.bind rG fun _=>.bind xX fun _=>.bind wm fun _=>gG
  refine .bind iU fun head=>.ite (.bind iU fun x=>.ite .pure (.bind gG fun _=>last head)) (last head)
theorem lj{e:G0}{env:Env}:KpD (leaving env e):=.bind tq fun _=>fv
theorem KpD.any{α:Type}{t:Sem α}(k:KpD t){M:Model}{A:He}{Q:α->G3->Prop}{E:G0->G3->Prop}{s:G3}(h:GA M A t Q E s):GA M A t (fun a s'=>Q a s'/\jc s.heap s'.heap) (fun _ _=>False) s:=fun Γ p hΓ=>k M Γ _ _ p s (h Γ p hΓ)
def yU(e:G0)(f:Addr)(h:Heap):Prop:=∃a oe vs T oT ts,e=.ref a/\h.get? a=some oe/\oe.data=.fields vs/\vs[1]?=some (.ref T)/\h.get? T=some oT/\oT.data=.fields ts/\ts[3]?=some (rawInt f)
section
variable{M:Model}{Γ:PySem.Ctx}{E:G0->Pos->G3->Prop}{p:Pos}{s:G3}
theorem jz{v:G0}{i:Nat}{Q:G0->Pos->G3->Prop}(h:wp M Γ (field v i) Q E p s):∃a o vs x,v=.ref a/\s.heap.get? a=some o/\o.data=.fields vs/\vs[i]?=some x/\Q x p s:=by
 unfold field fieldsOf at h;rw[Hs]at h;cases v<;>first|exact(show False from h).elim|skip
 rename_i a;rw[Hs]at h;obtain⟨o,e,h⟩:=(show ∃o,s.heap.get? a=some o/\_ from h);rw[Sem.wp_pure]at h;cases hd:o.data<;>rw[hd]at h<;>first|exact(show False from h).elim|skip
 rename_i vs;have h:wp M Γ (match vs[i]? with|some x=>(pure x:Sem G0)|none=>unsupported "internal:no-such-field") Q E p s:=h;cases hx:vs[i]? with
 |none=>rw[hx]at h;exact(show False from h).elim
 |some x=>rw[hx]at h;exact⟨a,o,vs,x,rfl,e,hd,hx,h⟩
theorem dj{a:Addr}{i:Nat}{o:Obj}{vs:Array G0}{x:G0}{Q:G0->Pos->G3->Prop}(e:s.heap.get? a=some o)(hd:o.data=.fields vs)(hx:vs[i]?=some x)(h:Q x p s):wp M Γ (field (.ref a) i) Q E p s:=by unfold field fieldsOf;rw[Hs,Hs];refine⟨o,e,?_⟩;rw[Sem.wp_pure,hd];show wp M Γ (match vs[i]? with|some x=>(pure x:Sem G0)|none=>unsupported "internal:no-such-field") Q E p s;rw[hx];exact h
theorem fN{v x:G0}{i:Nat}{Q:Unit->Pos->G3->Prop}(h:wp M Γ (setField v i x) Q E p s):∃a o vs,v=.ref a/\s.heap.get? a=some o/\o.data=.fields vs/\i<vs.size/\Q () p { s with heap:=s.heap.update a (Obj.mapFields (·.setIfInBounds i x)) }:=by
 unfold setField at h;cases v<;>first|exact(show False from h).elim|skip
 rename_i a;unfold updateField at h;rw[Hs]at h;obtain⟨o,e,h⟩:=(show ∃o,s.heap.get? a=some o/\_ from h);rw[Sem.wp_pure]at h;cases hd:o.data<;>rw[hd]at h<;>first|exact(show False from h).elim|skip
 rename_i vs;dsimp only at h;by_cases hi:i<vs.size
 ·rw[if_pos hi]at h;exact⟨a,o,vs,rfl,e,hd,hi,(show(s.heap.get? a).isSome/\_ from h).2⟩
 ·rw[if_neg hi]at h;exact(show False from h).elim
theorem dO{a:Addr}{x:G0}{i:Nat}{o:Obj}{vs:Array G0}{Q:Unit->Pos->G3->Prop}(e:s.heap.get? a=some o)(hd:o.data=.fields vs)(hi:i<vs.size)(h:Q () p { s with heap:=s.heap.update a (Obj.mapFields (·.setIfInBounds i x)) }):wp M Γ (setField (.ref a) i x) Q E p s:=by unfold setField updateField;show wp M Γ (PySem.load a >>= _) Q E p s;rw[Hs];refine⟨o,e,?_⟩;rw[Sem.wp_pure,hd];dsimp only;rw[if_pos hi];exact⟨by rw[e];rfl,h⟩
theorem mC{h:Heap}{a:Addr}{o:Obj}{g:Obj->Obj}(e:h.get? a=some o)(hg:g o=o):h.update a g=h:=by
 obtain⟨e1,_⟩:=Heap.get?_some_iff.mp e;obtain⟨objs,l⟩:=h;show Heap.mk (objs.modify a g) l=_
 congr 1
 refine Array.ext_getElem? fun i=>?_;rw[Array.getElem?_modify];by_cases z:a=i
 ·subst z;rw[if_pos rfl];have e1:objs[a]?=some o:=e1;rw[e1,Option.map_some,hg]
 ·rw[if_neg z]
theorem rg{e:G0}{env:Env}{f:Addr}{Q:Unit->Pos->G3->Prop}(hf:env.frame=some f)(h:wp M Γ (leaving env e) Q E p s) :
 wp M Γ (noteFrame e env) (fun _ p1 s1=>yU e f s1.heap/\wp M Γ (setFlight e none) Q E p1 s1) E p s:=by
 unfold leaving at h
 rw[Hs]at h
 unfold noteFrame at h ⊢
 rw[hf]at h ⊢
 dsimp only at h ⊢
 have last:∀(head:G0) (p:Pos) (s:G3),wp M Γ (do setField e 1 (<-IT head (<-PySem.frameOf env) .none (rawInt f) .none (<-entryPlaceOf f (head != .none)))) (fun _ p1 s1=>wp M Γ (setFlight e none) Q E p1 s1) E p s->
  wp M Γ (do setField e 1 (<-IT head (<-PySem.frameOf env) .none (rawInt f) .none (<-entryPlaceOf f (head != .none)))) (fun _ p1 s1=>yU e f s1.heap/\wp M Γ (setFlight e none) Q E p1 s1) E p s:=fun head p s h=>by
  rw[Hs]at h ⊢
  refine Sem.wp_mono M Γ _ (fun fr p1 s1 h1=>?_) (fun _ _ _ z=>z) p s h
  rw[Hs]at h1 ⊢
  refine Sem.wp_mono M Γ _ (fun pl p2 s2 h2=>?_) (fun _ _ _ z=>z) p1 s1 h1
  rw[Hs]at h2 ⊢
  obtain⟨hh,g,d,t,os⟩:=s2
  unfold IT newFields newObj at h2 ⊢
  dsimp only at h2 ⊢
  generalize (if pl.isEmpty=true then J0 6 HC else pl)=r at h2 ⊢
  by_cases z:([head,fr,HC,rawInt f,HC]++r).toArray.size>Gp+2
  ·rw[if_pos z]at h2;exact(show False from h2).elim
  rw[if_neg z]at h2 ⊢
  have h2:wp M Γ (setField e 1 (.ref hh.objs.size)) (fun _ p1 s1=>wp M Γ (setFlight e none) Q E p1 s1) E p2 ⟨hh.push { cls:=.type "traceback",data:=.fields ([head,fr,HC,rawInt f,HC]++r).toArray },g,d,t,os⟩:=h2
  show wp M Γ (setField e 1 (.ref hh.objs.size)) (fun _ p1 s1=>yU e f s1.heap/\wp M Γ (setFlight e none) Q E p1 s1) E p2 ⟨hh.push { cls:=.type "traceback",data:=.fields ([head,fr,HC,rawInt f,HC]++r).toArray },g,d,t,os⟩
  obtain⟨a,o,vs,rfl,ea,hd,hi,q⟩:=fN h2
  refine dO ea hd hi ⟨?_,q⟩
  have eT:(hh.push { cls:=.type "traceback",data:=.fields ([head,fr,HC,rawInt f,HC]++r).toArray }).get? hh.objs.size=some { cls:=.type "traceback",data:=.fields ([head,fr,HC,rawInt f,HC]++r).toArray }:=GB _ rfl
  have dn:=Obj.data_mapFields hd (·.setIfInBounds 1 (Hy hh.objs.size))
  have ea':=HH (Obj.mapFields (·.setIfInBounds 1 (Hy hh.objs.size))) ea (Obj.isFreed_of_fields dn)
  by_cases ne:a=hh.objs.size
  ·subst ne
   rw[eT]at ea;cases ea
   cases hd
   exact⟨_,_,_,_,_,_,rfl,ea',dn,by simp,ea',dn,by simp⟩
  ·exact⟨a,_,_,hh.objs.size,_,_,rfl,ea',dn,by simp[hi],(GJ _ _ ne).trans eT,rfl,by simp⟩
 rw[Hs]at h ⊢
 obtain⟨a,o,vs,head,rfl,ea,hd,hx,h⟩:=jz h
 refine dj ea hd hx ?_
 by_cases z:(head != HC)=true
 ·rw[if_pos z]at h ⊢
  rw[Hs]at h ⊢
  obtain⟨T,oT,ts,x3,rfl,eT,hT,h3,h⟩:=jz h
  refine dj eT hT h3 ?_
  by_cases y:(x3==rawInt f)=true
  ·rw[if_pos y]at h ⊢
   exact⟨⟨a,o,vs,T,oT,ts,rfl,ea,hd,hx,eT,hT,by rw[h3,beq_iff_eq.mp y]⟩,h⟩
  ·rw[if_neg y]at h ⊢
   rw[Hs]at h ⊢
   obtain⟨a',o',vs',e',ea',hd',hi,h⟩:=fN h
   cases e'
   refine dO ea' hd' hi ?_
   exact last _ _ _ h
 ·rw[if_neg z]at h ⊢
  exact last _ _ _ h
end
theorem ky{M:Model}{A:He}{env:Env}{f:Addr}{Po:G0->Unit->G3->Prop}{E0:G0->G0->G3->Prop}(hf:env.frame=some f):PassesOwn M A env (fun e s'=>GA M A (leaving env e) (Po e) (E0 e) s'):=by
 intro e s' h Γ p hΓ;have base:=rg (E:=fun _ _ _=>False) (Q:=fun a _ s''=>Po e a s'') hf (Sem.wp_mono M Γ _ (fun _ _ _ z=>z.1) (fun _ _ _ z=>z) p s' (lj M Γ _ _ p s' (h Γ p hΓ)));refine Sem.wp_mono M Γ _ (fun _ p1 s1 z=>?_) (fun v p1 s1 z=>z.elim) p s' base;obtain⟨n,q⟩:=z;obtain⟨a,oe,vs,T,oT,ts,rfl,ea,hd,h1,eT,hT,h3⟩:=n;intro Γ' p' hΓ';have i3:3<ts.size:=(Array.getElem?_eq_some_iff.mp h3).1
 have same:s1.heap.update T (Obj.mapFields (·.setIfInBounds 3 (rawInt f)))=s1.heap:=by
  refine mC eT ?_;obtain⟨c,d,dt,sl⟩:=oT;cases hT;show Obj.mk c d (.fields (ts.setIfInBounds 3 (rawInt f))) sl=_
  congr 2
  refine Array.ext_getElem? fun i=>?_;by_cases z:3=i
  ·subst z;rw[Array.getElem?_setIfInBounds_self_of_lt i3,h3]
  ·rw[Array.getElem?_setIfInBounds_ne z]
 rw[Hs];refine dj ea hd h1 ?_;rw[if_neg (by intro z;cases (beq_iff_eq.mp z))];unfold setFlight;rw[Hs];refine dj ea hd h1 ?_;rw[if_pos (by simp),hf];refine dO eT hT i3 ?_;show GA M A (leaving env (.ref a)) (Po (.ref a)) (E0 (.ref a)) { s1 with heap:=s1.heap.update T (Obj.mapFields (·.setIfInBounds 3 (rawInt f))) };rw[same];intro Γ2 p2 hΓ2;unfold leaving noteFrame;rw[Hs,hf];dsimp only;rw[Hs];refine dj ea hd h1 ?_;rw[if_pos (by simp),Hs];refine dj eT hT h3 ?_;rw[if_pos (by simp)];show wp M Γ2 (setFlight (.ref a) none) _ _ p2 s1;unfold setFlight at q ⊢;rw[Hs]at q ⊢;obtain⟨a',o',vs',x,e',ea',hd',hx,q⟩:=jz q;refine dj ea hd h1 ?_;cases e';rw[ea]at ea';cases ea';rw[hd]at hd';cases hd';rw[h1]at hx;cases hx;rw[if_pos (by simp)]at q ⊢;obtain⟨T',oT',ts',e',eT',hT',hi,q⟩:=fN q;cases e';exact dO eT hT i3 q
section
variable{prog:GC}{w:Hd}{A:He}{E:G0->G3->Prop}{hp:Heap}{gs:Array GenState}{dr:Drawn}{tk:Nat}{sys:OsState}
variable{cn cq:Str}{C NS fI:Addr}{bss ups:List G0}{hdct:Bool}{sn:List Str}{sub:List G0}{ab:Bool}{col:Option Bool}{dd:Option Addr}{k0 k1 k2 k3 k5:Option G0}{mN:Str->Option G0}{us:List G0}{oI:Obj}
abbrev Ak(us:List G0):Obj:={ cls:=.type "tuple",data:=.seq us.toArray }
abbrev fG(C t:Addr)(d:Option Addr):Obj:={ cls:=.ref C,dict:=d,data:=.fields #[.ref t,.none,.none,.none,.bool false,.none] }
theorem we(T:OwnTail hp veM ups)(hC:hp.get? C=some (excClassObj cn cq C NS bss ups hdct sn sub ab col dd k0 k1 k2 k3 k5 "ValueError.__new__"))(hN:hp.Ns NS mN)(hi:mN "__init__"=some (.ref fI))(ho:hp.get? fI=some oI)(hf:oI.cls=.type "function")(hl:us.length<=Gp)
 {Q:PySem.Fin->G3->Prop} (k:∀h',(∀b o,hp.get? b=some o->h'.get? b=some o)->h'=(hp.push (Ak us)).push (fG C hp.objs.size none)->GA (GD prog w) A (call (.ref fI) (.ref (hp.objs.size+1)::us)) (fun r s'=>r=.none/\Q (.done (.ret (.ref (hp.objs.size+1)))) s') E ⟨h',gs,dr,tk,sys⟩) :
 GA (GD prog w) A (Builtin.«type.__call__» ⟨.ref C::us,[]⟩) Q E ⟨hp,gs,dr,tk,sys⟩:=by
 have FB:=F.excBase_ValueError
 repeat (first|with_reducible refine wpAny_loadPart_at hC ?_|with_reducible refine wpAny_madeBy_exc hC ?_|wp_step)
 refine codeAny_call_builtin_code (Code.quiet_builtin _ FB.quiet) (wpAny_check_new_subU FB (by decide) T hC ?_)
 refine codeAny_exc_new_subU FB (by decide) FB T hC ?_ hl
 show GA _ _ _ _ _ _
 have kp:∀b o,hp.get? b=some o->((hp.push (Ak us)).push (fG C hp.objs.size none)).get? b=some o:=fun b o e=>G4 _ (G4 _ e)
 have hC1:=kp _ _ hC
 have hN1:=hN.keeps kp
 have T1:=T.keeps kp
 have he:((hp.push (Ak us)).push (fG C hp.objs.size none)).get? (hp.objs.size+1)=some (fG C hp.objs.size none):=Heap.get?_push_at (by simp) rfl
 have hcC:(Hy C::ups).contains (.ref C)=true:=by simp
 unfold isInstance
 repeat (first|with_reducible refine wpAny_loadPart_at he ?_|(with_reducible refine wpAny_isSubtype_exc hC1 ?_;rw[hcC])|wp_step)
 show GA _ _ (typeLookup (.ref C) _) _ _ _
 refine wpAny_typeLookup_tail hC1 hN1 T1 FB.mroIs FB.init.lookup ?_
 rw[hi]
 refine HQ (G2 ?_)
 unfold bindSpecial
 refine G2 (wpAny_typeOf (T:="function") ⟨_,kp _ _ ho,hf⟩ ?_)
 rw[if_pos (by decide)]
 refine Gw (G2 (Hl (k _ kp rfl) (fun r s' z=>?_) fun _ _ z=>z))
 obtain⟨rfl,q⟩:=z
 wp_walk
 exact q
theorem vh(T:OwnTail hp veM ups)(hC:hp.get? C=some (excClassObj cn cq C NS bss ups hdct sn sub ab col dd k0 k1 k2 k3 k5 "ValueError.__new__"))(hN:hp.Ns NS mN)(hi:mN "__init__"=some (.ref fI))(ho:hp.get? fI=some oI)(hf:oI.cls=.type "function")(hl:us.length<=Gp)
 {Q:G0->G3->Prop} (k:∀h',(∀b o,hp.get? b=some o->h'.get? b=some o)->h'=(hp.push (Ak us)).push (fG C hp.objs.size none)->GA (GD prog w) (A.under (.builtin "type.__call__" ⟨.ref C::us,[]⟩)) (call (.ref fI) (.ref (hp.objs.size+1)::us)) (fun r s'=>r=.none/\Q (.ref (hp.objs.size+1)) s') E ⟨h',gs,dr,tk,sys⟩) :
 GA (GD prog w) A (call (.ref C) us) Q E ⟨hp,gs,dr,tk,sys⟩:=by
 have f1:=tc_lookup
 have f2:=tc_bind (.ref C)
 have hT:(⟨hp,gs,dr,tk,sys⟩:G3).TypeIs (.ref C) "type":=⟨_,hC,rfl⟩
 refine wpAny_call (codeAny_of_tree ?_)
 show GA _ _ (callAny (.ref C) _) _ _ _
 repeat (any_goals (first|assumption|with_reducible refine wpAny_loadPart_at hC ?_|wp_step))
 refine⟨rfl,codeAny_call_builtin_at (Code.quiet_builtin _ (by decide +kernel)) entry_typeCall (wpAny_check_type_call_sub hC (we T hC hN hi ho hf hl fun h' a b=>?_))⟩
 exact k h' a b
end
open PySem.W (Frag findIn subIn clsIn nsIn typeIn keepIn looks_findIn looks_subIn looks_clsIn Looks)
theorem Eh{K:Frag}{h:Heap}{N:Addr}{mg:Str->Option G0}{n:Str}{v:G0}(X:K.In h)(G:h.Ns N mg)(e:nsIn K N n=some (some v)):mg n=some v:=by
 obtain⟨o,es,ep,ho,hd,_,hf⟩:=G;unfold nsIn at e;split at e
 ·rename_i ks ks' n' _ hl;have:=X _ _ hl;rw[ho]at this;cases this;cases hd;rw[<-hf];unfold nsFind findBy;rw[<-Array.find?_toList];split at e
  ·rename_i en he;rw[he];cases e;rfl
  ·split at e<;>cases e
 ·cases e
structure ClsI(K:Frag)(C S fI:Addr):Prop where
 lk:∃cn cq NS bss hdct sn sub ab col dd k0 k1 k2 k3 k5,K.lookup C=some (excClassObj cn cq C NS bss (.ref S::veM) hdct sn sub ab col dd k0 k1 k2 k3 k5 "ValueError.__new__")/\PySem.W.nsOkIn K NS=true/\nsIn K NS "__init__"=some (some (.ref fI))
 tl:PySem.W.tailIn K veM (.ref S::veM)=true
 fn:typeIn K (.ref fI)=some (.type "function")
 kp:keepIn K (.ref C)=true
 hd:IJ K C=true
 sa:findIn K (.ref C) "__setattr__"=some (some (.builtin "object.__setattr__"))
 ob:subIn K (.ref C) (.type "object")=some true
theorem ClsI.at{K:Frag}{C S fI:Addr}(c:ClsI K C S fI){h:Heap}(X:K.In h):∃cn cq NS bss hdct sn sub ab col dd k0 k1 k2 k3 k5 mN oI,h.get? C=some (excClassObj cn cq C NS bss (.ref S::veM) hdct sn sub ab col dd k0 k1 k2 k3 k5 "ValueError.__new__")/\h.Ns NS mN/\mN "__init__"=some (.ref fI)/\h.get? fI=some oI/\oI.cls=.type "function"/\OwnTail h veM (.ref S::veM):=by
 obtain⟨cn,cq,NS,bss,hdct,sn,sub,ab,col,dd,k0,k1,k2,k3,k5,l,ok,ni⟩:=c.lk;have hN:h.Ns NS (h.nsMap NS):=.of_isNs (PySem.W.isNs_of_in X ok);have hf:=c.fn;unfold typeIn at hf;dsimp only at hf;cases ho:K.lookup fI with
 |none=>rw[ho]at hf;cases hf
 |some oI=>
  rw[ho]at hf
  exact⟨cn,cq,NS,bss,hdct,sn,sub,ab,col,dd,k0,k1,k2,k3,k5,_,oI,X _ _ l,hN,Eh X hN ni,X _ _ ho,Option.some.inj hf,PySem.W.tail_of_in X c.tl⟩
section
variable{prog:GC}{w:Hd}{A:He}{E:G0->G3->Prop}{s:G3}{K:Frag}{C S fI a t dx:Addr}{dd:Option Addr}{x v:G0}{name:Str}{mA:Str->Option G0}{oe:Obj}
theorem uT(c:ClsI K C S fI)(X:K.In s.heap)(ha:s.heap.get? a=some (fG C t dd)){Q:G0->G3->Prop}
 (k:∀h',(∀b o,b≠a->s.heap.get? b=some o->h'.get? b=some o)->h'.get? a=some (fG C s.heap.objs.size dd)->Q .none { s with heap:=h' }) :
 GA (GD prog w) A (call (.builtin "ValueError.__init__") [.ref a,x]) Q E s:=by
 obtain⟨cn,cq,NS,bss,hdct,sn,sub,ab,col,dd',k0,k1,k2,k3,k5,mN,oI,hC,hN,hi,ho,hf,T⟩:=c.at X
 obtain⟨hp,gs,dr,tk,sys⟩:=s
 have FB:=F.excBase_ValueError
 refine wpAny_call (Je FB.init.plain FB.initEntry (wpAny_check_init_subU FB T hC ha rfl ?_))
 wp_walk
 refine k _ (fun b o ne e=>?_) ?_
 ·rw[GJ _ _ (Ne.symm ne)]
  exact G4 _ e
 ·rw[HH _ (G4 _ ha) rfl]
  rfl
theorem qh(ha:s.heap.get? a=some (fG C t none)):PySem.W.InstAt s.heap a (fG C t none) C none:=⟨ha,rfl,rfl,trivial⟩
theorem uQ{ox:Obj}{od:Option Obj}{tk:Tok}{R:Result->G3->Prop}(c:ClsI K C S fI)(X:K.In s.heap)(I:PySem.W.InstAt s.heap a ox C od)(hn:findIn K (.ref C) name=some none)
 (h:GA (GD prog w) A.in1 (Builtin.ObjectAttr.storeInOwnDict (.ref a) (.ref C) (.str name tk) name v false)
  (fun fin s'=>match fin with|.done f=>R (.ok f) s'|.again c'=>c'.quiet=true/\codeAny (GD prog w) A c' R s') (fun e s'=>R (.error e) s') s) :
 codeAny (GD prog w) A (.call (.builtin "object.__setattr__") ⟨[.ref a,.str name tk,v],[]⟩) R s:=by
 have SF:=F.store_ValueError
 obtain⟨cn,cq,NS,bss,hdct,sn,sub,ab,col,dd',k0,k1,k2,k3,k5,mN,oI,hC,_⟩:=c.at X
 have LI:Looks (GD prog w) s.heap (isInstance (.ref a) (.type "object")) true:=I.type.andThen (looks_subIn X c.ob)
 refine Je SF.slot.plain SF.entry (PySem.W.check_slot (M:=GD prog w) (s:=s) (i:="object.__setattr__") (owner:="object") (n:="__setattr__") (self:=.ref a) (rest:=[.str name tk,v]) (kw:=[]) SF.kind SF.split LI (SF.args (.ref a) (.str name tk) v) ?_)
 rw[PySem.W.osa_eq,refuse_eq]
 obtain⟨hp,gs,dr,tk',sys⟩:=s
 refine G2 (G2 (I.type.here (G2 (wpAny_mroOf_exc hC ?_))))
 rw[refuseLoop_ref,refuseLoop_ref,SF.passes]
 refine Gw (G2 (I.type.here (G2 ((looks_findIn X hn).here (G2 (Gw ?_))))))
 exact h
theorem zj{Q:Unit->G3->Prop}(c:ClsI K C S fI)(X:K.In s.heap)(ha:s.heap.get? a=some (fG C t none))(hn:findIn K (.ref C) name=some none)
 (k:∀h' tk',(∀b o,b≠a->s.heap.get? b=some o->h'.get? b=some o)->h'.get? a=some (fG C t (some s.heap.objs.size))->h'.Ns1 s.heap.objs.size (fun y=>if y=name then some v else none)->Q () { s with heap:=h',toks:=tk' }) :
 GA (GD prog w) A (setAttr (.ref a) name v) Q E s:=by
 refine PySem.W.set_plain X (qh ha) c.sa (uQ (s:={ s with toks:=s.toks+1 }) c X (qh ha) hn ?_)
 obtain⟨cd,hc,hd⟩:=PySem.W.any_some c.hd
 have L:=looks_clsIn (M:=GD prog w) X hc
 obtain⟨hp,gs,dr,tk,sys⟩:=s
 have hxs:a≠hp.objs.size:=GZ (Gu ha)
 refine G2 (Gw (G2 (G2 (wpAny_loadPart ha (G2 (PySem.W.Looks.at L ?_))))))
 rw[hd]
 refine G2 (wpAny_alloc' (G2 (wpAny_update' (G4 _ ha) (Gw ?_))))
 have gd:((hp.push { cls:=.type "dict",data:=.dict #[] }).update a fun o=>{ cls:=o.cls,dict:=some hp.objs.size,data:=o.data,slots:=o.slots }).get? hp.objs.size=some { cls:=.type "dict",data:=.dict #[] }:=
  (GJ _ _ hxs).trans (Heap.get?_push_at rfl rfl)
 have nd:((hp.push { cls:=.type "dict",data:=.dict #[] }).update a fun o=>{ cls:=o.cls,dict:=some hp.objs.size,data:=o.data,slots:=o.slots }).Ns hp.objs.size (fun _=>none):=⟨_,#[],_,gd,rfl,fun e he=>absurd he (by simp),fun _=>rfl⟩
 show GA _ _ (Iv hp.objs.size _ name v) _ _ _
 unfold Iv Builtin.ObjectAttr.newKeyGuard
 refine G2 (Gw (G2 (wpAny_nsSet1 (Heap.Ns1.of_empty nd) fun h' n1 sb=>?_)))
 obtain⟨oD,esD,epD,hoD,hdD,hcD⟩:=n1.count (Within.cons name v Within.nil)
 refine G2 (wpAny_lookBehind hoD (by rw[hdD];exact pastItsLine_dict (Gy hcD (by rw[GP,HI,sizeLine_eq];omega))) ?_)
 wp_walk
 refine k h' _ (fun b o ne e=>?_) ?_ n1
 ·exact(sb.2 b (GZ (Gu e))).trans ((GJ _ _ (Ne.symm ne)).trans (G4 _ e))
 ·exact(sb.2 a hxs).trans (HH _ (G4 _ ha) rfl)
theorem nH{od:Obj}(ha:s.heap.get? a=some (fG C t (some dx)))(hd:s.heap.get? dx=some od):PySem.W.InstAt s.heap a (fG C t (some dx)) C (some od):=⟨ha,rfl,rfl,hd⟩
theorem yT{ns:List Str}{Q:Unit->G3->Prop}(c:ClsI K C S fI)(X:K.In s.heap)(ha:s.heap.get? a=some (fG C t (some dx)))(hm:s.heap.Ns1 dx mA)(hw:Within mA ns)(hz:ns.length<=1000)(hn:findIn K (.ref C) name=some none)
 (k:∀h' tk',(∀b o,b≠dx->s.heap.get? b=some o->h'.get? b=some o)->h'.Ns1 dx (fun y=>if y=name then some v else mA y)->Q () { s with heap:=h',toks:=tk' }) :
 GA (GD prog w) A (setAttr (.ref a) name v) Q E s:=by
 obtain⟨od,hod,_⟩:=nY hm
 refine PySem.W.set_plain X (nH ha hod) c.sa (uQ (s:={ s with toks:=s.toks+1 }) c X (nH ha hod) hn ?_)
 obtain⟨cd,hc,hd⟩:=PySem.W.any_some c.hd
 have L:=looks_clsIn (M:=GD prog w) X hc
 obtain⟨hp,gs,dr,tk,sys⟩:=s
 refine G2 (Gw (G2 (G2 (wpAny_loadPart ha (G2 (PySem.W.Looks.at L ?_))))))
 rw[hd]
 refine Gw (a:=some dx) ?_
 show GA _ _ (Iv dx _ name v) _ _ _
 unfold Iv Builtin.ObjectAttr.newKeyGuard
 refine G2 (Gw (G2 (wpAny_nsSet1 hm fun h' n1 sb=>?_)))
 obtain⟨oD,esD,epD,hoD,hdD,hcD⟩:=n1.count (Within.cons name v hw)
 refine G2 (wpAny_lookBehind hoD (by rw[hdD];exact pastItsLine_dict (Gy hcD (by rw[GP,sizeLine_eq];omega))) ?_)
 wp_walk
 exact k h' _ (fun b o ne e=>(sb.2 b ne).trans e) n1
theorem zK{expr:Bool}{Q:G0->G3->Prop}(sl:Slot "ValueError" "__getattribute__" "BaseException.__getattribute__")(X:K.In s.heap)(Z:ErrC K C)(hh:IJ K C=true)(ha:s.heap.get? a=some oe)(hc:oe.cls=.ref C)(hnc:PySem.W.notCls oe=true)(hd:oe.dict=some dx)(hm:s.heap.Ns1 dx mA)(hv:mA name=some v)(hn:findIn K (.ref C) name=some none)(hvh:PySem.W.handedIn v=true)
 (h:Q v { s with toks:=s.toks+1 }):GA (GD prog w) A (getAttr (.ref a) name expr) Q E s:=by
 obtain⟨od,hod,hl⟩:=nY hm
 have I:PySem.W.InstAt s.heap a oe C (some od):=⟨ha,hc,hnc,by rw[hd];exact hod⟩
 have hf:=PySem.W.findObj_own (K:=K) (C:=C) (od:=od) hh hn rfl (by rw[hl,hv])
 obtain⟨hp,gs,dr,tk,sys⟩:=s
 have L0:=dX (M:=GD prog w) ha hc
 have L1:=looks_findIn (M:=GD prog w) X Z.ga
 have L2:=looks_findIn (M:=GD prog w) X Z.gt
 have LF:=PySem.W.looks_find (M:=GD prog w) X I hf
 have f3:=sl.bind (.ref a)
 have hx0:(expr&&onTheHeap (IA "BaseException.__getattribute__"))=false:=by cases expr<;>rfl
 have ne2:(IA "BaseException.__getattribute__"==IA "object.__getattribute__")=false:=by decide +kernel
 have ne1:(onTheHeap (Hy C)&&IA "BaseException.__getattribute__"==IA "object.__getattribute__")=false:=by rw[ne2];rfl
 have ho:=PySem.W.handedOut_of hvh
 unfold getAttr
 repeat (any_goals (first|assumption|with_reducible refine Looks.at L0 ?_|with_reducible refine Looks.at L1 ?_|with_reducible refine Looks.at L2 ?_|wp_step))
 refine Je sl.plain F.entry_bexc_ga (nT X Z ha hc ?_)
 unfold Builtin.«object.__getattribute__»
 repeat (any_goals (first|assumption|with_reducible refine Looks.at L0 ?_|with_reducible refine Looks.at LF ?_|wp_step))
end
def gc(a C:Addr)(dd:Option Addr):Heap->Prop:=fun h=>∃t,h.get? a=some (fG C t dd)
def qj(a C:Addr)(dd:Option Addr):Heap->Prop:=fun h=>∃o,h.get? a=some o/\o.cls=.ref C/\o.dict=dd/\PySem.W.notCls o=true
def mh(d:Addr)(fs:List (Str×V)):Heap->Prop:=fun h=>∃mA,h.Ns1 d mA/\(∀f,qi (fs.lookup f) (mA f))/\Within mA (fs.map (·.1))
theorem okG{P:GC}{w:Hd}{H:Hp}{h:Heap}{a C t:Addr}{dd:Option Addr}(e:h.get? a=some (fG C t dd)):cY P w H h a (.ext (gc a C dd)):=⟨⟨t,e⟩,⟨_,e⟩,fun h1 h2 z k=>let⟨t,q⟩:=z;⟨t,k _ q⟩⟩
theorem okX{P:GC}{w:Hd}{H:Hp}{h:Heap}{a C:Addr}{dd:Option Addr}(e:qj a C dd h):cY P w H h a (.ext (qj a C dd)):=⟨e,let⟨o,q,_⟩:=e;⟨o,q⟩,fun h1 h2 z k=>let⟨o,q,r⟩:=z;⟨o,k _ q,r⟩⟩
theorem okF{P:GC}{w:Hd}{H:Hp}{h:Heap}{d:Addr}{fs:List (Str×V)}(e:mh d fs h):cY P w H h d (.ext (mh d fs)):=⟨e,let⟨_,⟨o,_,_,q,_⟩,_⟩:=e;⟨o,q⟩,fun h1 h2 z k=>let⟨mA,⟨o,es,ep,q,r⟩,z⟩:=z;⟨mA,⟨o,es,ep,k _ q,r⟩,z⟩⟩
def cH(P:GC)(w:Hd):CXT:=fun outer H s E e s'=>∃a C dd H',e=.ref a/\Fly P w outer H H' s s' a C/\(∃o,s'.heap.get? a=some o/\o.dict=dd)/\E (.ref C) dd H'
def gh(H:Hp)(a:Addr):Hp:=fun b=>if b=a then none else H b
theorem dY{H:Hp}{a b:Addr}(h:b≠a):gh H a b=H b:=by unfold gh;rw[if_neg h]
theorem qZ{H:Hp}{a:Addr}:gh H a a=none:=by unfold gh;rw[if_pos rfl]
theorem rL{H:Hp}{a b:Addr}{o:HO}(h:gh H a b=some o):b≠a/\H b=some o:=by
 unfold gh at h;split at h
 ·cases h
 ·rename_i n;exact⟨n,h⟩
section
variable{P:GC}{w:Hd}{K:cc}{mg:Str->Option G0}{base:Heap}{N:List Str}{qual:Str}{scope:Jb}{f:Addr}{cd:G0}{A:He}{outer:List Env}{s:G3}{H:Hp}{E:XK}
theorem CZ{CX CX':CXT}{E':XK}{pins:List (Addr×Obj)}{σ:L2.St}{H1:Hp}{s1:G3}(I:Inv (bI CX P w K mg base N qual scope f cd A outer s H E) pins σ H1 s1):Inv (bI CX' P w K mg base N qual scope f cd A outer s H E') pins σ H1 s1:=Inv.lI I (bI CX' P w K mg base N qual scope f cd A outer s H E').xe
theorem BU:PassesOwn (GD P w) (bI (cH P w) P w K mg base N qual scope f cd A outer s H E).A (bI (cH P w) P w K mg base N qual scope f cd A outer s H E).env (bI (cH P w) P w K mg base N qual scope f cd A outer s H E).xe:=ky (f:=s.heap.objs.size) (Po:=fun e _ s''=>cH P w outer H s E e s'') (E0:=fun e e' s''=>cH P w outer H s E e' s'') rfl
theorem ve{pins:List (Addr×Obj)}{σ:L2.St}{H2:Hp}{s2:G3}{a C t:Addr}{dd:Option Addr}{φ:Heap->Prop}(I:Inv (bI (cH P w) P w K mg base N qual scope f cd A outer s H E) pins σ H2 s2)(hx:H2 a=some (.ext φ))(ho:s2.heap.get? a=some (fG C t dd))(hn:s.heap.get? a=none)(q:E (.ref C) dd (gh H2 a)) :
 (bI (cH P w) P w K mg base N qual scope f cd A outer s H E).xe (.ref a) s2:=by
 have ex0:∀x:Addr,x∉(bI (cH P w) P w K mg base N qual scope f cd A outer s H E).ex:=fun x z=>absurd (show x∈([]:List Addr)from z) (by simp)
 have na:∀x,H2 x=none->x≠a:=fun x n z=>by rw[z,hx]at n;cases n
 have stays:(jJ s2.heap (a::frs (bI (cH P w) P w K mg base N qual scope f cd A outer s H E).stack)).StaysIn s2.heap:=fun b o z=>(rp z).2
 have stk:∀{x:Addr} {o:Obj},s.heap.get? x=some o->x∉frs outer->x∉a::frs (bI (cH P w) P w K mg base N qual scope f cd A outer s H E).stack:=fun{x o} e n m=>by
  rcases GO.mp m with z|z
  ·rw[z,hn]at e;cases e
  ·exact Aa (E:=E) (CZ I) e n z
 refine Hl (KpD.any lj (wpAny_leaving_firstW (E:=fun _ _=>False) (base:=jJ s2.heap (a::frs (bI (cH P w) P w K mg base N qual scope f cd A outer s H E).stack)) (outer:=outer) (L:=(bI (cH P w) P w K mg base N qual scope f cd A outer s H E).env.locals) (a0:=.ref t) I.ok.frames (pZ I.stack fun b hb=>gE (Gr _ hb)) rfl ho stays (gE GR) rfl rfl rfl (Q:=fun _ s'=>Fly P w outer H (gh H2 a) s s' a C) fun h' L=>?_)) (fun _ s'' z=>?_) (fun _ _ z=>z.elim)
 ·obtain⟨k1,⟨_,_,k2⟩,k3,k4⟩:=L
  refine⟨I.os,I.bare,⟨_,_,⟨k1,gE GR,k2,k3⟩,fun x o z=>?_,fun x o e1 n nf=>?_,fun x o e1 nf=>?_⟩,fun x o e1 n mf=>?_,fun x o e1 n=>?_,fun b xs z=>?_,fun b o u z=>?_,fun b ps z=>?_⟩
  ·obtain⟨nx,z⟩:=rL z
   refine(I.hok x o z).gb (fun b u hb g=>?_) (fun b z=>?_) fun b xs z=>?_
   ·rw[fg]
    ·exact g
    ·intro mm
     rcases GO.mp mm with y|y
     ·rcases hb with hb|hb
      ·exact nx (hb.symm.trans y)
      ·rw[y,hx]at hb;cases hb
     ·have:=I.gQ b y
      rcases hb with hb|hb
      ·rw[hb,z]at this;cases this
      ·rw[hb]at this;cases this
   ·rw[dY (fun y=>by rw[y,hx]at z;cases z)];exact z
   ·rw[dY (fun y=>by rw[y,hx]at z;cases z)];exact z
  ·rw[fg (stk e1 nf)]
   exact I.base.keep x o e1 n nf (ex0 x)
  ·rw[fg (stk e1 nf)]
   exact I.base.there x o e1 (ex0 x)
  ·obtain⟨sl,g⟩:=I.base.slot x o e1 n mf (ex0 x)
   obtain⟨o',g',d⟩:=kj I.jb mf
   rw[g]at g';cases g'
   obtain⟨sl',g2⟩:=k4 x _ g d
   exact⟨sl',g2⟩
  ·have:=I.base.free x o e1 n (ex0 x)
   rw[dY (na x this)];exact this
  ·have:=I.base.tups b xs z
   rw[dY (fun y=>by rw[y,hx]at this;cases this)];exact this
  ·have:=I.base.frzs b o u z
   rw[dY (fun y=>by rw[y,hx]at this;cases this)];exact this
  ·obtain⟨more,this⟩:=I.base.tbls b ps z
   exact⟨more,by rw[dY (fun y=>by rw[y,hx]at this;cases this)];exact this⟩
 ·obtain⟨F,sd⟩:=z
  obtain⟨o',g',d'⟩:=sd a _ ho
  exact⟨a,C,dd,_,rfl,F,⟨o',g',d'⟩,q⟩
end
section
variable{X:Cx}{k:Nat}{fI C S:Addr}{fd:IC}{ps:List Str}{sp:Sp}{c:Str}{np cpos pos:Pos}{e:Expr}{es:List Expr}{t:TA}
theorem Ad{pins:List (Addr×Obj)}{σ:L2.St}{H:Hp}{s:G3}{Q:VK}{us:List G0}{vs:List V}(M:ClsI X.K C S fI)(F:FnOk X.prog X.w X.K X.mg X.base CX0 k fI fd ps sp)(hr:Room (k+1) X.A)(hb:Binds X.K fd ps [])(I:Inv X pins σ H s)(r:Vals vs us)(hl:us.length<=Gp)
 (h:∀a,H a=none->sp (.ref a::vs) (upd H a (.ext (gc a C none))) (fun v H2=>v=.non/\Q (.ref a) H2) E0) :
 GA (GD X.prog X.w) X.A (call (.ref C) us) (fun u s'=>∃a H2,u=.ref a/\s.heap.get? a=none/\Inv X pins σ H2 s'/\Q (.ref a) H2) X.xe s:=by
 obtain⟨cn,cq,NS,bss,hdct,sn,sub,ab,col,dd,k0,k1,k2,k3,k5,mN,oI,hC,hN,hi,ho,hf,T⟩:=M.at I.kIn
 have hq:=h (s.heap.objs.size+1) (I.hok.fresh (Nat.le_succ _))
 obtain⟨hp,gs,dr,tk,sys⟩:=s
 refine vh T hC hN hi ho hf hl fun h' kp eh=>?_
 have he:h'.get? (hp.objs.size+1)=some (fG C hp.objs.size none):=by rw[eh];exact Heap.get?_push_at (by simp) rfl
 have I2:Inv X pins σ (upd H (hp.objs.size+1) (.ext (gc (hp.objs.size+1) C none))) ⟨h',gs,dr,tk,sys⟩:=I.laid (t':=tk) kp (Nat.le_succ _) (okG he)
 have r2:Vals (V.ref (hp.objs.size+1)::vs) (Hy (hp.objs.size+1)::us):=.cons rfl r
 have hl2:((Hy (hp.objs.size+1)::us)++[]).length=ps.length:=by rw[Iq,<-r2.length];exact F.len _ _ _ _ hq
 have hbb:=hb ⟨h',gs,dr,tk,sys⟩ (Hy (hp.objs.size+1)::us) I2.kIn hl2
 rw[Iq]at hbb
 refine wpAny_call (codeAny_mono (F.run _ X.stack _ _ ⟨Hy (hp.objs.size+1)::us,[]⟩ (Hy (hp.objs.size+1)::us) _ _ E0 (hr.make C us []) (I2.Ce.make C us []) hbb r2 hq) fun r s' hq'=>?_)
 cases r with
 |error e=>exact Ij hq'
 |ok fl=>
  cases fl with
  |ret u=>
   obtain⟨v,H',I3,rv,ev,q3⟩:=I2.after hq'
   subst ev
   exact⟨rv,_,H',rfl,Heap.get?_none_of_le (Nat.le_succ _),I3,q3⟩
  |next=>exact Ij hq'
  |brk=>exact Ij hq'
  |cont=>exact Ij hq'
theorem z8(hex:X.ex=[]){pins:List (Addr×Obj)}{σ:L2.St}{H:Hp}{s:G3}{Q:VK}(M:ClsI X.K C S fI)(F:FnOk X.prog X.w X.K X.mg X.base CX0 k fI fd ps sp)(hr:Room (k+1) X.A)(hb:Binds X.K fd ps [])(hg:Gl X c)(hm:X.mg c=some (.ref C))(ha:PA X (e::es) t)(hdb:(c==("__debug__":Str))=false)(he:Gx (e::es) X.env=(false,eval e X.env)::Gx es X.env)(hpl:(Ik cpos (Gx es X.env)).any (·.1)=false)(I:Inv X pins σ H s) (h:t σ H fun vs H1=>vs.length<=Gp/\∀a,H1 a=none->sp (.ref a::vs) (upd H1 a (.ext (gc a C none))) (fun v H2=>v=.non/\Q (.ref a) H2) E0) : GA (GD X.prog X.w) X.A (eval (.Call (.Name c np) (e::es) [] cpos) X.env) (fun u s'=>∃a H2,u=.ref a/\X.s₀.heap.get? a=none/\Inv X pins σ H2 s'/\Q (.ref a) H2) X.xe s:=by
 refine wpAny_Call_Name_kw (gJ I hg hm ?_ hdb);refine PySem.W.callWith_K (h₀:=X.base) I.ok.mod.kin M.kp (thn (ha cpos pins s σ H _ I h) fun us s1 ⟨vs,H1,I1,r,hl,q⟩=>⟨I1.kIn,?_⟩) he hpl;refine thn (Ad (us:=us) M F hr hb I1 r (by rw[<-r.length];exact hl) q) fun u s' ⟨a,H2,eu,en,I2,q2⟩=>⟨a,H2,eu,?_,I2,q2⟩;cases z:X.s₀.heap.get? a with
 |none=>rfl
 |some o=>
  obtain⟨o',g⟩:=I1.base.there a o z (by rw[hex];simp)
  rw[en]at g;cases g
def FP(C:Addr)(sp:Sp)(t:TA):TE:=fun σ H Q=>t σ H fun vs H1=>vs.length<=Gp/\∀a,H1 a=none->sp (.ref a::vs) (upd H1 a (.ext (gc a C none))) (fun v H2=>v=.non/\Q (.ref a) H2) E0
end
section
variable{M:Model}{A:He}{E:G0->G3->Prop}{s:G3}{env:Env}{K:cc}
theorem vy{x:Sem G0}{Q:Flow->G3->Prop}(hh:A.handled=none)
 (h:GA M A x (fun v s1=>∃a C t dd oC,v=.ref a/\s1.heap.get? a=some (fG C t dd)/\(s1.heap.get? C=some oC/\oC.cls=.type "type")/\K.In s1.heap/\Hk K (.ref C) (.type "BaseException")=some true/\E (.ref a) s1) E s):GA M A (raiseStmt env (some x) none) Q E s:=by
 unfold raiseStmt
 refine G2 (Hl h (fun v s1 z=>?_) fun _ _ z=>z)
 obtain⟨a,C,t,dd,oC,rfl,ha,⟨hC,hCc⟩,X,hB,q⟩:=z
 have L0:=dX (M:=M) ha rfl
 have L1:=PySem.W.looks_subIn (M:=M) X hB
 obtain⟨hp,gs,dr,tk,sys⟩:=s1
 unfold excFromValue isExcClass isType isInstance
 repeat (first|with_reducible refine wpAny_loadPart_at ha ?_|(with_reducible refine wpAny_loadPart_at hC ?_;rw[hCc])|with_reducible refine PySem.W.Looks.at L0 ?_|with_reducible refine PySem.W.Looks.at L1 ?_|wp_step)
 exact wpAny_raiseNew_none hh q
end
section
variable{P:GC}{w:Hd}{K:cc}{mg:Str->Option G0}{base:Heap}{N:List Str}{qual:Str}{scope:Jb}{f:Addr}{cd:G0}{A:He}{outer:List Env}{s:G3}{H:Hp}{E:XK}
variable{k:Nat}{fI C S:Addr}{fd:IC}{ps:List Str}{sp:Sp}{c:Str}{np cpos pos:Pos}{e:Expr}{es:List Expr}{t:TA}
theorem u5(M:ClsI K C S fI)(hB:Hk K (.ref C) (.type "BaseException")=some true)(F:FnOk P w K mg base CX0 k fI fd ps sp)(hr:Room (k+1) (bI (cH P w) P w K mg base N qual scope f cd A outer s H E).A)(hb:Binds K fd ps [])(hg:Gl (bI (cH P w) P w K mg base N qual scope f cd A outer s H E) c)(hm:mg c=some (.ref C))(ha:PA (bI (cH P w) P w K mg base N qual scope f cd A outer s H E) (e::es) t)(hdb:(c==("__debug__":Str))=false) (he:Gx (e::es) (bI (cH P w) P w K mg base N qual scope f cd A outer s H E).env=(false,eval e (bI (cH P w) P w K mg base N qual scope f cd A outer s H E).env)::Gx es (bI (cH P w) P w K mg base N qual scope f cd A outer s H E).env) (hpl:(Ik cpos (Gx es (bI (cH P w) P w K mg base N qual scope f cd A outer s H E).env)).any (·.1)=false) : PS (bI (cH P w) P w K mg base N qual scope f cd A outer s H E) (.Raise (some (.Call (.Name c np) (e::es) [] cpos)) none pos) (fun D σ H1=>FP C sp t σ H1 fun v H2=>∃a dd,v=.ref a/\H2 a=some (.ext (gc a C dd))/\E (.ref C) dd (gh H2 a)):=by intro pins s1 σ H1 D I q;rw[arm_exec_Raise];refine G2 (Jg (vy (K:=K) (I.ok.hd rfl) (G2 (Hl (z8 (Q:=fun v H2=>∃a dd,v=.ref a/\H2 a=some (.ext (gc a C dd))/\E (.ref C) dd (gh H2 a)) rfl M F hr hb hg hm ha hdb he hpl I q) (fun u s' z=>G2 (Jg (Gw ?_))) fun _ _ z=>z))));obtain⟨a,H2,rfl,en,I2,a',dd,ea,hx,q2⟩:=z;cases ea;obtain⟨⟨t0,g⟩,_⟩:=I2.hok a _ hx;obtain⟨_,_,_,_,_,_,_,_,_,_,_,_,_,_,_,_,_,hC,_⟩:=M.at I2.kIn;exact⟨a,C,t0,dd,_,rfl,g,⟨hC,rfl⟩,I2.kIn,hB,ve I2 hx g en q2⟩
end
structure ErrK(K:cc)(C:Addr):Prop where
 c:ErrC K C
 s:(PySem.W.clsIn K C).isSome=true
def Fz:D->Option G0
 |.ty n=>some (.type n)
 |.ref d=>some (.ref d)
 |_=>none
section
variable{X:Cx}
def za:V->List V->Hp->VK->Prop:=fun x vs H Q=>∃l,∃bs:List Bool,x=.ref l/\vs=[.bl true]/\H l=some (.lst (bs.map V.bl))/\Q (.int ((bs.countP (·==true):Nat):Int)) H
theorem wU:MtM X "list.count" za:=by
 intro pins s σ H x vs v us Q I rx rv z0;obtain⟨l,bs,ex,ev,hH,q⟩:=z0;subst ex ev;cases rx;obtain⟨u1,rfl,r1⟩:=rv.one;cases (show u1=Ib true from r1);obtain⟨z,its,n,r,hl,e⟩:=I.wj hH;have hits:=fJ r;subst hits;refine call_meets PySem.F.slot_list_count ⟨_,e,rfl⟩ PySem.F.entry_list_count (PySem.F.args_list_count_2 _ _) (PySem.SeqAt.list_countAt l (bs.map Ib).toArray n none #[] (.bool true) (fun y=>match y with|.bool b=>b==true|_=>false)) ⟨e,fun y hy=>?_,?_⟩
 ·simp only[List.mem_toArray,Ig]at hy;obtain⟨b,_,rfl⟩:=hy;exact PySem.SeqAt.EqAt.bool_bool b true
 ·refine⟨.int _,H,I.tok _,⟨_,rfl⟩,?_⟩
  have:List.countP (fun y=>match y with|Ib b=>b==true|_=>false) (bs.map Ib)=bs.countP (·==true):=by
   rw[List.countP_map];rfl
  show Q (.int ((List.countP _ (bs.map Ib):Nat):Int)) H;rw[this];exact q
def D2(to:TD)(t:TAD):TD:=fun δ M Q=>to δ M fun x M1=>∃l ys,x=.ref l/\M1 l=some (.lst ys)/\t δ M1 fun ds M2=>∃bs:List Bool,ds=[.bl true]/\M2 l=some (.lst (bs.map D.bl))/\Q (.int ((bs.countP (·==true):Nat):Int)) M2
theorem nO{K:cc}{H:Hp}:∀{bs:List Bool} {xs:List V},aJ K H (bs.map D.bl) xs->xs=bs.map V.bl
 |[],_,h=>by simpa[aJ]using h
 |b::bs,_,h=>by
  rw[GH,aJ]at h
  obtain⟨x,r,rfl,h1,h2⟩:=h
  rw[Rep]at h1
  rw[nO h2,h1];rfl
variable{o e1:Expr}{to:TD}{t:TAD}{apos cpos:Pos}
theorem sI(ho:DE X o to)(ha:DA X [e1] t)
 (hbase:Iw o "count" X.env (eval o X.env)=eval o X.env:=by rfl)
 (hfew:((Ik cpos (Gx [e1] X.env)).all (fun x=>!x.1)&&(backToKw cpos (keywordEach [] X.env)).all (fun x=>x.1.isSome)
  && decide ([e1].length+([]:List Keyword).length+(if([]:List Keyword).isEmpty then 0 else 1)<30))=true:=by rfl)
 (hline:(apos.endLine==cpos.line)=true:=by rfl) (hs:Gx [e1] X.env=(false,eval e1 X.env)::Gx [] X.env:=by rfl) (hplain:(Ik cpos (Gx [] X.env)).any (·.1)=false:=by rfl) :
 DE X (.Call (.Attribute o "count" apos) [e1] [] cpos) (D2 to t):=
 bA (nW PySem.F.plainAttrs_list PySem.F.slot_list_count PySem.F.type_list_count wU ho ha hbase hfew hline hs hplain) fun σ H Q ⟨δ,M,R,hsl,hM,q,fin⟩=>by
  refine⟨δ,M,_,hsl,hM,q,fun x M1 v H1 g1 r1 a1 zz1_0=>?_⟩
  obtain⟨l,ys,ex,hl,q1⟩:=zz1_0
  subst ex
  rw[Rep]at r1
  subst r1
  obtain⟨vs,hvs,_⟩:=a1 _ _ hl
  refine⟨.inl ⟨rfl,vs,SqL.of hvs⟩,δ,M1,_,hsl.mono g1,a1,q1,fun ds M2 us H2 g2 r2 a2 zz2_0=>?_⟩
  obtain⟨bs,ed,hx,q2⟩:=zz2_0
  subst ed
  obtain⟨u1,rfl,ru1⟩:=b4 r2
  rw[Rep]at ru1
  subst ru1
  obtain⟨ws,hws,rws⟩:=a2 _ _ hx
  have hw:=nO rws
  subst hw
  exact⟨l,bs,rfl,rfl,hws,fin _ _ _ _ (g1.trans g2) (by rw[Rep]) a2 q2⟩
end
def cl(K:cc)(x:Str):Addr:=match Hr K Hb x with
 |some (some (.ref C))=>C
 |_=>0
section
variable{K:cc}{x y:Str}{C D:Addr}{b:Bool}
theorem eG(a:Hr K Hb x=some (some (.ref C))):cl K x=C:=by unfold cl;rw[a]
theorem Fi{h:Heap}{mg:Str->Option G0}(X:K.In h)(G:h.Ns Hb mg)(a:Hr K Hb x=some (some (.ref C))):mg x=some (.ref (cl K x)):=by rw[eG a];exact PySem.W.mg_of X G a
theorem Gd(a:Hr K Hb x=some (some (.ref C)))(b:Ji K C veM "ValueError.__new__"=true):ClsE K x (cl K x):=by rw[eG a];exact⟨a,b⟩
theorem zS{n:String}(a:Hr K Hb x=some (some (.ref C)))(h:Hk K (.ref C) (.type n)=some b):Hk K (.ref (cl K x)) (.type n)=some b:=by rw[eG a];exact h
theorem BZ(a:Hr K Hb x=some (some (.ref C)))(a':Hr K Hb y=some (some (.ref D)))(h:Hk K (.ref C) (.ref D)=some b):Hk K (.ref (cl K x)) (.ref (cl K y))=some b:=by rw[eG a,eG a'];exact h
theorem Ab{n:String}(a:Hr K Hb x=some (some (.ref C)))(h:Hk K (.ref C) (.type n)=some b)(hk:PySem.W.kitMeta n=true):Hw K (.ref (cl K x)) (.type n)=some b:=by rw[eG a];unfold Hw PySem.W.kitCls;rw[if_neg (by intro z;cases (beq_iff_eq.mp z))];show(if PySem.W.kitMeta n=true then _ else _)=_;rw[if_pos hk];exact h
theorem CC{dd:Option Addr}{cd:ClassData}{sl:Array (Option G0)}(a:Hr K Hb x=some (some (.ref C)))(a':Hr K Hb y=some (some (.ref D)))(h:Hk K (.ref C) (.ref D)=some b)(l:K.lookup D=some ⟨.type "type",dd,.cls cd,sl⟩)(ne:(C==D)=false):Hw K (.ref (cl K x)) (.ref (cl K y))=some b:=by
 rw[eG a,eG a']
 have n:(Hy C==Hy D)=false:=by
  refine Bool.eq_false_iff.mpr fun q=>?_
  have e:C=D:=Hy.inj (beq_iff_eq.mp q)
  subst e
  simp at ne
 unfold Hw PySem.W.kitCls;rw[n];unfold PySem.W.clsIn PySem.W.typeIn;simp only[l];exact h
theorem zp:Hw K (.ref C) (.ref C)=some true:=by unfold Hw;rw[if_pos (beq_self_eq_true _)]
theorem EV{dd:Option Addr}{cd:ClassData}{sl:Array (Option G0)}(a:Hr K Hb x=some (some (.ref C)))(h1:PySem.W.findIn K (.ref C) "__getattribute__"=some (some (.builtin "BaseException.__getattribute__")))(h2:PySem.W.findIn K (.ref C) "__getattr__"=some none)(h3:PySem.W.findIn K (.ref C) "__class__"=some (some (.builtin "object.__class__"))) (h4:Hk K (.ref C) (.type "BaseException")=some true) (h5:PySem.W.mroIn K C (.type "object")=some true) (h6:K.lookup C=some ⟨.type "type",dd,.cls cd,sl⟩):ErrK K (cl K x):=by rw[eG a];refine⟨⟨h1,h2,h3,h4,h5⟩,?_⟩;unfold PySem.W.clsIn;simp only[h6,Option.isSome]
end
theorem mJ:Hj "ValueError"=some (.type "ValueError"):=by decide +kernel
section
variable{prog:GC}{w:Hd}{A:He}{E:G0->G3->Prop}{s:G3}{K:cc}{e C t0:Addr}{oe:Obj}{vs:Array G0}{m:Str}{tk:Tok}
end
section
variable{X:Cx}{pins:List (Addr×Obj)}{σ:L2.St}{H:Hp}{s:G3}{a:Addr}
theorem lT{o:HO}(I:Inv X pins σ H s)(hn:H a=none)(h0:∀o,X.s₀.heap.get? a=some o->X.H₀ a≠none)(hL:a≠X.env.locals)(hc:∀x c,X.env.cells.lookup x=some c->c≠a)(hp:∀p∈X.pn++pins,p.1≠a)(hφ:cY X.prog X.w (upd H a o) s.heap a o):Inv X pins σ (upd H a o) s:=by
 have ne:∀{b:Addr} {o:HO},H b=some o->b≠a:=fun{b o} e z=>by rw[z,hn]at e;cases e
 refine⟨I.ok,I.os,I.bare,⟨I.base.keep,I.base.slot,fun b o e n hx=>?_,I.base.there,fun b xs e=>?_,fun b o u e=>?_,fun b ps e=>?_⟩,I.loc,I.cell,?_,fun x c e=>?_,fun p hpp=>?_,fun b o e=>?_,I.len⟩
 ·by_cases z:b=a
  ·subst z;exact absurd n (h0 o e)
  ·rw[aQ z];exact I.base.free b o e n hx
 ·have:=I.base.tups b xs e;rw[aQ (ne this)];exact this
 ·have:=I.base.frzs b o u e;rw[aQ (ne this)];exact this
 ·obtain⟨more,this⟩:=I.base.tbls b ps e;exact⟨more,by rw[aQ (ne this)];exact this⟩
 ·rw[aQ hL.symm];exact I.free
 ·rw[aQ (hc x c e)];exact I.freeC x c e
 ·obtain⟨e,n,r⟩:=I.pin p hpp;exact⟨e,by rw[aQ (hp p hpp)];exact n,r⟩
 ·by_cases z:b=a
  ·subst z;rw[aW]at e;cases e;exact hφ
  ·rw[aQ z]at e;exact(I.hok b o e).gb (fun _ _ _ q=>q) (fun c q=>by rw[aQ (ne q)];exact q) fun c xs q=>by rw[aQ (ne q)];exact q
end
section
variable{X:Cx}{c:Str}{C:Addr}{np cpos pos p:Pos}{e₀:Expr}{te:TA}
end
section
variable{K:cc}{x:Str}{C:Addr}
end
theorem KpD.use{α:Type}{t:Sem α}(k:KpD t){M:Model}{A:He}{Q:α->G3->Prop}{E:G0->G3->Prop}{s:G3}(h:GA M A t (fun a s'=>jc s.heap s'.heap->Q a s') E s):GA M A t Q E s:=Hl (KpD.any k h) (fun _ _ z=>z.1 z.2) fun _ _ z=>z.elim
def C2(X:Cx)(body:List Stmt)(tR:TR):Prop:=
 ∀(pins:List (Addr×Obj)) (s:G3) (σ:L2.St) (H:Hp) (E:Hp->XK),Inv X pins σ H s->tR σ H E->GA (GD X.prog X.w) X.A (execs body X.env) (fun _ _=>False) (fun e s'=>∃H1 s1,Inv X pins σ H1 s1/\cH X.prog X.w X.stack H1 s1 (E H1) e s') s
def Ci(X:Cx)(ex:Expr)(tR:TR):Prop:=
 ∀(pins:List (Addr×Obj)) (s:G3) (σ:L2.St) (H:Hp) (E:Hp->XK),Inv X pins σ H s->tR σ H E->GA (GD X.prog X.w) X.A (eval ex X.env) (fun _ _=>False) (fun e s'=>∃H1 s1,Inv X pins σ H1 s1/\cH X.prog X.w X.stack H1 s1 (E H1) e s') s
section
variable{Y:Cx}{k:Nat}{f:Addr}{fd:IC}{ps:List Str}{sp:Sp}{x:Str}{p pos:Pos}{e:Expr}{es:List Expr}{t:TA}
theorem xT(F:FnOk Y.prog Y.w Y.K Y.mg Y.base (cH Y.prog Y.w) k f fd ps sp)(hr:Room k Y.A)(hg:Gl Y.nox x)(hm:Y.mg x=some (.ref f))(hk:ID Y.K (.ref f)=true)(hb:Binds Y.K fd ps [])
 (ha:PA Y.nox (e::es) t) (hdb:(x==("__debug__":Str))=false) (he:Gx (e::es) Y.env=(false,eval e Y.env)::Gx es Y.env) (hpl:(Ik pos (Gx es Y.env)).any (·.1)=false) :
 Ci Y.nox (.Call (.Name x p) (e::es) [] pos) (fun σ H E=>t σ H fun vs H1=>sp vs H1 (fun _ _=>False) (E H1)):=by
 intro pins s σ H E I h
 refine wpAny_Call_Name_kw (gJ I hg hm ?_ hdb)
 refine PySem.W.callWith_K (h₀:=Y.base) I.ok.mod.kin hk (thn (Hl (ha pos pins s σ H _ I h) (fun _ _ z=>z) (fun _ _ z=>z.elim)) fun us s1 ⟨vs,H1,I1,r,q⟩=>⟨I1.kIn,?_⟩) he hpl
 have hl:(us++[]).length=ps.length:=by rw[Iq,<-r.length];exact F.len _ _ _ _ q
 have hbb:=hb s1 us I1.kIn hl
 rw[Iq]at hbb
 refine wpAny_call (codeAny_mono (F.run Y.A Y.stack s1 H1 ⟨us,[]⟩ us vs _ (E H1) hr I1.Ce hbb r q) fun r s' hq=>?_)
 cases r with
 |error e=>exact⟨H1,s1,I1,hq⟩
 |ok fl=>
  cases fl with
  |ret u=>obtain⟨v,H',_,_,_,_,_,z⟩:=hq;exact z.elim
  |next=>exact Ij hq
  |brk=>exact Ij hq
  |cont=>exact Ij hq
theorem zt{ex:Expr}{tR:TR}{y:Str}{pos':Pos}(h:Ci Y.nox ex tR)(hs:swapsWith ex (some (.Name y pos')) pos.line Y.env=pure false):C2 Y.nox [.Assign [.Name y pos'] ex pos] tR:=by intro pins s σ H E I q;refine wpAny_execs_cons (Q:=fun _ _=>False) (thn (Q:=fun _ _=>False) ?_ fun f s1 z=>z.elim);exact wpAny_Assign_Name (thn (h pins s σ H E I q) fun v s1 z=>z.elim) hs
end
def EK(K:cc)(S:Addr)(j:Nat)(tb:TS)(tR:TR)(th:TS):TS:=fun D σ H=>tb D σ H\/
 tR σ H fun H1 cv dd H'=>∃C,cv=.ref C/\Hk K (.ref C) (.ref S)=some true/\(Grow K H1 H'->∀a,H' a=none->th (gone j D) (σ.set j (some (.ref a))) (upd H' a (.ext (qj a C dd))))
theorem AR{Y:Cx}{body:List Stmt}{b₀:Stmt}{bs:List Stmt}{c n:Str}{cp hp pos:Pos}{j:Nat}{S:Addr}{tb:TS}{tR:TR}{th:TS} (hst:Y.stack=Y.env::Y.outer) (hfr:Y.env.frame=some Y.env.locals) (hex:Y.ex=[]) (hN:Y.N.Nodup) (hj:Y.N[j]?=some n) (hk:Y.env.scope.names.lookup n=some .local) (hg:Gl Y.nox c) (hm:Y.mg c=some (.ref S)) (hdb:(c==("__debug__":Str))=false) (hS:Ji Y.K S veM "ValueError.__new__"=true) (hB:Hk Y.K (.ref S) (.type "BaseException")=some true) (hb:PSs Y.nox body tb) (hr:C2 Y.nox body tR) (hh:∀a,PSs (hold Y.nox a) (b₀::bs) th) : PS Y.nox (.Try body [.ExceptHandler (some (.Name c cp)) (some n) (b₀::bs) hp] [] [] pos) (EK Y.K S j tb tR th):=by
 intro pins s σ H D I h;refine wpAny_Try_except ?_;rcases h with h|h
 ·refine Hl (hb pins s σ H D I h) (fun fl s1 q=>?_) (fun _ _ z=>z.elim);cases fl with
  |next=>exact wpAny_execs_nil q
  |brk=>exact q
  |cont=>exact q
  |ret u=>exact q
 ·refine Hl (hr pins s σ H _ I h) (fun _ _ z=>z.elim) fun e s' zz1_0=>?_;obtain⟨H1,s1,I1,a,C,dd,H',he,F,⟨oD,gD,dD⟩,C',hC,hsub,q⟩:=zz1_0;subst he;cases hC;obtain⟨b,a0,fl,hok,kp,thr⟩:=id F.bs;have fl3:s'.heap.FunFrames b (Y.env::Y.outer):=by rw[<-hst];exact fl.2.2.1
  have mk:∀h3:Heap,b.StaysIn h3->h3.FunFrames b (Y.env::Y.outer)->h3.TracedW b a (.ref C) a0->(∀x o,s'.heap.get? x=some o->(∀vs:Array G0,o.data≠.fields vs)->∃sl,h3.get? x=some { o with slots:=sl })->Fly Y.prog Y.w Y.stack H1 H' s1 { s' with heap:=h3 } a C:=
   fun h3 c1 c2 c3 c4=>⟨F.os,F.bare,⟨b,a0,⟨c1,fl.2.1,by rw[hst];exact c2,c3⟩,hok,kp,thr⟩,fun x o e n m=>by
    obtain⟨sl,g⟩:=F.slot x o e n m
    obtain⟨o',g',d⟩:=kj fl.2.2.1 m
    rw[g]at g';cases g'
    obtain⟨sl',g2⟩:=c4 x _ g d
    exact⟨sl',g2⟩,F.free,F.tups,F.frzs,F.tbls⟩
  refine KpD.use tq (wpAny_noteFrame_onW (base:=b) (outer:=Y.outer) (L:=Y.env.locals) (by rw[<-hst];exact I1.ok.frames) fl3 hfr fl.2.2.2 fl.1 fl.2.1 fun h2 nt sd2=>?_);refine KpD.use fv (wpAny_setFlight_noneW (base:=b) (l:=Y.env::Y.outer) nt.1 nt.2.1 nt.2.2.1 fun h3 st3 ff3 tr3 kp3 sd3=>?_);have F3:=mk h3 st3 ff3 tr3 fun x o e d=>by obtain⟨sl,g⟩:=nt.2.2.2 x o e d;exact⟨sl,kp3 x _ g d⟩
  have I3:Inv Y.nox pins σ H' { s' with heap:=h3 }:=I1.wD F3.os (F3.un I1.gQ) F3.hok F3.bare (ch:=[]) (fun b z=>absurd z (by simp));refine wpAny_handleBy_cons (codeAny_handlers_test ?_) (by intro z;cases z);refine gJ (X:=hold Y.nox a) (qy I3) hg hm ?_ hdb;obtain⟨oe,vs,T,oT,ts,ho,⟨hcl,_⟩,_⟩:=id tr3;refine qm (K:=Y.K) I3.kIn ho hcl hS hB hsub ?_;show codeAny _ _ (Code.handlers (.ref a) [.ExceptHandler none (some n) (b₀::bs) hp] Y.env) _ _;refine codeAny_handlers_suite_as ?_;refine KpD.use fv (wpAny_setFlight_noneW (base:=b) (l:=Y.env::Y.outer) st3 ff3 (show h3.TracedAtW b a (.ref C) a0 HC from tr3) fun h4 st4 ff4 tr4 kp4 sd4=>?_);have F4:=mk h4 st4 ff4 tr4 fun x o e d=>by obtain⟨sl,g⟩:=nt.2.2.2 x o e d;exact⟨sl,kp4 x _ (kp3 x _ g d) d⟩
  have I4:Inv Y.nox pins σ H' { s' with heap:=h4 }:=I1.wD F4.os (F4.un I1.gQ) F4.hok F4.bare (ch:=[]) (fun b z=>absurd z (by simp));have ex0:∀x:Addr,x∉Y.nox.ex:=fun x z=>by rw[show Y.nox.ex=[]from hex]at z;simp at z
  have I5:Inv Y.nox pins σ (upd H' a (.ext (qj a C dd))) { s' with heap:=h4 }:=by
   refine lT I4 F4.new (fun o e n=>?_) (fun z=>?_) (fun x c e z=>?_) (fun p hp z=>?_) ?_
   ·obtain⟨sl,g⟩:∃sl,s1.heap.get? a=some { o with slots:=sl }:=by
     by_cases mf:a∈Y.nox.fs
     ·exact I1.base.slot a o e n mf (ex0 a)
     ·exact⟨o.slots,I1.base.keep a o e n mf (ex0 a)⟩
    exact F.apart g (I1.base.free a o e n (ex0 a)) rfl
   ·obtain⟨m,⟨o,_,_,g,_⟩,_⟩:=I1.loc;exact F.apart g I1.free z.symm
   ·obtain⟨v,o,g,_⟩:=I1.cell x c e;exact F.apart g (I1.freeC x c e) z
   ·obtain⟨g,n,_⟩:=I1.pin p hp;exact F.apart g n z
   ·obtain⟨oe,vs,T,oT,ts,ho,⟨hcl,_⟩,hdt,_⟩:=id tr4;obtain⟨o',g',d'⟩:=(sd2.trans (sd3.trans sd4)) a oD gD;have g':h4.get? a=some o':=g';rw[ho]at g';cases g';exact okX ⟨oe,ho,hcl,d'.trans dD,by unfold PySem.W.notCls;rw[hdt]⟩
  refine gx (X:=Y.nox) (v:=.ref a) I5 hN hj (.inl hk) rfl (fun s6 I6=>?_) (.inr hk);refine Hl (hh a pins s6 _ _ (gone j D) (qy I6) (q (zA (F.un I1.gQ)) a F4.new)) (fun f s7 hs=>?_) (fun _ _ z=>z.elim);show GA _ _ (do bindName Y.env n HC;unbindBehindTheSuite Y.env n hp) (fun _ s₃=>SP Y.nox pins D f s₃) _ s7;cases f with
  |next=>obtain⟨σ',H2,J,z⟩:=hs;exact gU (X:=Y.nox) (fB (X:=Y.nox) I.ok J) hN hj hk fun s8 J8=>⟨_,H2,J8,z⟩
  |brk=>obtain⟨σ',H2,J,z⟩:=hs;exact gU (X:=Y.nox) (fB (X:=Y.nox) I.ok J) hN hj hk fun s8 J8=>⟨_,H2,J8,z⟩
  |cont=>obtain⟨σ',H2,J,z⟩:=hs;exact gU (X:=Y.nox) (fB (X:=Y.nox) I.ok J) hN hj hk fun s8 J8=>⟨_,H2,J8,z⟩
  |ret u=>obtain⟨v,σ',H2,J,r,z⟩:=hs;exact gU (X:=Y.nox) (fB (X:=Y.nox) I.ok J) hN hj hk fun s8 J8=>⟨v,_,H2,J8,r,z⟩
open PySem.W (findIn)
section
variable{X:Cx}
def Part(X:Cx)(e:Expr)(c:L2.St->Hp->Prop):Prop:=∀(pins:List (Addr×Obj)) (s:G3) (σ:L2.St) (H:Hp),Inv X pins σ H s->c σ H->GA (GD X.prog X.w) X.A (eval e X.env) (fun v s'=>∃x t,v=.str x t/\x.length<=1000/\Inv X pins σ H s') X.xe s
def Parts(X:Cx):List Expr->(L2.St->Hp->Prop)->Prop
 |[],c=>∀σ H,c σ H
 |e::es,c=>∃c1 c2,Part X e c1/\Parts X es c2/\∀σ H,c σ H->c1 σ H/\c2 σ H
theorem qH{x:Str}{j}{p:Pos}(h:x.length<=1000):Part X (.Constant (.str x) j p) (fun _ _=>True):=fun pins s σ H I _=>Calls.Constant_str ⟨x,_,rfl,h,I.tok _⟩
theorem yK(n:Nat)(h:n<10^6):(G1 (toString ((n:Nat):Int))).length<=1000:=by
 have e:(G1 (toString ((n:Nat):Int))).length=(G1 (toString ((n:Nat):Int))).cps.toList.length:=by simp[PySem.Str.length]
 rw[e,PySem.W.KIN.signs_num,G7];exact Gy ((Nat.length_toDigits_le_iff (b:=10) (k:=6) (by decide) (by decide)).mpr h) (by decide)
def Small(v:V):Prop:=v=.non\/∃i:Int,v=.int i/\0<=i/\i<1000000
theorem xM{e:Expr}{te:TE}{p:Pos}(he:PE X e te):Part X (.FormattedValue e (-1) none p) (fun σ H=>te σ H fun v H1=>H1=H/\Small v):=by
 intro pins s σ H I h;refine wpAny_FormattedValue_plain (thn (he pins s σ H _ I h) fun v s1 z=>?_);obtain⟨x,H1,I1,r1,eH,q1⟩:=z;subst eH;rcases q1 with rfl|⟨i,rfl,h0,h1⟩
 ·cases (show v=HC from r1);exact wpAny_formatField_none ⟨_,_,rfl,by decide +kernel,I1.tok _⟩
 ·obtain⟨t,rfl⟩:=(show ∃t,v=Value.int i t from r1)
  have hz:i.natAbs.log2<1920:=by
   have:i.natAbs<2^20:=by omega
   by_cases z:i.natAbs=0
   ·rw[z];decide
   ·exact Nat.lt_trans ((Nat.log2_lt z).mpr this) (by decide)
  refine wpAny_formatField_int hz ⟨_,_,rfl,?_,I1.tok _⟩;have:=yK i.toNat (by omega);rw[show((i.toNat:Nat):Int)=i by omega]at this;exact this
theorem qU{pins:List (Addr×Obj)}{Q:VK}{σ:L2.St}{H:Hp}:∀{es:List Expr} {ts:List (Sem G0)} {c:L2.St->Hp->Prop} {acc:Str} {s:G3},ts=es.map (fun e=>eval e X.env)->Parts X es c->c σ H->Inv X pins σ H s->acc.length+1000*es.length<=Gp->(∀m,Q (.str m) H)->
 Joins (GD X.prog X.w) X.A X.xe ts acc (fun out s1=>out.length<=Gp/\EP X pins σ Q (.str out s1.toks) { s1 with toks:=s1.toks+1 }) s
 |[],ts,c,acc,s,et,hp,hc,I,hl,q=>by
  subst et
  exact⟨by simpa using hl,.str acc,H,I.tok _,⟨_,rfl⟩,q _⟩
 |e::es,ts,c,acc,s,et,hp,hc,I,hl,q=>by
  subst et
  obtain⟨c1,c2,h1,h2,h3⟩:=hp
  obtain⟨d1,d2⟩:=h3 σ H hc
  refine Hl (h1 pins s σ H I d1) (fun v s1 z=>?_) fun _ _ z=>z
  obtain⟨x,t,rfl,lx,I1⟩:=z
  have la:(acc++x).length=acc.length+x.length:=PySem.Str.length_append acc x
  rw[GP]at hl
  exact⟨x,t,rfl,by omega,qU rfl h2 d2 I1 (by omega) q⟩
def E8(c:L2.St->Hp->Prop):TE:=fun σ H Q=>c σ H/\∀m,Q (.str m) H
theorem zX{e1 e2:Expr}{es:List Expr}{p:Pos}{c:L2.St->Hp->Prop}(h:Parts X (e1::e2::es) c)(hl:es.length<=10)(he:evalEach (e1::e2::es) X.env=(e1::e2::es).map (fun e=>eval e X.env)):PE X (.JoinedStr (e1::e2::es) p) (E8 c):=by
 intro pins s σ H Q I q;refine wpAny_JoinedStr ?_
 have:(Ih).length+1000*(e1::e2::es).length<=Gp:=by
  have z:20000<=Gp:=nbL rfl
  have y:(Ih).length=0:=rfl
  simp only[GP];omega
 exact qU he h q.1 I this q.2
end
section
variable{X:Cx}{S:Addr}{c:Str}{a1 a2:Expr}{np apos cpos pos:Pos}{t:TA}
structure ClsB(K:cc)(S:Addr):Prop where
 ga:PySem.W.specialIn K (.ref S) "__getattribute__"=some (some (.builtin "type.__getattribute__"))
 rd:PySem.W.readsIn K S (.type "type")=true
 fi:PySem.W.findCls K (.ref S) (.type "type") "__init__"=some (.val (.builtin "ValueError.__init__"))
def Bg(K:cc)(S:Addr)(t:TA):TE:=fun σ H Q=>t σ H fun vs H1=>∃a x C fI dd,vs=[.ref a,.str x]/\ClsI K C S fI/\H1 a=some (.ext (gc a C dd))/\Q .non (upd H1 a (.ext (gc a C dd)))
theorem AJ{pl:Sem Bool}(B:ClsB X.K S)(hg:Gl X c)(hm:X.mg c=some (.ref S))(ha:PA X [a1,a2] t)(hdb:(c==("__debug__":Str))=false)(hst:Gx [a1,a2] X.env=(false,eval a1 X.env)::Gx [a2] X.env)(hpl:(Ik cpos (Gx [a2] X.env)).any (·.1)=false)
 (ht:eval (.Call (.Attribute (.Name c np) "__init__" apos) [a1,a2] [] cpos) X.env=(do
  let ov <-eval (.Name c np) X.env
  standAt apos.atName
  let(f,first) <-holding [ov] (getMethod ov "__init__" pl)
  callWith cpos f first (Ik cpos (Gx [a1,a2] X.env)) (backToKw cpos (keywordEach [] X.env)))):PE X (.Call (.Attribute (.Name c np) "__init__" apos) [a1,a2] [] cpos) (Bg X.K S t):=by
 intro pins s σ H Q I h
 refine PySem.W.methodCall_KW (pl:=pl) (gJ I hg hm ?_ hdb) ht
 refine PySem.W.method_cls I.kIn B.ga (PySem.W.cls_value I.kIn B.rd B.fi rfl ?_)
 have I0:=I.tok (s.toks+1)
 have hp2:((Ik cpos (Gx [a1,a2] X.env)).any (·.1)||false)=false:=by rw[hst];show((false||(Ik cpos (Gx [a2] X.env)).any (·.1))||false)=false;rw[hpl];rfl
 have ha2:=ha cpos pins _ σ H _ I0 h
 rw[hst]at ha2 hp2 ⊢
 refine PySem.W.callWith_of (P:=fun h=>X.K.In h) hp2 (fun h _=>⟨.machine,.inr (.inl rfl),.now⟩) (Calls.evalArgs_plain (thn ha2 fun us s1 z=>?_))
 obtain⟨vs,H1,I1,r,a,x,C,fI,dd,ev,M,hx,q⟩:=z
 subst ev
 obtain⟨u1,u2,rfl,ru1,ru2⟩:=vals2 r
 cases (show u1=Hy a from ru1)
 refine⟨I1.kIn,?_⟩
 obtain⟨⟨t0,g⟩,_⟩:=I1.hok a _ hx
 refine uT M I1.kIn g fun h' kp g'=>⟨.non,_,I1.write (x:=a) (e:=a) (t':=s1.toks) (by rw[hx];exact True.intro) (.inl rfl) (fun b u ne e=>kp b u ne e) ⟨_,g'⟩ (okG g'),rfl,q⟩
end
section
variable{X:Cx}{o value:Expr}{f:Str}{pos pos':Pos}{ta tv:TE}
def Be(K:cc)(ta tv:TE)(f:Str):TS:=fun D σ H=>tv σ H fun y H1=>ta σ H1 fun x H2=>∃a C S fI,x=.ref a/\ClsI K C S fI/\findIn K (.ref C) f=some none/\
 ((H2 a=some (.ext (gc a C none))/\∀dx,H2 dx=none->D.nx σ (upd (upd H2 a (.ext (gc a C (some dx)))) dx (.ext (mh dx [(f,y)]))))\/
  ∃dx fs,H2 a=some (.ext (gc a C (some dx)))/\H2 dx=some (.ext (mh dx fs))/\fs.length<=900/\D.nx σ (upd H2 dx (.ext (mh dx (lJ f y fs)))))
theorem zH(ha:PE X o ta)(hv:PE X value tv)(hs:swapsWith value (some (.Attribute o f pos')) pos.line X.env=pure false):PS X (.Assign [.Attribute o f pos'] value pos) (Be X.K ta tv f):=by
 intro pins s σ H D I h;refine plainObj_wpAny_Assign_Attribute (thn (hv pins s σ H _ I h) fun u s1 ⟨y,H1,I1,ry,q⟩=>thn (ha pins s1 σ H1 _ I1 q) fun ov s2 z=>?_) hs;obtain⟨x,H2,I2,rx,a,C,S,fI,ex,M,hn,q2⟩:=z;subst ex;obtain rfl:ov=Hy a:=rx;rcases q2 with⟨hx,q2⟩|⟨dx,fs,hx,hdx,hl,q2⟩
 ·obtain⟨⟨t0,g⟩,_⟩:=I2.hok a _ hx;have hf:H2 s2.heap.objs.size=none:=I2.hok.fresh (G9 _);have ne:s2.heap.objs.size≠a:=fun z=>by rw[z,hx]at hf;cases hf
  refine zj M I2.kIn g hn fun h' tk' kp g' n1=>?_;have I3:Inv X pins σ (upd H2 a (.ext (gc a C (some s2.heap.objs.size)))) { s2 with heap:=h',toks:=tk' }:=I2.write (x:=a) (e:=a) (by rw[hx];exact True.intro) (.inl rfl) (fun b u nb e=>kp b u nb e) ⟨_,g'⟩ (okG g');refine⟨σ,_,?_,q2 _ hf⟩;have hn2:upd H2 a (.ext (gc a C (some s2.heap.objs.size))) s2.heap.objs.size=none:=by rw[aQ ne];exact hf
  refine lT I3 hn2 (fun o e n=>?_) (fun z=>?_) (fun x c e z=>?_) (fun p hp z=>?_) (okF ⟨_,n1,fun g=>?_,fun g hg=>?_⟩)
  ·exact absurd (G6 (Gu e) I2.sz) (Im _)
  ·exact absurd (z▸I2.lt) (Im _)
  ·obtain⟨v,o,e',_⟩:=I2.cell x c e;exact absurd (z▸Gu e') (Im _)
  ·obtain⟨e',_⟩:=I2.pin p hp;exact absurd (z▸Gu e') (Im _)
  ·show qi (IV g [(f,y)]) (if g=f then some u else none);by_cases z:g=f
   ·subst z;rw[if_pos rfl];simp only[IV,beq_self_eq_true];exact ry
   ·rw[if_neg z];have:(g==f)=false:=beq_eq_false_iff_ne.mpr z;simp only[IV,this];exact True.intro
  ·by_cases z:g=f
   ·subst z;simp
   ·exact absurd (show(if g=f then some u else none)=none by rw[if_neg z]) hg
 ·obtain⟨⟨t0,g⟩,_⟩:=I2.hok a _ hx;obtain⟨⟨mA,n0,r,wi⟩,_⟩:=I2.hok dx _ hdx;refine yT M I2.kIn g n0 wi (by rw[G7];omega) hn fun h' tk' kp n1=>⟨σ,_,I2.write (x:=dx) (e:=dx) (by rw[hdx];exact True.intro) (.inl rfl) (fun b u nb e=>kp b u nb e) (let⟨o,_,_,e,_⟩:=n1;⟨o,e⟩) (okF ⟨_,n1,fun g=>?_,fun g hg=>?_⟩),q2⟩
  ·show qi ((lJ f y fs).lookup g) (if g=f then some u else mA g);rw[jQ];by_cases z:g=f
   ·rw[if_pos z,if_pos z];exact ry
   ·rw[if_neg z,if_neg z];exact r g
  ·by_cases z:g=f
   ·rw[z];exact(jy f y fs).1
   ·refine(jy f y fs).2 g (wi g fun y=>hg ?_);show(if g=f then some u else mA g)=none;rw[if_neg z];exact y
structure ErrA(K:cc)(C:Addr)(f:Str):Prop where
 c:ErrC K C
 hd:IJ K C=true
 no:findIn K (.ref C) f=some none
def Fj(K:cc)(ta:TE)(f:Str):TE:=fun σ H Q=>ta σ H fun x H1=>∃a C dx fs v φ,x=.ref a/\H1 a=some (.ext φ)/\(∀h,φ h->qj a C (some dx) h)/\H1 dx=some (.ext (mh dx fs))/\ErrA K C f/\fs.lookup f=some v/\Q v H1
theorem zc(he:PE X o ta)(hb:Iw o f X.env (eval o X.env)=eval o X.env):PE X (.Attribute o f pos) (Fj X.K ta f):=by intro pins s σ H Q I h;refine zL hb (thn (he pins s σ H _ I h) fun u s1 z=>?_);obtain⟨x,H1,I1,rx,a,C,dx,fs,v,φ,ex,ea,im,ed,Z,l,q⟩:=z;subst ex;obtain rfl:u=Hy a:=rx;obtain⟨p,_⟩:=I1.hok a _ ea;obtain⟨oe,g,hc,hd,hnc⟩:=im _ p;obtain⟨⟨mA,n0,r,_⟩,_⟩:=I1.hok dx _ ed;obtain⟨u,hu,ru⟩:=qi.some_of (v:=v) (o:=mA f) (by rw[<-l];exact r f);exact zK F.excAttr_ValueError.ga I1.kIn Z.c Z.hd g hc hnc hd n0 hu Z.no (vz ru) ⟨v,H1,I1.tok _,ru,q⟩
end
inductive SmD:D->Prop
 |non:SmD .non
 |int {i:Int} (h0:0<=i) (h1:i<1000000):SmD (.int i)
def sV:D->V
 |.int i=>.int i
 |_=>.non
theorem SmD.rep{K:cc}{H:Hp}{d:D}{v:V}(h:SmD d)(r:Rep K H d v):v=sV d/\Small v:=by
 cases h with
 |non=>rw[Rep]at r;exact⟨r,.inl r⟩
 |int h0 h1=>rw[Rep]at r;exact⟨r,.inr ⟨_,r,h0,h1⟩⟩
theorem SmD.back{K:cc}{H:Hp}{d:D}(h:SmD d):Rep K H d (sV d):=by
 cases h with
 |non=>rw[Rep];rfl
 |int h0 h1=>rw[Rep];rfl
def il(C:Addr)(dd:Option Addr):MO:=.gen fun K H a=>∃φ,H a=some (.ext φ)/\∀h,φ h->qj a C dd h
def yS(fs:List (Str×D)):MO:=.gen fun K H d=>H d=some (.ext (mh d (fs.map fun p=>(p.1,sV p.2))))
theorem Fu{K:cc}{H:Hp}{a C:Addr}{dd:Option Addr}{φ:Heap->Prop}(h:H a=some (.ext φ))(k:∀h,φ h->qj a C dd h):oo K H a (il C dd):=⟨⟨φ,h,k⟩,by rw[h];simp,fun H' g e=>⟨φ,e.trans h,k⟩⟩
theorem Fn{K:cc}{H:Hp}{d:Addr}{fs:List (Str×D)}(h:H d=some (.ext (mh d (fs.map fun p=>(p.1,sV p.2))))):oo K H d (yS fs):=⟨h,by rw[h];simp,fun H' g e=>e.trans h⟩
theorem Abs.Ff{K:cc}{H:Hp}{M:MH}{p:Addr}{o:HO}{m:MO}(h:Abs K H M)(hp:H p=none)(q:oo K (upd H p o) p m):Abs K (upd H p o) (au M p m):=fun a u e=>by
 by_cases ne:a=p
 ·subst ne;rw[ag]at e;cases e;exact q
 ·rw[aq ne]at e;exact(h a u e).gb (.new hp) (aQ ne)
theorem n9(f:Str):∀fs:List (Str×D),(fs.map fun p=>(p.1,sV p.2)).lookup f=(fs.lookup f).map sV
 |[]=>rfl
 |(x,d)::r=>by
  simp only[GH,IV]
  cases f==x with
  |true=>rfl
  |false=>exact n9 f r
def spI(C:Addr)(names:List Str):Sp:=fun vs H Q _=>∃a ys,vs=.ref a::ys/\ys.length=names.length/\(∀y∈ys,Small y)/\H a=some (.ext (gc a C none))/\
 ∀dx,H dx=none->Q .non (upd (upd H a (.ext (gc a C (some dx)))) dx (.ext (mh dx (names.zip ys))))
def MkE(P:GC)(w:Hd)(K:cc)(mg:Str->Option G0)(base:Heap)(k:Nat)(c:Str)(C:Addr)(names:List Str):Prop:=
 ∃S fI fd ps,ClsI K C S fI/\Hk K (.ref C) (.type "BaseException")=some true/\FnOk P w K mg base CX0 k fI fd ps (spI C names)/\Binds K fd ps []/\mg c=some (.ref C)
theorem MkE.mono{P:GC}{w:Hd}{K:cc}{mg:Str->Option G0}{base:Heap}{j k:Nat}{c:Str}{C:Addr}{names:List Str}(h:MkE P w K mg base j c C names)(l:j<=k):MkE P w K mg base k c C names:=let⟨S,fI,fd,ps,M,B,F,r⟩:=h;⟨S,fI,fd,ps,M,B,F.mono l,r⟩
theorem sG:∀{names:List Str} {ds:List D} {vs:List V} {K:cc} {H:Hp},aJ K H ds vs->(∀d∈ds,SmD d)->(names.zip ds).map (fun p=>(p.1,sV p.2))=names.zip vs/\∀v∈vs,Small v
 |names,[],vs,K,H,r,h=>by
  rw[aJ]at r;subst r
  exact⟨by simp,by simp⟩
 |names,d::ds,vs,K,H,r,h=>by
  rw[aJ]at r
  obtain⟨v,r',rfl,r1,r2⟩:=r
  obtain⟨e,sm⟩:=(h d GR).rep r1
  cases names with
  |nil=>
   obtain⟨_,z2⟩:=sG (names:=[]) r2 (fun d hd=>h d (Gr _ hd))
   exact⟨rfl,fun x hx=>(GO.mp hx).elim (fun z=>z▸sm) (z2 x)⟩
  |cons n ns=>
   obtain⟨z1,z2⟩:=sG (names:=ns) r2 (fun d hd=>h d (Gr _ hd))
   exact⟨by rw[Ic,GH,z1,e];rfl,fun x hx=>(GO.mp hx).elim (fun z=>z▸sm) (z2 x)⟩
section
variable{X:Cx}{k:Nat}{C:Addr}{names:List Str}{c f:Str}{np cpos pos:Pos}{e o:Expr}{es:List Expr}{t:TAD}{ta:TD}
def CF(K:cc)(ta:TD)(f:Str):TD:=fun δ M Q=>ta δ M fun x M1=>∃a C dx fs d,x=.ref a/\M1 a=some (il C (some dx))/\M1 dx=some (yS fs)/\ErrA K C f/\fs.lookup f=some d/\SmD d/\Q d M1
theorem AW(he:DE X o ta)(hb:Iw o f X.env (eval o X.env)=eval o X.env:=by rfl):DE X (.Attribute o f pos) (CF X.K ta f):=
 bA (zc he hb) fun σ H Q zz1_0=>by obtain⟨δ,M,R,hs,hM,q,fin⟩:=zz1_0;exact(⟨δ,M,_,hs,hM,q,fun x M1 v H1 g1 r1 a1 z=>by
  obtain⟨a,C,dx,fs,d,ex,h1,h2,Z,l,sm,q1⟩:=z
  subst ex
  rw[Rep]at r1;subst r1
  obtain⟨⟨φ,ea,im⟩,_⟩:=a1 _ _ h1
  obtain⟨ed,_⟩:=a1 _ _ h2
  exact⟨a,C,dx,_,sV d,φ,rfl,ea,im,ed,Z,by rw[n9,l];rfl,fin _ _ _ _ g1 sm.back a1 q1⟩⟩)
def yZ(K:cc):RC:=fun ds M Q=>pU K ds M Q\/∃a C dd c cv b,ds=[.ref a,c]/\M a=some (il C dd)/\ErrK K C/\Fz c=some cv/\Hw K (.ref C) cv=some b/\Q (.bl b) M
theorem b6{K:cc}(hK:X.K=K):c7 X (.builtin "isinstance") (yZ K):=by
 subst hK;intro pins s σ H vs us Q I rv z0;obtain⟨ds,M,R,rs,a,q,fin⟩:=z0;rcases q with q|⟨x,C,dd,c,cv,b,ed,hM,z,hc,hk,q⟩
 ·exact vx pins s σ H vs us Q I rv ⟨ds,M,R,rs,a,q,fin⟩
 ·subst ed;obtain⟨v,u,rfl,r,r'⟩:=lE rs;rw[Rep]at r;subst r;obtain⟨v',u',rfl,rw0,ru⟩:=vals2 rv;cases (show v'=Hy x from rw0)
  have eu:u'=cv:=by
   cases c with
   |ty n=>cases hc;rw[Rep]at r';subst r';exact ru
   |ref d=>cases hc;rw[Rep]at r';subst r';exact ru
   |_=>cases hc
  subst eu;obtain⟨⟨φ,ea,im⟩,_⟩:=a _ _ hM;obtain⟨p,_⟩:=I.hok x _ ea;obtain⟨o,g1,g2,_⟩:=im _ p;have h:∀tk,EP X pins σ Q (.bool b) { s with toks:=tk }:=fun tk=>⟨.bl b,H,I.tok tk,rfl,fin _ _ _ _ .refl (by rw[Rep]) a q⟩;exact J6 (Ay F.excAttr_ValueError.ga z.c z.s) I.kIn ⟨o,g1,g2⟩ hk (fun z=>nomatch z) h
end
abbrev RK:=Addr->Option Addr->MH->Prop
section
variable{P:GC}{w:Hd}{K:cc}{mg:Str->Option G0}{base:Heap}{N:List Str}{qual:Str}{scope:Jb}{f:Addr}{cd:G0}{A:He}{outer:List Env}{s:G3}{H:Hp}{E:XK}
def w4(R:RK)(C:Addr)(names:List Str)(t:TAD):TSD:=fun B δ M=>t δ M fun ds M1=>ds.length=names.length/\ds.length<=1000/\(∀d∈ds,SmD d)/\∀dx,M1 dx=none->R C (some dx) (au M1 dx (yS (names.zip ds)))
theorem vA{R:RK}{k:Nat}{C:Addr}{names:List Str}{c:Str}{np cpos pos:Pos}{e:Expr}{es:List Expr}{t:TAD}(hE:∀C dd M' H',Abs K H' M'->R C dd M'->E (.ref C) dd H')(M:MkE P w K mg base k c C names)(hr:Room (k+1) (bI (cH P w) P w K mg base N qual scope f cd A outer s H E).A)(ha:DA (bI (cH P w) P w K mg base N qual scope f cd A outer s H E) (e::es) t)(hg:Gl (bI (cH P w) P w K mg base N qual scope f cd A outer s H E) c:=by rfl)(hdb:(c==("__debug__":Str))=false:=by decide) (he:Gx (e::es) (bI (cH P w) P w K mg base N qual scope f cd A outer s H E).env=(false,eval e (bI (cH P w) P w K mg base N qual scope f cd A outer s H E).env)::Gx es (bI (cH P w) P w K mg base N qual scope f cd A outer s H E).env:=by rfl) (hpl:(Ik cpos (Gx es (bI (cH P w) P w K mg base N qual scope f cd A outer s H E).env)).any (·.1)=false:=by rfl) : DSt (bI (cH P w) P w K mg base N qual scope f cd A outer s H E) (.Raise (some (.Call (.Name c np) (e::es) [] cpos)) none pos) (w4 R C names t):=by
 obtain⟨S,fI,fd,ps,M,B,F,hb,hm⟩:=M;refine dg (u5 M B F hr hb hg hm ha hdb he hpl) fun D σ H1 ⟨δ,M0,hs,a0,B0,ok,q⟩=>⟨δ,M0,_,hs,a0,q,fun ds M1 vs H1 g1 r1 a1 z=>?_⟩;obtain⟨l1,l2,sm,q1⟩:=z;obtain⟨ez,sv⟩:=sG (names:=names) r1 sm;refine⟨by rw[<-r1.length];exact Gy l2 (by decide),fun a ha=>⟨a,vs,rfl,by rw[<-r1.length,l1],sv,aW,fun dx hdx=>⟨rfl,a,some dx,rfl,?_,hE C (some dx) _ _ ?_ (q1 dx ?_)⟩⟩⟩
 ·have ne:dx≠a:=fun z=>by subst z;rw[aW]at hdx;cases hdx
  rw[aQ ne.symm,aW]
 ·have ne:dx≠a:=fun z=>by subst z;rw[aW]at hdx;cases hdx
  have hd1:H1 dx=none:=by rw[aQ ne]at hdx;exact hdx
  have eH:gh (upd (upd (upd H1 a (.ext (gc a C none))) a (.ext (gc a C (some dx)))) dx (.ext (mh dx (names.zip vs)))) a=upd H1 dx (.ext (mh dx (names.zip vs))):=by
   funext b
   by_cases z:b=a
   ·subst z;rw[qZ,aQ ne.symm];exact ha.symm
   ·rw[dY z];by_cases y:b=dx
    ·subst y;rw[aW,aW]
    ·rw[aQ y,aQ z,aQ z,aQ y]
  rw[eH];refine a1.Ff hd1 ?_;rw[<-ez];exact Fn aW
 ·have ne:dx≠a:=fun z=>by subst z;rw[aW]at hdx;cases hdx
  rw[aQ ne]at hdx;exact a1.fresh hdx
abbrev rE:=List D->MH->RK->Prop
def xt(K:cc)(sp:rE):Sp:=fun vs H _ E=>∃ds M R,aJ K H ds vs/\Abs K H M/\sp ds M R/\∀C dd M' H',Abs K H' M'->R C dd M'->E (.ref C) dd H'
def mZ(P:GC)(w:Hd)(K:cc)(mg:Str->Option G0)(base:Heap)(k:Nat)(x:Str)(sp:rE):Prop:=
 ∃f fd ps,FnOk P w K mg base (cH P w) k f fd ps (xt K sp)/\mg x=some (.ref f)/\ID K (.ref f)=true/\Binds K fd ps []
theorem mZ.mono{j k:Nat}{x:Str}{sp:rE}(h:mZ P w K mg base j x sp)(l:j<=k):mZ P w K mg base k x sp:=let⟨f,fd,ps,F,r⟩:=h;⟨f,fd,ps,F.mono l,r⟩
end
section
variable{P:GC}{w:Hd}{K:cc}{mg:Str->Option G0}{base:Heap}
theorem D5{x:Str}{st:Stmt}{N ps:List Str}{k:Nat}{sp:rE}(T:Txt K mg x st)(S:FnScope N ps (ao st))
 (hb:∀(kV doc pm:G0) (an:Option Addr) (cdv ct:G0) (us:List G0),us.length=ps.length->bindArgs (Ie x x (b7 st) (bw st) (ao st) .none kV doc pm an cdv ct) ⟨us,[]⟩=pure (ps.zip us))
 (len:∀ds M R,sp ds M R->ds.length=ps.length)
 (body:∀(f:Addr) (cdv:G0) (A:He) (outer:List Env) (s:G3) (H:Hp) (E:XK) (R:RK),Room k (A.deeper (envOfC x (ao st) s.heap.objs.size f cdv))->(∀C dd M' H',Abs K H' M'->R C dd M'->E (.ref C) dd H')->
  ∃t,DSs (bI (cH P w) P w K mg base N x (ao st) f cdv A outer s H E) (bw st) t/\∀ds M,sp ds M R->t { nx:=fun _ _=>False,rt:=fun _ _=>False } (fP N ds) M):mZ P w K mg base (k+1) x sp:=by
 obtain⟨f,fd,F,hm⟩:=T
 have hbb:=F.binds hb
 have hkp:=F.kp
 obtain⟨oc,od,kV,doc,pm,an,cdv,ct,osl,rfl,lk,hcd⟩:=F.ex
 refine⟨f,_,ps,Bu lk hcd S (fun vs H Q E zz3_0=>by obtain⟨ds,M,R,rs,_,q,_⟩:=zz3_0;rw[<-rs.length];exact len _ _ _ q) (fun A outer s H vs Q E hr zz4_0=>?_),hm,hkp,hbb⟩
 obtain⟨ds,M,R,rs,a,q,hE⟩:=zz4_0
 obtain⟨t,ht,hq⟩:=body f cdv A outer s H E R hr hE
 exact⟨_,ht,fP N ds,M,jO rs,a,{ nx:=fun _ _=>False,rt:=fun _ _=>False },⟨fun _ _ _ _ _ _ _ z=>z.elim,fun _ _ _ _ _ _ _ z=>z.elim,fun _ _ _ _ _ _ _ z=>z,fun _ _ _ _ _ _ _ z=>z⟩,hq ds M q⟩
end
abbrev AO:=DS->MH->RK->Prop
def sT(K:cc)(t:AO):TR:=fun σ H E=>∃δ M R,Slots K H δ σ/\Abs K H M/\t δ M R/\∀C dd M' H1 H',Grow K H H1->Abs K H' M'->R C dd M'->E H1 (.ref C) dd H'
def zl(sp:rE)(t:TAD):AO:=fun δ M R=>t δ M fun ds M1=>sp ds M1 R
section
variable{Y:Cx}
theorem v9{k:Nat}{x:Str}{sp:rE}{p pos:Pos}{e:Expr}{es:List Expr}{t:TAD}(C:mZ Y.prog Y.w Y.K Y.mg Y.base k x sp)(hr:Room k Y.A)(ha:DA Y.nox (e::es) t)(hg:Gl Y.nox x:=by rfl)(hdb:(x==("__debug__":Str))=false:=by decide) (he:Gx (e::es) Y.env=(false,eval e Y.env)::Gx es Y.env:=by rfl) (hpl:(Ik pos (Gx es Y.env)).any (·.1)=false:=by rfl):Ci Y.nox (.Call (.Name x p) (e::es) [] pos) (sT Y.K (zl sp t)):=by obtain⟨f,fd,ps,F,hm,hk,hb⟩:=C;intro pins s σ H E I ⟨δ,M,R,hs,hM,q,fin⟩;exact xT F hr hg hm hk hb ha hdb he hpl pins s σ H E I ⟨δ,M,_,hs,hM,q,fun ds M1 vs H1 g1 r1 a1 q1=>⟨ds,M1,R,r1,a1,q1,fun C dd M' H' a' q'=>fin C dd M' H1 H' g1 a' q'⟩⟩
def BE(K:cc)(S:Addr)(j:Nat)(tb:TSD)(tR:AO)(th:TSD):TSD:=fun B δ M=>tb B δ M\/
 tR δ M fun C dd M'=>Hk K (.ref C) (.ref S)=some true/\∀a,M' a=none->th (Bv j B) (δ.set j (some (.ref a))) (au M' a (il C dd))
theorem zG{body:List Stmt}{b₀:Stmt}{bs:List Stmt}{c n:Str}{cp hp pos:Pos}{S:Addr}{tb:TSD}{tR:AO}{th:TSD}(j:Nat)(hN:Y.N.Nodup)(cl:ClsE Y.K c S)(hm:Y.mg c=some (.ref S))(hB:Hk Y.K (.ref S) (.type "BaseException")=some true)
 (hb:DSs Y.nox body tb) (hr:C2 Y.nox body (sT Y.K tR)) (hh:∀a,DSs (hold Y.nox a) (b₀::bs) th)
 (hj:Y.N[j]?=some n:=by rfl) (hk:Y.env.scope.names.lookup n=some .local:=by rfl) (hg:Gl Y.nox c:=by rfl) (hdb:(c==("__debug__":Str))=false:=by decide) (hst:Y.stack=Y.env::Y.outer:=by rfl) (hfr:Y.env.frame=some Y.env.locals:=by rfl) (hex:Y.ex=[]:=by rfl) :
 DSt Y.nox (.Try body [.ExceptHandler (some (.Name c cp)) (some n) (b₀::bs) hp] [] [] pos) (BE Y.K S j tb tR th):=
 dg (AR (tb:=t9 Y.K tb) (tR:=sT Y.K tR) (th:=t9 Y.K th) hst hfr hex hN hj hk hg hm hdb cl.ex hB hb hr hh) fun D σ H ⟨δ,M,hs,a,B,ok,q⟩=>by
  rcases q with q|q
  ·exact .inl ⟨δ,M,hs,a,B,ok,q⟩
  ·refine .inr ⟨δ,M,_,hs,a,q,fun C dd M' H1 H' g1 a' z=>⟨C,rfl,z.1,fun g2 x hx=>?_⟩⟩
   have g3:Grow Y.K H (upd H' x (.ext (qj x C dd))):=(g1.trans g2).trans (.new hx)
   refine⟨δ.set j (some (.ref x)),au M' x (il C dd),(hs.mono g3).set (by rw[Rep]) j,a'.Ff hx (Fu aW fun h z=>z),Bv j B,?_,z.2 x (a'.fresh hx)⟩
   exact⟨fun δ' M2 σ' H2 g' s' a2 z=>ok.nx _ _ _ _ (g3.trans g') (s'.gone j) a2 z,fun d M2 v H2 g' r a2 z=>ok.rt _ _ _ _ (g3.trans g') r a2 z,fun δ' M2 σ' H2 g' s' a2 z=>ok.bk _ _ _ _ (g3.trans g') (s'.gone j) a2 z,fun δ' M2 σ' H2 g' s' a2 z=>ok.ct _ _ _ _ (g3.trans g') (s'.gone j) a2 z⟩
end
def ug(s:Stmt)(i:Nat):Stmt:=match s with
 |.ClassDef _ _ _ b _ _ _ _ _ _ _=>b.getD i (.Pass ⟨0,0,0,0⟩)
 |_=>.Pass ⟨0,0,0,0⟩
section
variable{X:Cx}{e:Expr}{es:List Expr}{c1 c2:L2.St->Hp->Prop}
theorem parts_nil:Parts X [] (fun _ _=>True):=fun _ _=>trivial
theorem iC(h1:Part X e c1)(h2:Parts X es c2):Parts X (e::es) (fun σ H=>c1 σ H/\c2 σ H):=⟨c1,c2,h1,h2,fun _ _ z=>z⟩
end
section
variable{P:GC}{w:Hd}{K:cc}{mg:Str->Option G0}{base:Heap}{C S fI:Addr}{n1 n2:Str}{N:List Str}{vs:List V}{H:Hp}{Q:VK}{E:XK}{c:L2.St->Hp->Prop}
theorem DU(M:ClsI K C S fI)(h1:findIn K (.ref C) n1=some none)(hN:N.length=2)(h:spI C [n1] vs H Q E)(hc:∀a y,Small y->c [some (.ref a),some y] H) :
 E4 (Bo (Bg K S (yd (yH 0) (yd (E8 c) Ej)))) (Be K (yH 0) (yH 1) n1) { nx:=fun _ H'=>Q .non H',rt:=Q } (L2.start N vs) H:=by
 obtain⟨a,ys,rfl,hl,sm,hx,q⟩:=h
 match ys,hl with
 |[y],_=>
  have e:L2.start N [.ref a,y]=[some (.ref a),some y]:=by unfold L2.start;rw[hN];rfl
  rw[e]
  refine⟨_,rfl,hc a y (sm y (by simp)),fun m=>⟨a,m,C,fI,none,rfl,M,hx,?_⟩⟩
  exact⟨_,rfl,_,rfl,a,C,S,fI,rfl,M,h1,.inl ⟨aW,fun dx hd=>by
   have ne:dx≠a:=fun z=>by subst z;rw[aW]at hd;cases hd
   rw[zg];rw[aQ ne]at hd;exact q dx hd⟩⟩
end
section
variable{K:cc}{mg:Str->Option G0}{x y qual:Str}{st:Stmt}{C S fI:Addr}
theorem Cj{n:Str}(a:Hr K Hb x=some (some (.ref C)))(h:findIn K (.ref C) n=some none):findIn K (.ref (cl K x)) n=some none:=by rw[eG a];exact h
theorem wo{n:String}(h:Ji K S veM n=true):PySem.W.tailIn K veM (.ref S::veM)=true:=by
 unfold Ji at h;split at h
 ·rename_i dct cd sl hl;split at h
  ·simp only[GG,beq_iff_eq]at h;unfold PySem.W.tailIn;simp only[hl,Ja,GG,beq_iff_eq];refine .inr ⟨⟨h.1.2,h.2⟩,?_⟩;unfold PySem.W.tailIn;simp
  ·cases h
 ·cases h
theorem AX{cn cq:Str}{NS fI:Addr}{bss:List G0}{hdct:Bool}{sn:List Str}{sub:List G0}{ab:Bool}{col:Option Bool}{dd:Option Addr}{k0 k1 k2 k3 k5:Option G0}{nc:G0}{nd:Option Addr}{es:Array HL}{en:Nat}{ns:Array (Option G0)}{oc:G0}{od an:Option Addr}{osl:Array (Option G0)}{kV doc pm cdv ct:G0}
 (a:Hr K Hb x=some (some (.ref C))) (b:Hr K Hb y=some (some (.ref S))) (l:K.lookup C=some (excClassObj cn cq C NS bss (.ref S::veM) hdct sn sub ab col dd k0 k1 k2 k3 k5 "ValueError.__new__")) (lN:K.lookup NS=some ⟨nc,nd,.dict es en,ns⟩) (ok:(es.toList.all fun e=>match e.key with|.str _ _=>true|_=>false)=true) (ni:Hr K NS "__init__"=some (some (.ref fI)))
 (e:Ji K S veM "ValueError.__new__"=true) (fn:PySem.W.typeIn K (.ref fI)=some (.type "function")) (kp:ID K (.ref C)=true) (hd:IJ K C=true) (sa:findIn K (.ref C) "__setattr__"=some (some (.builtin "object.__setattr__"))) (ob:Hk K (.ref C) (.type "object")=some true)
 (lf:K.lookup fI=some ⟨oc,od,.func (Ie "__init__" qual (b7 st) (bw st) (ao st) .none kV doc pm an cdv ct),osl⟩) (cf:PySem.W.codeIn K cdv qual=true) (kf:ID K (.ref fI)=true):∃fI fd,ClsI K (cl K x) (cl K y) fI/\Fun K "__init__" qual st fI fd:=by
 rw[eG a,eG b]
 have okN:PySem.W.nsOkIn K NS=true:=by unfold PySem.W.nsOkIn;rw[lN];show(es.all _)=true;rw[<-Array.all_toList];exact ok
 exact⟨fI,_,⟨⟨_,_,_,_,_,_,_,_,_,_,_,_,_,_,_,l,okN,ni⟩,wo e,fn,kp,hd,sa,ob⟩,yi lf cf kf⟩
theorem AL(a:Hr K Hb x=some (some (.ref C)))(h1:PySem.W.specialIn K (.ref C) "__getattribute__"=some (some (.builtin "type.__getattribute__")))(h2:PySem.W.readsIn K C (.type "type")=true)(h3:PySem.W.findCls K (.ref C) (.type "type") "__init__"=some (.val (.builtin "ValueError.__init__"))):ClsB K (cl K x):=by rw[eG a];exact⟨h1,h2,h3⟩
theorem Ez(a:Hr K Hb x=some (some (.ref C)))(h:IJ K C=true):IJ K (cl K x)=true:=by rw[eG a];exact h
end
open PySem PySem.Spec PyProof.Rows L2 Ma
def Ow(w:Wl):Prop:=w.1<w.2.2.1\/(w.1=w.2.2.1/\w.2.1<w.2.2.2)
def eZ(x y:Int):Prop:=0<x\/(x=0/\0<y)
def onB(w:Wl)(x y:Int):Bool:=(HT.lexLe [w.1,w.2.1] [x,y]&&HT.lexLe [x,y] [w.2.2.1,w.2.2.2])&&decide (sd w x y=0)
def AB(w:Wl)(x y:Int):Bool:=decide (w.1=x/\w.2.1=y)||decide (w.2.2.1=x/\w.2.2.2=y)
def inB(w:Wl)(x y:Int):Bool:=!AB w x y&&onB w x y
def eqB(U V:Wl):Bool:=decide (U.1=V.1/\U.2.1=V.2.1/\U.2.2.1=V.2.2.1/\U.2.2.2=V.2.2.2)
def fX(U V:Wl):Bool:=!(eqB U V)&&!(inB U V.1 V.2.1)&&!(inB U V.2.2.1 V.2.2.2)&&!(inB V U.1 U.2.1)&&!(inB V U.2.2.1 U.2.2.2)&&(decide (0<=GW (sd1 U V)*GW (sd2 U V))||decide (0<=GW (sd1 V U)*GW (sd2 V U)))
theorem uu{a b c d:Int}:HT.lexLe [a,b] [c,d]=true↔¬eZ (a-c) (b-d):=by rw[dS,Hu,<-Bool.not_eq_true,a9];unfold eZ;omega
theorem lp{W h dx dy ux uy:Int}(hW:0<W)(hu:eZ ux uy)(ex:W*dx=h*ux)(ey:W*dy=h*uy):(eZ dx dy↔0<h)/\((dx=0/\dy=0)↔h=0):=by
 rcases Ht h 0 with z|z|z
 ·have:¬eZ dx dy/\¬(dx=0/\dy=0):=by
   rcases hu with u|⟨u,v⟩
   ·have:h*ux<0:=Int.mul_neg_of_neg_of_pos z u;have:dx<0:=yB hW (by rw[Int.mul_comm];omega);unfold eZ;omega
   ·subst u;have:h*uy<0:=Int.mul_neg_of_neg_of_pos z v;have h1:dy<0:=yB hW (by rw[Int.mul_comm];omega);have h2:dx=0:=by rw[Int.mul_zero]at ex;rcases IM.mp ex with y|y<;>omega
    unfold eZ;omega
  exact⟨⟨fun y=>absurd y this.1,fun y=>by omega⟩,⟨fun y=>absurd y this.2,fun y=>by omega⟩⟩
 ·subst z;rw[Int.zero_mul]at ex ey;have h1:dx=0:=by rcases IM.mp ex with y|y<;>omega
  have h2:dy=0:=by rcases IM.mp ey with y|y<;>omega
  subst h1 h2;unfold eZ;exact⟨by omega,by omega⟩
 ·have:eZ dx dy:=by
   rcases hu with u|⟨u,v⟩
   ·have:0<h*ux:=HX z u;exact .inl (xP hW (by rw[Int.mul_comm];omega))
   ·subst u;have:0<h*uy:=HX z v;have h1:0<dy:=xP hW (by rw[Int.mul_comm];omega);have h2:dx=0:=by rw[Int.mul_zero]at ex;rcases IM.mp ex with y|y<;>omega
    exact .inr ⟨h2,h1⟩
  exact⟨⟨fun _=>z,fun _=>this⟩,⟨fun y=>by unfold eZ at this;omega,fun y=>by omega⟩⟩
theorem pP{w:Wl}(h:Ow w):eZ (w.2.2.1-w.1) (w.2.2.2-w.2.1):=by unfold Ow at h;unfold eZ;omega
theorem uo{w:Wl}{x y W h:Int}(hw:Ow w)(hW:0<W)(ex:W*(x-w.1)=h*(w.2.2.1-w.1))(ey:W*(y-w.2.1)=h*(w.2.2.2-w.2.1))(hs:sd w x y=0):inB w x y=decide (0<h/\h<W):=by
 have u:=pP hw;obtain⟨a1,a2⟩:=lp hW u ex ey;have fx:W*(w.2.2.1-x)=(W-h)*(w.2.2.1-w.1):=by grind
 have fy:W*(w.2.2.2-y)=(W-h)*(w.2.2.2-w.2.1):=by grind
 obtain⟨b1,b2⟩:=lp hW u fx fy
 have e1:HT.lexLe [w.1,w.2.1] [x,y]=decide (0<=h):=by
  rw[GU,uu,decide_eq_true_iff]
  have:eZ (w.1-x) (w.2.1-y)↔¬eZ (x-w.1) (y-w.2.1)/\¬(x-w.1=0/\y-w.2.1=0):=by unfold eZ;omega
  rw[this,a1,a2];omega
 have e2:HT.lexLe [x,y] [w.2.2.1,w.2.2.2]=decide (h<=W):=by
  rw[GU,uu,decide_eq_true_iff]
  have:eZ (x-w.2.2.1) (y-w.2.2.2)↔¬eZ (w.2.2.1-x) (w.2.2.2-y)/\¬(w.2.2.1-x=0/\w.2.2.2-y=0):=by unfold eZ;omega
  rw[this,b1,b2];omega
 have e3:decide (w.1=x/\w.2.1=y)=decide (h=0):=by rw[decide_eq_decide,<-a2];omega
 have e4:decide (w.2.2.1=x/\w.2.2.2=y)=decide (h=W):=by
  rw[decide_eq_decide]
  have:(w.2.2.1=x/\w.2.2.2=y)↔(w.2.2.1-x=0/\w.2.2.2-y=0):=by omega
  rw[this,b2];omega
 unfold inB AB onB;rw[e1,e2,e3,e4,decide_eq_true hs,Bool.and_true,GU];simp only[GG,Hu,Bool.or_eq_false_iff,decide_eq_false_iff_not,decide_eq_true_eq];omega
theorem gH{w:Wl}{x y:Int}(hs:sd w x y≠0):inB w x y=false:=by unfold inB onB;rw[decide_eq_false hs];simp
theorem Bt{g W:Int}(hW:0<W){a b:Int}(ha:a=-g/\b=W-g\/a=g/\b=g-W):0<=GW a*GW b↔¬(0<g/\g<W):=by
 have key:∀x y:Int,0<=GW x*GW y↔¬((0<x/\y<0)\/(x<0/\0<y)):=fun x y=>by
  rcases Ht x 0 with u|u|u<;>rcases Ht y 0 with v|v|v
  ·rw[GK u,GK v];omega
  ·subst v;simp<;>omega
  ·rw[GK u,GY v];omega
  ·subst u;simp<;>omega
  ·subst u;simp
  ·subst u;simp<;>omega
  ·rw[GY u,GK v];omega
  ·subst v;simp<;>omega
  ·rw[GY u,GY v];omega
 rw[key];rcases ha with⟨rfl,rfl⟩|⟨rfl,rfl⟩<;>omega
theorem sP{U V:Wl}{W h g:Int}(hU:Ow U)(hV:Ow V)(hW:0<W)(ix:W*(V.1-U.1)=h*(U.2.2.1-U.1)-g*(V.2.2.1-V.1))(iy:W*(V.2.1-U.2.1)=h*(U.2.2.2-U.2.1)-g*(V.2.2.2-V.2.1))
 (ss:(sd1 U V=-g/\sd2 U V=W-g/\sd1 V U=h/\sd2 V U=h-W)\/(sd1 U V=g/\sd2 U V=g-W/\sd1 V U=-h/\sd2 V U=W-h)) (ne:eqB U V=false) :
 fX U V=decide (¬(0<=h/\h<=W/\0<=g/\g<=W)\/((h=0\/h=W)/\(g=0\/g=W))):=by
 have i1:inB U V.1 V.2.1=decide (g=0/\0<h/\h<W):=by
  by_cases z:g=0
  ·subst z
   rw[uo hU hW (h:=h) (by rw[ix];grind) (by rw[iy];grind) (show sd1 U V=0 by omega),decide_eq_decide];omega
  ·rw[gH (show sd1 U V≠0 by omega)];exact(decide_eq_false (fun q=>z q.1)).symm
 have i2:inB U V.2.2.1 V.2.2.2=decide (g=W/\0<h/\h<W):=by
  by_cases z:g=W
  ·subst z
   rw[uo hU hW (h:=h) (by grind) (by grind) (show sd2 U V=0 by omega),decide_eq_decide];omega
  ·rw[gH (show sd2 U V≠0 by omega)];exact(decide_eq_false (fun q=>z q.1)).symm
 have i3:inB V U.1 U.2.1=decide (h=0/\0<g/\g<W):=by
  by_cases z:h=0
  ·subst z
   rw[uo hV hW (h:=g) (by grind) (by grind) (show sd1 V U=0 by omega),decide_eq_decide];omega
  ·rw[gH (show sd1 V U≠0 by omega)];exact(decide_eq_false (fun q=>z q.1)).symm
 have i4:inB V U.2.2.1 U.2.2.2=decide (h=W/\0<g/\g<W):=by
  by_cases z:h=W
  ·subst z
   rw[uo hV hW (h:=g) (by grind) (by grind) (show sd2 V U=0 by omega),decide_eq_decide];omega
  ·rw[gH (show sd2 V U≠0 by omega)];exact(decide_eq_false (fun q=>z q.1)).symm
 have s1:0<=GW (sd1 U V)*GW (sd2 U V)↔¬(0<g/\g<W):=Bt hW (by rcases ss with y|y<;>omega)
 have s2:0<=GW (sd1 V U)*GW (sd2 V U)↔¬(0<h/\h<W):=Bt hW (by rcases ss with y|y<;>omega)
 have d1:decide (0<=GW (sd1 U V)*GW (sd2 U V))=decide (¬(0<g/\g<W)):=decide_eq_decide.mpr s1
 have d2:decide (0<=GW (sd1 V U)*GW (sd2 V U))=decide (¬(0<h/\h<W)):=decide_eq_decide.mpr s2
 unfold fX
 rw[ne,i1,i2,i3,i4,d1,d2,GU]
 simp only[GG,Hu,Ja,decide_eq_false_iff_not,decide_eq_true_eq,Bool.not_false,true_and]
 omega
theorem ph{n a b c d:Int}(h:b-d<n/\d-b<n):HT.lexLt [a,b] [c,d]=decide (n*a+b<n*c+d):=by
 rw[GU,a9,decide_eq_true_iff];rcases Ht a c with z|z|z
 ·have:n*1<=n*(c-a):=IG (by omega) (by omega);have e:n*(c-a)=n*c-n*a:=by grind
  omega
 ·subst z;omega
 ·have:n*1<=n*(a-c):=IG (by omega) (by omega);have e:n*(a-c)=n*a-n*c:=by grind
  omega
theorem z7{n a b c d:Int}(h:b-d<n/\d-b<n):(a=c/\b=d)↔n*a+b=n*c+d:=by
 have h1:=ph (a:=a) (c:=c) h;have h2:=ph (a:=c) (c:=a) (b:=d) (d:=b) ⟨h.2,h.1⟩;rw[GU,a9,decide_eq_true_iff]at h1 h2;constructor
 ·rintro⟨rfl,rfl⟩;rfl
 ·omega
theorem gR{a b:Int}{S:Nat}(h:a.natAbs+b.natAbs<=S):a-b<1+2*(S:Int)/\b-a<1+2*(S:Int):=by omega
theorem le4(p q r s:Nat):p+q<=p+q+r+s/\r+s<=p+q+r+s/\p+r<=p+q+r+s/\p+s<=p+q+r+s/\q+r<=p+q+r+s/\q+s<=p+q+r+s:=by omega
theorem vq{U V:Wl}(hU:Ow U)(hV:Ow V)(z1:sd1 U V=0)(z2:sd2 U V=0)(z3:sd1 V U=0)(z4:sd2 V U=0) :
 fX U V=!HT.lexLt [(dA U.1 U.2.1 V.1 V.2.1).1,(dA U.1 U.2.1 V.1 V.2.1).2] [(fQ U.2.2.1 U.2.2.2 V.2.2.1 V.2.2.2).1,(fQ U.2.2.1 U.2.2.2 V.2.2.1 V.2.2.2).2]:=by
 obtain⟨n,hn⟩:∃n:Int,n=1+2*((U.2.1.natAbs+U.2.2.2.natAbs+V.2.1.natAbs+V.2.2.2.natAbs:Nat):Int):=⟨_,rfl⟩
 have L4:=le4 U.2.1.natAbs U.2.2.2.natAbs V.2.1.natAbs V.2.2.2.natAbs
 have lt:=fun{a b c d:Int} (h:b-d<n/\d-b<n)=>ph (a:=a) (c:=c) h
 have ij:=fun{a b c d:Int} (h:b-d<n/\d-b<n)=>z7 (a:=a) (c:=c) h
 have B1:U.2.1-U.2.2.2<n/\U.2.2.2-U.2.1<n:=by rw[hn];exact gR L4.1
 have B2:V.2.1-V.2.2.2<n/\V.2.2.2-V.2.1<n:=by rw[hn];exact gR L4.2.1
 have B3:U.2.1-V.2.1<n/\V.2.1-U.2.1<n:=by rw[hn];exact gR L4.2.2.1
 have B4:U.2.1-V.2.2.2<n/\V.2.2.2-U.2.1<n:=by rw[hn];exact gR L4.2.2.2.1
 have B5:U.2.2.2-V.2.1<n/\V.2.1-U.2.2.2<n:=by rw[hn];exact gR L4.2.2.2.2.1
 have B6:U.2.2.2-V.2.2.2<n/\V.2.2.2-U.2.2.2<n:=by rw[hn];exact gR L4.2.2.2.2.2
 clear hn
 have hU':n*U.1+U.2.1<n*U.2.2.1+U.2.2.2:=by have:=lt (a:=U.1) (c:=U.2.2.1) B1;rw[GU,a9,decide_eq_true_iff]at this;exact this.mp hU
 have hV':n*V.1+V.2.1<n*V.2.2.1+V.2.2.2:=by have:=lt (a:=V.1) (c:=V.2.2.1) B2;rw[GU,a9,decide_eq_true_iff]at this;exact this.mp hV
 have sw:∀{a b:Int},a-b<n/\b-a<n->b-a<n/\a-b<n:=fun z=>⟨z.2,z.1⟩
 have inx:∀{w:Wl} {x y:Int},sd w x y=0->(w.2.1-y<n/\y-w.2.1<n)->(w.2.2.2-y<n/\y-w.2.2.2<n)->n*w.1+w.2.1<n*w.2.2.1+w.2.2.2->inB w x y=decide (n*w.1+w.2.1<n*x+y/\n*x+y<n*w.2.2.1+w.2.2.2):=fun{w x y} hs b1 b2 lw=>by
  have e1:decide (w.1=x/\w.2.1=y)=decide (n*w.1+w.2.1=n*x+y):=decide_eq_decide.mpr (ij b1)
  have e2:decide (w.2.2.1=x/\w.2.2.2=y)=decide (n*w.2.2.1+w.2.2.2=n*x+y):=decide_eq_decide.mpr (ij b2)
  have e3:HT.lexLt [x,y] [w.1,w.2.1]=decide (n*x+y<n*w.1+w.2.1):=lt (sw b1)
  have e4:HT.lexLt [w.2.2.1,w.2.2.2] [x,y]=decide (n*w.2.2.1+w.2.2.2<n*x+y):=lt b2
  unfold inB AB onB
  rw[decide_eq_true hs,dS,dS,e1,e2,e3,e4,Bool.and_true,GU]
  simp only[GG,Hu,Bool.or_eq_false_iff,decide_eq_false_iff_not,decide_eq_true_eq]
  omega
 have i1:=inx (w:=U) (x:=V.1) (y:=V.2.1) z1 B3 B5 hU'
 have i2:=inx (w:=U) (x:=V.2.2.1) (y:=V.2.2.2) z2 B4 B6 hU'
 have i3:=inx (w:=V) (x:=U.1) (y:=U.2.1) z3 (sw B3) (sw B4) hV'
 have i4:=inx (w:=V) (x:=U.2.2.1) (y:=U.2.2.2) z4 (sw B5) (sw B6) hV'
 have i5:eqB U V=decide (n*U.1+U.2.1=n*V.1+V.2.1/\n*U.2.2.1+U.2.2.2=n*V.2.2.1+V.2.2.2):=by
  unfold eqB
  rw[decide_eq_decide,<-ij B3,<-ij B6]
  exact⟨fun z=>⟨⟨z.1,z.2.1⟩,z.2.2⟩,fun z=>⟨z.1.1,z.1.2,z.2⟩⟩
 have j1:HT.lexLt [U.1,U.2.1] [V.1,V.2.1]=decide (n*U.1+U.2.1<n*V.1+V.2.1):=lt B3
 have j2:HT.lexLt [V.2.2.1,V.2.2.2] [U.2.2.1,U.2.2.2]=decide (n*V.2.2.1+V.2.2.2<n*U.2.2.1+U.2.2.2):=lt (sw B6)
 have j3:HT.lexLt [V.1,V.2.1] [V.2.2.1,V.2.2.2]=decide (n*V.1+V.2.1<n*V.2.2.1+V.2.2.2):=lt B2
 have j4:HT.lexLt [V.1,V.2.1] [U.2.2.1,U.2.2.2]=decide (n*V.1+V.2.1<n*U.2.2.1+U.2.2.2):=lt (sw B5)
 have j5:HT.lexLt [U.1,U.2.1] [V.2.2.1,V.2.2.2]=decide (n*U.1+U.2.1<n*V.2.2.1+V.2.2.2):=lt B4
 have j6:HT.lexLt [U.1,U.2.1] [U.2.2.1,U.2.2.2]=decide (n*U.1+U.2.1<n*U.2.2.1+U.2.2.2):=lt B1
 have fb:fX U V=(!(decide (n*U.1+U.2.1=n*V.1+V.2.1/\n*U.2.2.1+U.2.2.2=n*V.2.2.1+V.2.2.2))&&!(decide (n*U.1+U.2.1<n*V.1+V.2.1/\n*V.1+V.2.1<n*U.2.2.1+U.2.2.2))&&!(decide (n*U.1+U.2.1<n*V.2.2.1+V.2.2.2/\n*V.2.2.1+V.2.2.2<n*U.2.2.1+U.2.2.2))&&!(decide (n*V.1+V.2.1<n*U.1+U.2.1/\n*U.1+U.2.1<n*V.2.2.1+V.2.2.2))&&!(decide (n*V.1+V.2.1<n*U.2.2.1+U.2.2.2/\n*U.2.2.1+U.2.2.2<n*V.2.2.1+V.2.2.2))):=by
  unfold fX
  rw[i1,i2,i3,i4,i5,z1,z2,z3,z4]
  simp
 rw[fb]
 unfold dA fQ
 rw[dW,j1,j2]
 generalize n*U.1+U.2.1=A at *
 generalize n*U.2.2.1+U.2.2.2=B at *
 generalize n*V.1+V.2.1=C at *
 generalize n*V.2.2.1+V.2.2.2=D at *
 clear inx i1 i2 i3 i4 i5 lt ij
 by_cases y1:A<C<;>by_cases y2:D<B
 ·rw[decide_eq_true y1,decide_eq_true y2,if_pos rfl,if_pos rfl,j3,GU]
  simp only[GG,Hu,decide_eq_false_iff_not]
  omega
 ·rw[decide_eq_true y1,decide_eq_false y2,if_pos rfl,if_neg G5,j4,GU]
  simp only[GG,Hu,decide_eq_false_iff_not]
  omega
 ·rw[decide_eq_false y1,decide_eq_true y2,if_neg G5,if_pos rfl,j5,GU]
  simp only[GG,Hu,decide_eq_false_iff_not]
  omega
 ·rw[decide_eq_false y1,decide_eq_false y2,if_neg G5,if_neg G5,j6,GU]
  simp only[GG,Hu,decide_eq_false_iff_not]
  omega
def inS(t b X Y:Int)(w:Wl)(x y:Rat):Bool:=decide (Ma.ut t b X 1 w.1=x/\Ma.ut t b Y 1 w.2.1=y)||decide (Ma.ut t b X 1 w.2.2.1=x/\Ma.ut t b Y 1 w.2.2.2=y)
def mtD(t b X Y:Int)(U V:Wl):D:=lh (Ma.ut t b X 1 U.1) (Ma.ut t b Y 1 U.2.1) (Ma.ut t b X 1 U.2.2.1) (Ma.ut t b Y 1 U.2.2.2) (Ma.ut t b X 1 V.1) (Ma.ut t b Y 1 V.2.1) (Ma.ut t b X 1 V.2.2.1) (Ma.ut t b Y 1 V.2.2.2)
inductive Meets(t b X Y:Int)(U V:Wl):D->Prop
 |non (h:fX U V=true):Meets t b X Y U V .non
 |str {d:D} (h:fX U V=false):Meets t b X Y U V (.tup [.str "stretch",d])
 |spot {x y:Rat} (h:fX U V=(inS t b X Y U x y&&inS t b X Y V x y)):Meets t b X Y U V (.tup [.str "spot",Ma.spt x y])
theorem jU{t b X x p W k d:Int}(ht:0<t)(hb:0<b)(hW:0<W):Ma.ut t b X 1 x=Ma.ut t b X W (p*W+k*d)↔W*(x-p)=k*d:=by rw[Ma.xG ht hb (by decide) hW];constructor<;>intro h<;>grind
theorem meets{t b X Y:Int}{U V:Wl}(ht:0<t)(hb:0<b)(hU:Ow U)(hV:Ow V):Meets t b X Y U V (mtD t b X Y U V):=by
 unfold mtD;rw[yJ ht hb];have uU:=pP hU;have uV:=pP hV;have i1:sd2 U V=sd1 U V+crs (U.2.2.1-U.1) (U.2.2.2-U.2.1) (V.2.2.1-V.1) (V.2.2.2-V.2.1):=ui _ _ _ _ _ _ _ _;have i2:sd1 V U=crs (V.1-U.1) (V.2.1-U.2.1) (V.2.2.1-V.1) (V.2.2.2-V.2.1):=tK _ _ _ _ _ _;have i3:sd2 V U=crs (V.1-U.1) (V.2.1-U.2.1) (V.2.2.1-V.1) (V.2.2.2-V.2.1)-crs (U.2.2.1-U.1) (U.2.2.2-U.2.1) (V.2.2.1-V.1) (V.2.2.2-V.2.1):=uD _ _ _ _ _ _ _ _;have i4:crs (V.1-U.1) (V.2.1-U.2.1) (U.2.2.1-U.1) (U.2.2.2-U.2.1)=-sd1 U V:=uK _ _ _ _ _ _;have i5:crs (U.2.2.1-U.1) (U.2.2.2-U.2.1) (V.1-U.1) (V.2.1-U.2.1)=sd1 U V:=rfl;have ix:=A3 U.1 U.2.1 U.2.2.1 U.2.2.2 V.1 V.2.1 V.2.2.1 V.2.2.2;have iy:=Ba U.1 U.2.1 U.2.2.1 U.2.2.2 V.1 V.2.1 V.2.2.1 V.2.2.2;unfold wN;rw[i4];rw[i5]at ix iy ⊢;rw[<-i2]at ix iy i3 ⊢;generalize hw:crs (U.2.2.1-U.1) (U.2.2.2-U.2.1) (V.2.2.1-V.1) (V.2.2.2-V.2.1)=w at *;dsimp only;by_cases z:w=0
 ·subst z;rw[if_pos rfl];rw[Int.add_zero]at i1;rw[Int.sub_zero]at i3;rw[Int.zero_mul]at ix iy;by_cases y:sd1 U V=0
  ·have H0:sd1 V U=0:=by
    rw[y,Int.zero_mul,Int.add_zero]at ix iy;rcases IM.mp ix.symm with q|q
    ·exact q
    ·rcases IM.mp iy.symm with q'|q'
     ·exact q'
     ·unfold eZ at uU;omega
   have fl:=vq hU hV y (i1.trans y) H0 (i3.trans H0);by_cases g:HT.bZ [(dA U.1 U.2.1 V.1 V.2.1).1,(dA U.1 U.2.1 V.1 V.2.1).2] [(fQ U.2.2.1 U.2.2.2 V.2.2.1 V.2.2.2).1,(fQ U.2.2.1 U.2.2.2 V.2.2.1 V.2.2.2).2]=true
   ·rw[if_pos (.inr g)];refine .non ?_;rw[fl,Hu,<-Bool.not_eq_true];intro q;rw[dW,a9]at g;rw[a9]at q;omega
   ·rw[if_neg (fun q=>q.elim (fun q=>q y) g)];by_cases e:(dA U.1 U.2.1 V.1 V.2.1).1=(fQ U.2.2.1 U.2.2.2 V.2.2.1 V.2.2.2).1/\(dA U.1 U.2.1 V.1 V.2.1).2=(fQ U.2.2.1 U.2.2.2 V.2.2.1 V.2.2.2).2
    ·rw[if_pos e];refine .spot ?_;have f1:fX U V=true:=by rw[fl,Hu,<-Bool.not_eq_true,a9];omega
     rw[f1]
     have:inS t b X Y U (Ma.ut t b X 1 (dA U.1 U.2.1 V.1 V.2.1).1) (Ma.ut t b Y 1 (dA U.1 U.2.1 V.1 V.2.1).2)=true/\inS t b X Y V (Ma.ut t b X 1 (dA U.1 U.2.1 V.1 V.2.1).1) (Ma.ut t b Y 1 (dA U.1 U.2.1 V.1 V.2.1).2)=true:=by
      unfold Ow at hU hV;unfold dA fQ at e;unfold dA;by_cases y1:HT.bZ [V.1,V.2.1] [U.1,U.2.1]=true
      ·rw[if_pos y1]at e ⊢;by_cases y2:HT.lexLt [V.2.2.1,V.2.2.2] [U.2.2.1,U.2.2.2]=true
       ·rw[if_pos y2]at e;dsimp only at e;omega
       ·rw[if_neg y2]at e;dsimp only at e ⊢;unfold inS;refine⟨?_,?_⟩
        ·rw[e.1,e.2,decide_eq_true (p:=Ma.ut t b X 1 U.2.2.1=Ma.ut t b X 1 U.2.2.1/\_) ⟨rfl,rfl⟩,Bool.or_true]
        ·rw[decide_eq_true (p:=Ma.ut t b X 1 V.1=Ma.ut t b X 1 V.1/\_) ⟨rfl,rfl⟩,Bool.true_or]
      ·rw[if_neg y1]at e ⊢;by_cases y2:HT.lexLt [V.2.2.1,V.2.2.2] [U.2.2.1,U.2.2.2]=true
       ·rw[if_pos y2]at e;dsimp only at e ⊢;unfold inS;refine⟨?_,?_⟩
        ·rw[decide_eq_true (p:=Ma.ut t b X 1 U.1=Ma.ut t b X 1 U.1/\_) ⟨rfl,rfl⟩,Bool.true_or]
        ·rw[e.1,e.2,decide_eq_true (p:=Ma.ut t b X 1 V.2.2.1=Ma.ut t b X 1 V.2.2.1/\_) ⟨rfl,rfl⟩,Bool.or_true]
       ·rw[if_neg y2]at e;dsimp only at e;omega
     rw[this.1,this.2];rfl
    ·rw[if_neg e];refine .str ?_;rw[fl,Bool.not_eq_false',a9];rw[dW,a9]at g;omega
  ·rw[if_pos (.inl y)];refine .non ?_
   have H0:sd1 V U≠0:=fun q=>by
    rw[q,Int.zero_mul,Int.zero_add]at ix iy;rcases IM.mp ix.symm with u|u
    ·exact y u
    ·rcases IM.mp iy.symm with u'|u'
     ·exact y u'
     ·unfold eZ at uV;omega
   have en:eqB U V=false:=decide_eq_false fun q=>y (by unfold sd1 sd crs;rw[<-q.1,<-q.2.1];grind);unfold fX;rw[en,gH (show sd U V.1 V.2.1≠0 from y),gH (show sd U V.2.2.1 V.2.2.2≠0 from fun q=>y (i1.symm.trans q)),gH (show sd V U.1 U.2.1≠0 from H0),gH (show sd V U.2.2.1 U.2.2.2≠0 from fun q=>H0 (i3.symm.trans q)),i1]
   have:0<=GW (sd1 U V)*GW (sd1 U V):=by
    rcases Ht (sd1 U V) 0 with q|q|q
    ·rw[GK q];decide
    ·rw[q];decide
    ·rw[GY q];decide
   rw[decide_eq_true this];rfl
 ·rw[if_neg z];have en:eqB U V=false:=decide_eq_false fun q=>z (by rw[<-hw,<-q.1,<-q.2.1,<-q.2.2.1,<-q.2.2.2];unfold crs;grind)
  have main:∀W h g:Int,0<W->(w.natAbs:Int)=W->W*(V.1-U.1)=h*(U.2.2.1-U.1)-g*(V.2.2.1-V.1)->W*(V.2.1-U.2.1)=h*(U.2.2.2-U.2.1)-g*(V.2.2.2-V.2.1)->
   ((sd1 U V=-g/\sd2 U V=W-g/\sd1 V U=h/\sd2 V U=h-W)\/(sd1 U V=g/\sd2 U V=g-W/\sd1 V U=-h/\sd2 V U=W-h))->
   Meets t b X Y U V (E9 t b X Y (if min h g<0\/(w.natAbs:Int)<max h g then .non else .tup [.int (U.1*(w.natAbs:Int)+h*(U.2.2.1-U.1)),.int (U.2.1*(w.natAbs:Int)+h*(U.2.2.2-U.2.1)),.int (w.natAbs:Int)])):=fun W h g hW eW ex ey ss=>by
   have fp:=sP hU hV hW ex ey ss en
   rw[eW]
   by_cases o:min h g<0\/W<max h g
   ·rw[if_pos o]
    exact .non (by rw[fp,decide_eq_true_iff];omega)
   ·rw[if_neg o]
    refine .spot ?_
    rw[fp]
    have s1:inS t b X Y U (Ma.ut t b X W (U.1*W+h*(U.2.2.1-U.1))) (Ma.ut t b Y W (U.2.1*W+h*(U.2.2.2-U.2.1)))=decide (h=0\/h=W):=by
     have q0:=(lp (W:=W) (h:=h) (dx:=0) (dy:=0) hW uU)
     unfold inS
     rw[GU,Ja,decide_eq_true_iff,decide_eq_true_iff,decide_eq_true_iff,jU ht hb hW,jU ht hb hW,jU ht hb hW,jU ht hb hW]
     constructor
     ·rintro(⟨a,c⟩|⟨a,c⟩)
      ·left
       exact(lp hW uU (dx:=0) (dy:=0) (by rw[<-a];grind) (by rw[<-c];grind)).2.mp ⟨rfl,rfl⟩
      ·right
       have:=(lp (h:=h-W) hW uU (dx:=0) (dy:=0) (by grind) (by grind)).2.mp ⟨rfl,rfl⟩
       omega
     ·rintro(rfl|rfl)
      ·left;constructor<;>grind
      ·right;constructor<;>grind
    have s2:inS t b X Y V (Ma.ut t b X W (U.1*W+h*(U.2.2.1-U.1))) (Ma.ut t b Y W (U.2.1*W+h*(U.2.2.2-U.2.1)))=decide (g=0\/g=W):=by
     unfold inS
     rw[GU,Ja,decide_eq_true_iff,decide_eq_true_iff,decide_eq_true_iff,jU ht hb hW,jU ht hb hW,jU ht hb hW,jU ht hb hW]
     constructor
     ·rintro(⟨a,c⟩|⟨a,c⟩)
      ·left
       exact(lp hW uV (dx:=0) (dy:=0) (by grind) (by grind)).2.mp ⟨rfl,rfl⟩
      ·right
       have:=(lp (h:=g-W) hW uV (dx:=0) (dy:=0) (by grind) (by grind)).2.mp ⟨rfl,rfl⟩
       omega
     ·rintro(rfl|rfl)
      ·left;constructor<;>grind
      ·right;constructor<;>grind
    rw[s1,s2,GU,GG,decide_eq_true_iff,decide_eq_true_iff,decide_eq_true_iff]
    omega
  by_cases n:w<0
  ·rw[if_pos n,if_pos n];exact main (-w) (-sd1 V U) (- -sd1 U V) (by omega) (by omega) (by grind) (by grind) (.inr (by omega))
  ·rw[if_neg n,if_neg n];exact main w (sd1 V U) (-sd1 U V) (by omega) (by omega) (by grind) (by grind) (.inl (by omega))
def opD:Option Nat->D
 |some j=>.int (j:Int)
 |none=>.non
section
variable{prog:GC}{w:Hd}{A:He}{R:Result->G3->Prop}{s:G3}{elt t1 i1 t2 i2:Expr}{scope:Jb}{pos:Pos}{it acc:G0}{env:Env}
end
section
variable{X:Cx}{x y:Str}{px py pos:Pos}{js:List Nat}{scope:Jb}{elt i1 i2:Expr}{te:TE}{wi wi2:TI}{pins:List (Addr×Obj)}{σ:L2.St}{H:Hp}{s:G3}{fp:List Addr}{it:Addr}{tn:Nat->Heap->Prop}{J:It}
end
section
variable{X:Cx}{x y:Str}{px py pos:Pos}{js:List Nat}{scope:Jb}{elt i1 i2:Expr}{te:TD}{wd wd2:TID}
end
section
variable{prog:GC}{w:Hd}{A:He}{E:G0->G3->Prop}{s:G3}
end
section
variable{X:Cx}{e st:Expr}{pos p2:Pos}
end
section
variable{X:Cx}
end
abbrev iT(i:Int):Str:=G1 (toString i)
theorem Dt{i:Int}(h:Bd 1900 i):i.natAbs.log2<1920:=by
 by_cases z:i.natAbs=0
 ·rw[z];decide
 ·rw[Nat.log2_lt z];exact G6 h (Nat.pow_le_pow_right (by decide) (by decide))
section
variable{X:Cx}
theorem len_app(x y:Str):(x++y).length=x.length+y.length:=PySem.Str.length_append x y
def wZ:R2D:=fun x y M Q=>match x,y with
 |.str a,.str b=>a.length+b.length<=Gp/\Q (.str (a++b)) M
 |x,y=>y9 x y M Q
theorem aO:OpD X (Iu .Add) wZ:=d7 (sO.or cb) fun v u H Q z9=>by
 obtain⟨x,y,M,R,r1,r2,a,q,fin⟩:=z9;unfold wZ at q;split at q
 ·obtain rfl:v=.str _:=by rw[Rep]at r1;exact r1
  obtain rfl:u=.str _:=by rw[Rep]at r2;exact r2
  exact .inl ⟨_,_,rfl,rfl,q.1,fin _ _ _ _ .refl (by rw[Rep]) a q.2⟩
 ·exact .inr ⟨x,y,M,R,r1,r2,a,q,fin⟩
theorem qA{a b:Str}:decide (V.str a=V.str b)=decide (a=b):=by by_cases h:a=b<;>simp[h]
def BM:R2D:=fun x y M Q=>match x,y with
 |.str a,.str b=>Q (.bl (decide (a=b))) M
 |x,y=>Dp x y M Q
def rD:R2D:=fun x y M Q=>match x,y with
 |.str a,.str b=>Q (.bl (!decide (a=b))) M
 |x,y=>Dl x y M Q
theorem bj(hu:X.A.units+64<Jc):OpD X (GF .Eq) BM:=d7 (Fd.or (fo hu)) fun v u H Q z9=>by
 obtain⟨x,y,M,R,r1,r2,a,q,fin⟩:=z9;unfold BM at q;split at q
 ·obtain rfl:v=.str _:=by rw[Rep]at r1;exact r1
  obtain rfl:u=.str _:=by rw[Rep]at r2;exact r2
  exact .inl ⟨rfl,by rw[qA];exact fin _ _ _ _ .refl (by rw[Rep]) a q⟩
 ·exact .inr ⟨x,y,M,R,r1,r2,a,q,fin⟩
theorem eC(hu:X.A.units+64<Jc):OpD X (GF .NotEq) rD:=d7 (D0.or (nE hu)) fun v u H Q z9=>by
 obtain⟨x,y,M,R,r1,r2,a,q,fin⟩:=z9;unfold rD at q;split at q
 ·obtain rfl:v=.str _:=by rw[Rep]at r1;exact r1
  obtain rfl:u=.str _:=by rw[Rep]at r2;exact r2
  exact .inl ⟨rfl,by rw[qA];exact fin _ _ _ _ .refl (by rw[Rep]) a q⟩
 ·exact .inr ⟨x,y,M,R,r1,r2,a,q,fin⟩
def ue:R2D:=fun x y M Q=>match x,y with
 |.str a,.str b=>∃c:Nat,a=⟨#[c]⟩/\Q (.bl (!decide (c∈b.cps.toList))) M
 |x,y=>vS (fun b=>!b) x y M Q
theorem jv(hu:X.A.units+66<Jc):OpD X (GF .NotIn) ue:=d7 (pL.or (me hu)) fun v u H Q z9=>by
 obtain⟨x,y,M,R,r1,r2,a,q,fin⟩:=z9;unfold ue at q;split at q
 ·obtain rfl:v=.str _:=by rw[Rep]at r1;exact r1
  obtain rfl:u=.str _:=by rw[Rep]at r2;exact r2
  obtain⟨c,rfl,q⟩:=q;exact .inl ⟨_,_,rfl,rfl,by rw[PySem.StrLaws.found_one];exact fin _ _ _ _ .refl (by rw[Rep]) a q⟩
 ·exact .inr ⟨x,y,M,R,r1,r2,a,q,fin⟩
def Bc:RC:=fun ds M Q=>match ds with
 |[.str x]=>x.length<=Gp/\Q (.int (x.length:Int)) M
 |ds=>Cu ds M Q
theorem cx:c7 X (.builtin "len") Bc:=bJ (pG.or sk) fun vs H Q z9=>by
 obtain⟨ds,M,R,rs,a,q,fin⟩:=z9;unfold Bc at q;split at q
 ·obtain⟨v,rfl,r⟩:=b4 rs;rw[Rep]at r;subst r;exact .inl ⟨_,rfl,q.1,fin _ _ _ _ .refl (by rw[Rep]) a q.2⟩
 ·exact .inr ⟨ds,M,R,rs,a,q,fin⟩
theorem vF(hc:X.calm=true):b5 X (.builtin "any") (fun xs H Q=>∃(p:Addr) (bs:List Bool),xs=[.ref p]/\SqL X.K H p (bs.map V.bl)/\Q (.bl (bs.any id)) H):=by
 intro pins s σ H xs us Q I r z0;obtain⟨l,bs,e,hp,k⟩:=z0;subst e;obtain⟨u,rfl,ru⟩:=vals1 r;cases ru;obtain⟨its,r1,p1,_⟩:=I.list hp;have hv:=fJ r1;have hl:=p1.isList;have lt:l≠s.heap.objs.size:=GZ (let⟨_,e,_⟩:=hl;Gu e);refine call_any_walk (x:=.ref l) (wpAny_pyIter_list hl ⟨s.heap.objs.size,[s.heap.objs.size,l],[s.heap.objs.size],its.toArray.size,_,_,fun i=>(bs[i]?).getD false,rfl,Walks.list (A:=X.A.in1) (I.ok.hd hc) _ l lt its.toArray,⟨⟨_,GB _ rfl,rfl,rfl⟩,hl.push _⟩,fun i v s' Q' E' hP hQ=>?_,fun h' tk hk=>?_⟩)
 ·have hP':its[i]?=some v:=by simpa using hP
  rw[hv,Gs]at hP';cases eb:bs[i]? with
  |none=>rw[eb]at hP';cases hP'
  |some b=>
   rw[eb]at hP'
   cases hP'
   have hQ':Q' b s':=by simpa[eb]using hQ
   exact HF hQ'
 ·rw[show((HD its.toArray.size).any fun i=>(bs[i]?).getD false)=bs.any id by rw[Gz,hv,G7];exact LSm.range_any bs];exact⟨.bl (bs.any id),H,I.kept (LSm.kept_iter hk),rfl,k⟩
def EI:RC:=fun ds M Q=>match ds with
 |[.ref l]=>∃bs:List Bool,M l=some (.lst (Hz D.bl bs))/\Q (.bl (bs.any id)) M
 |_=>False
theorem Dd(hc:X.calm=true):c7 X (.builtin "any") EI:=bJ (vF hc) fun vs H Q z9=>by
 obtain⟨ds,M,R,rs,a,q,fin⟩:=z9;unfold EI at q;split at q
 ·obtain⟨bs,e,q⟩:=q;obtain⟨v,rfl,r⟩:=b4 rs;rw[Rep]at r;subst r;obtain⟨xs,hx,rx⟩:=a _ _ e;rw[l7 rx]at hx;exact⟨_,bs,rfl,SqL.of hx,fin _ _ _ _ .refl (by rw[Rep]) a q⟩
 ·exact q.elim
theorem C5:Hj "any"=some (.builtin "any"):=by decide +kernel
def AY:R2D:=fun x y M Q=>match x,y with
 |.str z,.int i=>z.length<=Gp/\∃c,atI z.cps.toList i=some c/\Q (.str ⟨#[c]⟩) M
 |x,y=>zo x y M Q
theorem aX{a b:Expr}{ta tb:TD}{pos:Pos}(ha:DE X a ta)(hb:DE X b tb)(hs:kl b:=by exact fun _ _=>rfl):DE X (.Subscript a b pos) (tm AY ta tb):=
 yO (wX xW fun v u H Q z9=>by
  obtain⟨x,y,M,R,r1,r2,a,q,fin⟩:=z9
  unfold AY at q
  split at q
  ·obtain rfl:v=.str _:=by rw[Rep]at r1;exact r1
   obtain rfl:u=.int _:=by rw[Rep]at r2;exact r2
   obtain⟨hz,c,e,q⟩:=q
   exact .inr (.inr ⟨_,_,c,rfl,rfl,hz,e,fin _ _ _ _ .refl (by rw[Rep]) a q⟩)
  ·exact nS ⟨x,y,M,R,r1,r2,a,q,fin⟩) ha hb hs
theorem vc:b5 X (.type "int") (fun xs H Q=>∃x n,xs=[.str x]/\PySem.intText? x=some n/\x.length<=640/\Q (.int n) H):=by intro pins s σ H xs us Q I r h;obtain⟨x,n,rfl,hn,hl,q⟩:=h;obtain⟨u,rfl,t,rfl⟩:=vals1 r;exact PySem.W.KIN.call_text hn hl ⟨.int n,H,I.tok _,⟨_,rfl⟩,q⟩
def A0:RC:=fun ds M Q=>match ds with
 |[.str x]=>∃n,PySem.intText? x=some n/\x.length<=640/\Q (.int n) M
 |ds=>yX ds M Q
theorem dJ:c7 X (.type "int") A0:=bJ (vc.or jx) fun vs H Q z9=>by
 obtain⟨ds,M,R,rs,a,q,fin⟩:=z9;unfold A0 at q;split at q
 ·obtain⟨v,rfl,r⟩:=b4 rs;rw[Rep]at r;subst r;obtain⟨n,e1,e2,q⟩:=q;exact .inl ⟨_,n,rfl,e1,e2,fin _ _ _ _ .refl (by rw[Rep]) a q⟩
 ·exact .inr ⟨ds,M,R,rs,a,q,fin⟩
def Bl:RC:=fun ds M Q=>match ds with
 |[.int i]=>Bd 1900 i/\Q (.str (iT i)) M
 |_=>False
theorem tM:c7 X (.type "str") Bl:=bJ pj fun vs H Q z9=>by
 obtain⟨ds,M,R,rs,a,q,fin⟩:=z9;unfold Bl at q;split at q
 ·obtain⟨v,rfl,r⟩:=b4 rs;rw[Rep]at r;subst r;exact⟨_,rfl,Dt q.1,fin _ _ _ _ .refl (by rw[Rep]) a q.2⟩
 ·exact q.elim
end
open PySem PySem.Spec PyProof.Rows L2 PySem.Builtin PySem.Builtin.Str
section
variable{X:Cx}
theorem nr:∀{ts:List Str} {us:List G0},Vals (ts.map V.str) us->∃l:List (Str×Tok),us=strValues l/\l.map (·.1)=ts
 |[],_,.nil=>⟨[],rfl,rfl⟩
 |t::ts,_,.cons r q=>by
  obtain⟨k,rfl⟩:=(show ∃k,_=Value.str t k from r)
  obtain⟨l,rfl,e⟩:=nr q
  exact⟨(t,k)::l,rfl,by rw[GH,e]⟩
theorem mS:∀(l:List (Str×Tok)),Vals ((l.map (·.1)).map V.str) (strValues l)
 |[]=>.nil
 |(x,t)::l=>.cons ⟨t,rfl⟩ (mS l)
def BI:V->List V->Hp->VK->Prop:=fun x vs H Q=>∃a b,x=.str a/\vs=[.str b]/\Q (.bl (IH a b)) H
theorem yw:MtM X "str.startswith" BI:=by intro pins s σ H x vs v us Q I rx rv z0;obtain⟨a,b,ex,ev,q⟩:=z0;subst ex ev;obtain⟨t,rfl⟩:=rx;obtain⟨u,rfl,t',rfl⟩:=rv.one;exact SC.startswith ⟨.bl _,H,I,rfl,q⟩
def E7:V->List V->Hp->VK->Prop:=fun x vs H Q=>∃a b,x=.str a/\vs=[.str b]/\(b.length==0)=false/\a.length<=Gp/\∀p,H p=none->Q (.ref p) (upd H p (.tup [.str (HG a b).1,.str (HG a b).2.1,.str (HG a b).2.2]))
theorem zC:MtM X "str.partition" E7:=by
 intro pins s σ H x vs v us Q I rx rv z0;obtain⟨a,b,ex,ev,hb,ha,q⟩:=z0;subst ex ev;obtain⟨t,rfl⟩:=rx;obtain⟨u,rfl,t',rfl⟩:=rv.one;refine call_meets PySem.F.slot_str_partition (J1 _ _ _) PySem.F.entry_str_partition (PySem.F.args_str_partition_2 _ _) (meets_str_partition a b t t' hb ha) ?_;have q':=q _ (I.hok.fresh (G9 _));have key:∀(p1 p2 p3:Str) (t1 t2 t3 k:Tok),Q (.ref s.heap.objs.size) (upd H s.heap.objs.size (.tup [.str p1,.str p2,.str p3]))->EP X pins σ Q (.ref s.heap.objs.size) { s with toks:=k,heap:=s.heap.push { cls:=.type "tuple",data:=.seq [.str p1 t1,.str p2 t2,.str p3 t3].toArray } }:=fun p1 p2 p3 t1 t2 t3 k z=>⟨.ref s.heap.objs.size,_,I.laid (o:=.tup [.str p1,.str p2,.str p3]) (t':=k) (fun b u e=>G4 _ e) (G9 _) ⟨nbL rfl,_,.cons ⟨_,rfl⟩ (.cons ⟨_,rfl⟩ (.cons ⟨_,rfl⟩ .nil)),⟨_,GB _ rfl,rfl,_,rfl⟩⟩,rfl,z⟩
 revert q'
 unfold HG;cases occurrences a b 0 a.length 1 with
 |nil=>intro q';exact key _ _ _ _ _ _ _ q'
 |cons i r=>intro q';exact key _ _ _ _ _ _ _ q'
def Di:V->List V->Hp->VK->Prop:=fun x vs H Q=>∃a b,x=.str a/\vs=[.str b]/\(b.length==0)=false/\a.length+2<=Gp/\∀p,H p=none->Q (.ref p) (upd H p (.lst ((Hf a b).map V.str)))
theorem yl:MtM X "str.split" Di:=by
 intro pins s σ H x vs v us Q I rx rv z0;obtain⟨a,b,ex,ev,hb,ha,q⟩:=z0;subst ex ev;obtain⟨t,rfl⟩:=rx;obtain⟨u,rfl,t',rfl⟩:=rv.one;have q':=q _ (I.hok.fresh (G9 _))
 have hn:(partsBetween a (occurrences a b 0 a.length (a.length+1)) b.length).length<=Gp:=by
  have:=StrLaws.occ_length_le a b 0 a.length (a.length+1)
  rw[length_partsBetween];omega
 have key:∀(l:List (Str×Tok)) (k:Tok),l.map (·.1)=Hf a b->EP X pins σ Q (.ref s.heap.objs.size) { s with toks:=k,heap:=s.heap.push { cls:=.type "list",data:=.seq (strValues l).toArray } }:=fun l k e=>by
  rw[<-e]at q'
  refine⟨.ref s.heap.objs.size,_,I.laid (o:=.lst ((l.map (·.1)).map V.str)) (t':=k) (fun b u e=>G4 _ e) (G9 _) ⟨?_,_,0,mS l,GB _ rfl⟩,rfl,q'⟩
  have h2:=PyProof.Rows.split_le a b
  rw[<-e,G7]at h2
  rw[G7,G7];omega
 cases h1:(decide (a.length<b.length)||decide (strKind a<strKind b))with
 |true=>exact call_meets PySem.F.slot_str_split (J1 _ _ _) PySem.F.entry_str_split (PySem.F.args_str_split_2 _ _) (meets_str_split_cannot_occur a b t t' h1) (key [(a,t)] s.toks (by unfold Hf;rw[if_pos h1];rfl))
 |false=>
  cases hf:(occurrences a b 0 a.length (a.length+1)).isEmpty with
  |true=>exact call_meets PySem.F.slot_str_split (J1 _ _ _) PySem.F.entry_str_split (PySem.F.args_str_split_2 _ _) (meets_str_split_not_found a b t t' h1 hb hf) (key [(a,t)] s.toks (by unfold Hf;rw[if_neg (ne_true_of_eq_false h1),if_pos hf];rfl))
  |false=>
   refine call_meets PySem.F.slot_str_split (J1 _ _ _) PySem.F.entry_str_split (PySem.F.args_str_split_2 _ _) (meets_str_split_sep a b t t' h1 hb hf (by omega) hn) ?_
   rw[strsFrom_eq]
   exact key (numbered s.toks _) _ (by rw[numbered_texts];unfold Hf;rw[if_neg (ne_true_of_eq_false h1),if_neg (ne_true_of_eq_false hf)])
def Cd:V->List V->Hp->VK->Prop:=fun x vs H Q=>∃a l ts,x=.str a/\vs=[.ref l]/\H l=some (.lst (ts.map V.str))/\JoinOk a ts=true/\Q (.str (Hg a ts)) H
theorem An:MtM X "str.join" Cd:=by intro pins s σ H x vs v us Q I rx rv z0;obtain⟨a,l,ts,ex,ev,hH,hj,q⟩:=z0;subst ex ev;obtain⟨t,rfl⟩:=rx;obtain⟨u,rfl,ru⟩:=rv.one;cases (show u=Hy l from ru);obtain⟨its,r,p,hz⟩:=I.list (SqL.of hH);obtain⟨ls,rfl,e⟩:=nr r;have hj':=hj;rw[<-e]at hj';have hg:∀us,Txt.join a us=Hg a us:=fun us=>StrLaws.glued_eq_join a us;refine call_meets PySem.F.slot_str_join (J1 _ _ _) PySem.F.entry_str_join (PySem.F.args_str_join_2 _ _) (meets_str_join_list a t l ls (by unfold JoinOk at hj';rw[Hu]at hj';exact hj')) ⟨p.isList,post_join ls ⟨joinOk_length hj',fun t' k=>?_⟩⟩;refine⟨.str _,H,I.tok k,⟨t',rfl⟩,?_⟩;rw[e,hg];exact q
theorem BD:SlR X (fun x lo hi H Q=>∃z i,x=.str z/\lo=some i/\hi=none/\z.length<=Gp/\Q (.str (Ii z (some i) none)) H):=by
 intro pins s σ H x v vl vu lo hi sl Q I rx hs pl pu z0;obtain⟨z,i,ex,e1,e2,hz,q⟩:=z0;subst ex e1 e2;obtain⟨t,rfl⟩:=rx;cases pl with
 |int _ u=>
  cases pu
  exact⟨"str",_,IB.lookup,J1 _ _ _,IK (l:=some (i,u)) (u:=none) (st:=none) hs rfl (post_val_or_str ⟨Gy (Jf z _ _) hz,fun t' k=>⟨.str _,H,I.tok k,⟨t',rfl⟩,q⟩⟩)⟩
def EX(te tl:TD):TD:=fun δ M Q=>te δ M fun x M1=>∃z,x=.str z/\z.length<=Gp/\tl δ M1 fun l M2=>∃i,l=.int i/\Q (.str (Ii z (some i) none)) M2
theorem vX{a lo:Expr}{te tl:TD}{pos p2:Pos}(he:DE X a te)(hl:DE X lo tl):DE X (.Subscript a (.Slice (some lo) none none p2) pos) (EX te tl):=
 bA (lW BD he (uA hl) tW) fun σ H Q z9=>by
  obtain⟨δ,M,R,hs,hM,q,fin⟩:=z9
  refine⟨δ,M,_,hs,hM,q,fun d M1 v H1 g1 r1 a1 zz1_0=>?_⟩
  obtain⟨z,ed,hz,q1⟩:=zz1_0
  subst ed
  rw[Rep]at r1;subst r1
  refine⟨δ,M1,_,hs.mono g1,a1,q1,fun d M2 v H2 g2 r2 a2 zz2_0=>?_⟩
  obtain⟨i,ed,q2⟩:=zz2_0
  subst ed
  rw[Rep]at r2;subst r2
  exact⟨i,rfl,z,i,rfl,rfl,rfl,hz,fin _ _ _ _ (g1.trans g2) (by rw[Rep]) a2 q2⟩
end
section
variable{X:Cx}{o e1:Expr}{to:TD}{t:TAD}{apos cpos:Pos}
def zu(to:TD)(t:TAD):TD:=fun δ M Q=>to δ M fun x M1=>∃a,x=.str a/\t δ M1 fun ds M2=>∃b,ds=[.str b]/\Q (.bl (IH a b)) M2
theorem sE(ho:DE X o to)(ha:DA X [e1] t)
 (hbase:Iw o "startswith" X.env (eval o X.env)=eval o X.env:=by rfl)
 (hfew:((Ik cpos (Gx [e1] X.env)).all (fun x=>!x.1)&&(backToKw cpos (keywordEach [] X.env)).all (fun x=>x.1.isSome)
  && decide ([e1].length+([]:List Keyword).length+(if([]:List Keyword).isEmpty then 0 else 1)<30))=true:=by rfl)
 (hline:(apos.endLine==cpos.line)=true:=by rfl) (hs:Gx [e1] X.env=(false,eval e1 X.env)::Gx [] X.env:=by rfl) (hplain:(Ik cpos (Gx [] X.env)).any (·.1)=false:=by rfl) :
 DE X (.Call (.Attribute o "startswith" apos) [e1] [] cpos) (zu to t):=
 bA (nW PySem.F.plainAttrs_str PySem.F.slot_str_startswith PySem.F.type_str_startswith yw ho ha hbase hfew hline hs hplain) fun σ H Q z9=>by
  obtain⟨δ,M,R,hsl,hM,q,fin⟩:=z9
  refine⟨δ,M,_,hsl,hM,q,fun x M1 v H1 g1 r1 a1 zz3_0=>?_⟩
  obtain⟨a,ex,q1⟩:=zz3_0
  subst ex
  rw[Rep]at r1
  subst r1
  refine⟨rfl,δ,M1,_,hsl.mono g1,a1,q1,fun ds M2 us H2 g2 r2 a2 zz4_0=>?_⟩
  obtain⟨b,ed,q2⟩:=zz4_0
  subst ed
  obtain⟨u1,rfl,ru1⟩:=b4 r2
  rw[Rep]at ru1
  subst ru1
  exact⟨a,b,rfl,rfl,fin _ _ _ _ (g1.trans g2) (by rw[Rep]) a2 q2⟩
def zY(to:TD)(t:TAD):TD:=fun δ M Q=>to δ M fun x M1=>∃a,x=.str a/\a.length<=Gp/\t δ M1 fun ds M2=>∃b,ds=[.str b]/\(b.length==0)=false/\Q (.tup [.str (HG a b).1,.str (HG a b).2.1,.str (HG a b).2.2]) M2
theorem vk(ho:DE X o to)(ha:DA X [e1] t)
 (hbase:Iw o "partition" X.env (eval o X.env)=eval o X.env:=by rfl)
 (hfew:((Ik cpos (Gx [e1] X.env)).all (fun x=>!x.1)&&(backToKw cpos (keywordEach [] X.env)).all (fun x=>x.1.isSome)
  && decide ([e1].length+([]:List Keyword).length+(if([]:List Keyword).isEmpty then 0 else 1)<30))=true:=by rfl)
 (hline:(apos.endLine==cpos.line)=true:=by rfl) (hs:Gx [e1] X.env=(false,eval e1 X.env)::Gx [] X.env:=by rfl) (hplain:(Ik cpos (Gx [] X.env)).any (·.1)=false:=by rfl) :
 DE X (.Call (.Attribute o "partition" apos) [e1] [] cpos) (zY to t):=
 bA (nW PySem.F.plainAttrs_str PySem.F.slot_str_partition PySem.F.type_str_partition zC ho ha hbase hfew hline hs hplain) fun σ H Q z9=>by
  obtain⟨δ,M,R,hsl,hM,q,fin⟩:=z9
  refine⟨δ,M,_,hsl,hM,q,fun x M1 v H1 g1 r1 a1 zz5_0=>?_⟩
  obtain⟨a,ex,hz,q1⟩:=zz5_0
  subst ex
  rw[Rep]at r1
  subst r1
  refine⟨rfl,δ,M1,_,hsl.mono g1,a1,q1,fun ds M2 us H2 g2 r2 a2 zz6_0=>?_⟩
  obtain⟨b,ed,hb,q2⟩:=zz6_0
  subst ed
  obtain⟨u1,rfl,ru1⟩:=b4 r2
  rw[Rep]at ru1
  subst ru1
  refine⟨a,b,rfl,rfl,hb,hz,fun p hp=>fin _ _ _ _ ((g1.trans g2).trans (.new hp)) ?_ (a2.new hp) q2⟩
  rw[Rep]
  exact⟨p,_,rfl,SqT.of aW,.cons (by rw[Rep]) (.cons (by rw[Rep]) (.cons (by rw[Rep]) .nil))⟩
theorem nX{K:cc}{H:Hp}:∀(ts:List Str),aJ K H (ts.map D.str) (ts.map V.str)
 |[]=>.nil
 |t::ts=>.cons (by rw[Rep]) (nX ts)
theorem tQ{K:cc}{H:Hp}:∀{ts:List Str} {xs:List V},aJ K H (ts.map D.str) xs->xs=ts.map V.str
 |[],xs,h=>by rw[List.map_nil,aJ]at h;exact h
 |n::ns,xs,h=>by
  rw[GH,aJ]at h
  obtain⟨x,r,rfl,h1,h2⟩:=h
  rw[Rep]at h1
  rw[h1,tQ h2];rfl
def zd(to:TD)(t:TAD):TD:=fun δ M Q=>to δ M fun x M1=>∃a,x=.str a/\a.length<=1000000/\t δ M1 fun ds M2=>∃b,ds=[.str b]/\(b.length==0)=false/\∀p,M2 p=none->Q (.ref p) (au M2 p (.lst ((Hf a b).map D.str)))
theorem cO(ho:DE X o to)(ha:DA X [e1] t)
 (hbase:Iw o "split" X.env (eval o X.env)=eval o X.env:=by rfl)
 (hfew:((Ik cpos (Gx [e1] X.env)).all (fun x=>!x.1)&&(backToKw cpos (keywordEach [] X.env)).all (fun x=>x.1.isSome)
  && decide ([e1].length+([]:List Keyword).length+(if([]:List Keyword).isEmpty then 0 else 1)<30))=true:=by rfl)
 (hline:(apos.endLine==cpos.line)=true:=by rfl) (hs:Gx [e1] X.env=(false,eval e1 X.env)::Gx [] X.env:=by rfl) (hplain:(Ik cpos (Gx [] X.env)).any (·.1)=false:=by rfl) :
 DE X (.Call (.Attribute o "split" apos) [e1] [] cpos) (zd to t):=
 bA (nW PySem.F.plainAttrs_str PySem.F.slot_str_split PySem.F.type_str_split yl ho ha hbase hfew hline hs hplain) fun σ H Q z9=>by
  obtain⟨δ,M,R,hsl,hM,q,fin⟩:=z9
  refine⟨δ,M,_,hsl,hM,q,fun x M1 v H1 g1 r1 a1 zz7_0=>?_⟩
  obtain⟨a,ex,hz,q1⟩:=zz7_0
  subst ex
  rw[Rep]at r1
  subst r1
  refine⟨rfl,δ,M1,_,hsl.mono g1,a1,q1,fun ds M2 us H2 g2 r2 a2 zz8_0=>?_⟩
  obtain⟨b,ed,hb,q2⟩:=zz8_0
  subst ed
  obtain⟨u1,rfl,ru1⟩:=b4 r2
  rw[Rep]at ru1
  subst ru1
  refine⟨a,b,rfl,rfl,hb,Gy (Nat.add_le_add_right hz 2) (show 1000002<=Gp from nbL rfl),fun p hp=>?_⟩
  exact fin _ _ _ _ ((g1.trans g2).trans (.new hp)) (by rw[Rep]) (a2.jk hp (nX _)) (q2 p (a2.fresh hp))
def CQ(to:TD)(t:TAD):TD:=fun δ M Q=>to δ M fun x M1=>∃a,x=.str a/\t δ M1 fun ds M2=>∃l ts,ds=[.ref l]/\M2 l=some (.lst (Hz D.str ts))/\JoinOk a ts=true/\Q (.str (Hg a ts)) M2
theorem cR(ho:DE X o to)(ha:DA X [e1] t)
 (hbase:Iw o "join" X.env (eval o X.env)=eval o X.env:=by rfl)
 (hfew:((Ik cpos (Gx [e1] X.env)).all (fun x=>!x.1)&&(backToKw cpos (keywordEach [] X.env)).all (fun x=>x.1.isSome)
  && decide ([e1].length+([]:List Keyword).length+(if([]:List Keyword).isEmpty then 0 else 1)<30))=true:=by rfl)
 (hline:(apos.endLine==cpos.line)=true:=by rfl) (hs:Gx [e1] X.env=(false,eval e1 X.env)::Gx [] X.env:=by rfl) (hplain:(Ik cpos (Gx [] X.env)).any (·.1)=false:=by rfl) :
 DE X (.Call (.Attribute o "join" apos) [e1] [] cpos) (CQ to t):=
 bA (nW PySem.F.plainAttrs_str PySem.F.slot_str_join PySem.F.type_str_join An ho ha hbase hfew hline hs hplain) fun σ H Q z9=>by
  obtain⟨δ,M,R,hsl,hM,q,fin⟩:=z9
  refine⟨δ,M,_,hsl,hM,q,fun x M1 v H1 g1 r1 a1 zz9_0=>?_⟩
  obtain⟨a,ex,q1⟩:=zz9_0
  subst ex
  rw[Rep]at r1
  subst r1
  refine⟨rfl,δ,M1,_,hsl.mono g1,a1,q1,fun ds M2 us H2 g2 r2 a2 zz10_0=>?_⟩
  obtain⟨l,ts,ed,hl,hj,q2⟩:=zz10_0
  subst ed
  obtain⟨u1,rfl,ru1⟩:=b4 r2
  rw[Rep]at ru1
  subst ru1
  obtain⟨ws,hws,rws⟩:=a2 _ _ hl
  rw[tQ rws]at hws
  exact⟨a,l,ts,rfl,rfl,hws,hj,fin _ _ _ _ (g1.trans g2) (by rw[Rep]) a2 q2⟩
end
def Its(z:Str):It:=⟨fun i _=>i<z.cps.size,fun i H x H'=>H'=H/\∃c,z.cps[i]?=some c/\x=.str ⟨#[c]⟩,fun i _=>z.cps.size<=i⟩
theorem wL{P:GC}{w:Hd}{K:cc}{tg:Expr}(z:Str)(t:Tok)(it:Addr):Turn P w K tg (Its z) [it] it (fun i h=>h.IsStrIter it "str_ascii_iterator" z t i) where
 mem:=by simp
 obj:=fun i h st b hb=>by
  obtain rfl:b=it:=by simpa using hb
  obtain⟨o,e,c,d⟩:=st
  exact⟨o,e,fun v z=>by rw[d]at z;cases z⟩
 keep:=fun i h h' ⟨o,e,r⟩ k=>⟨o,k it (by simp) o e,r⟩
 item:=by
  intro X hP hw hK hc i pins s σ H E I hf st hg
  subst hP hw hK
  have hg:i<z.cps.size:=hg
  obtain⟨f0,f1,f2,f3,f4,f5⟩:=hf it (by simp)
  refine wpAny_pyNext_ascii_item st (c:=z.cps[i]) (by simp[hg]) fun h' st' sb=>?_
  have I1:Inv X pins σ H { s with heap:=h',toks:=s.toks+1 }:=I.turned (t':=s.toks+1) (fun b o hb e=>(sb.2 b hb).trans e) f0 f1 f3 f4 f5
  obtain⟨o,e,c,d⟩:=id st'
  exact⟨_,rfl,tS (s:={ s with heap:=h',toks:=s.toks+1 }) e c d (by decide) ⟨.str ⟨#[z.cps[i]]⟩,H,I1,⟨_,rfl⟩,⟨rfl,_,by simp[hg],rfl⟩,st',fun b hb=>(hf b hb).1⟩⟩
 done:=by
  intro X hP hw hK hc i pins s σ H E I hf st hg
  subst hP hw hK
  have hg:z.cps.size<=i:=hg
  obtain⟨f0,f1,f2,f3,f4,f5⟩:=hf it (by simp)
  exact wpAny_pyNext_ascii_end (I.ok.hd hc) st (by simp;exact hg) fun h' eb=>⟨rfl,I.turned (t':=s.toks) (fun b o hb e=>eb b o hb e) f0 f1 f3 f4 f5⟩
 self:=fun _ _ _ _ _ st h=>wpAny_pyIter_striter_ascii st h
section
variable{X:Cx}{tg:Expr}
theorem BB{l:Expr}{tl:TE}(hl:PE X l tl):PI X tg l (fun σ H R=>tl σ H fun x H1=>∃z,x=.str z/\z.cps.all (· < 128)=true/\R (Its z) H1):=by
 intro pins s σ H R I h;refine thn (hl pins s σ H _ I h) fun v s1 zz1_0=>?_;obtain⟨x,H1,I1,r1,q1⟩:=zz1_0;obtain⟨z,e,ha,q⟩:=q1;subst e;obtain⟨t,rfl⟩:=r1;refine wpAny_pyIter_ascii ha ?_;refine⟨s1.heap.objs.size,[s1.heap.objs.size],_,_,H1,rfl,I1.kept (t':=s1.toks) fun b o e=>G4 _ e,wL z t _,⟨_,GB _ rfl,rfl,rfl⟩,fun b hb=>?_,q⟩;obtain rfl:b=s1.heap.objs.size:=by simpa using hb
 exact I1.wR (G9 _) (I1.hok.fresh (G9 _))
def FZ(tl:TD):TID:=fun δ M R=>tl δ M fun d M1=>∃z,d=.str z/\z.cps.all (· < 128)=true/\R ⟨z.cps.size,fun i=>(z.cps[i]?).map fun c=>.str ⟨#[c]⟩,fun _=>True⟩ M1
theorem xg{l:Expr}{tl:TD}(hl:DE X l tl):DI X tg l (FZ tl):=
 oK (BB hl) fun σ H R ⟨δ,M,RD,hs,hM,q,fin⟩=>⟨δ,M,_,hs,hM,q,fun d M1 v H1 g1 r1 a1 z9=>by
  obtain⟨z,ed,ha,q1⟩:=z9
  subst ed
  rw[Rep]at r1;subst r1
  refine⟨z,rfl,ha,fin _ M1 H1 _ g1 a1 q1 ⟨fun _ _ _ _ _=>G9 _,fun i _ _ hi _ _ _=>hi,?_⟩⟩
  rintro i H2 M2 v H3 hi g2 a2 _ ⟨rfl,c,e,rfl⟩
  exact⟨.refl,a2,_,by show(z.cps[i]?).map _=_;rw[e];rfl,by rw[Rep]⟩⟩
theorem AN{es:List Expr}{k:Nat}{t:TGs}{pos:Pos}(hc:X.calm=true)(h:PGs X es t)(hn:(Hv es X.env).length=2:=by rfl)(hst:(Hv es X.env).findIdx? (·.1)=some 1:=by rfl) :
 PG X (.Tuple es k pos) (fun v σ H Q=>∃a x0 xs,v=.ref a/\SqL X.K H a (x0::xs)/\xs.length<=1000000/\∀p,H p=none->t [x0,.ref p] σ (upd H p (.lst xs)) Q):=by
 intro pins s σ H v u Q I r z0
 obtain⟨a,x0,xs,ev,hq,hz,q⟩:=z0
 subst ev
 cases r
 obtain⟨its,rv,p,_⟩:=I.list hq
 obtain⟨u0,us,rfl,ru0,rus⟩:∃u0 us,its=u0::us/\RelV x0 u0/\Vals xs us:=by
  cases rv with
  |cons r t=>exact⟨_,_,rfl,r,t⟩
 have hl:=p.isList
 have hal:a<s.heap.objs.size:=let⟨o,ho,_⟩:=hl;Gu ho
 have hne:=GZ hal
 have lus:us.length<=1000000:=by rw[<-rus.length];exact hz
 have hsl:Gp=16777216:=sizeLine_eq
 rw[PyProof.Rows.assign_Tuple]
 refine G2 (Jg ?_)
 unfold unpack
 rw[hn,hst]
 refine G2 (HQ ?_)
 unfold unpackItems notIterableAtAll
 refine G2 (G2 (wpAny_specialOf hl.typeIs slot_list_iter.lookup (Gw ?_)))
 rw[if_neg (by simp)]
 refine G2 (HQ (wpAny_pyIter_list hl ?_))
 refine G2 (HQ (PySem.W.kun_draw hne 1 0 _ _ ⟨_,GB _ rfl,rfl,rfl⟩ (hl.push _) (by simp) fun h1 hit1 hs1=>?_))
 have hl1:h1.IsList a (u0::us).toArray:=(hl.push _).extBut hs1.extBut hne
 have hi1:s.heap.objs.size<h1.objs.size:=let⟨_,ho,_⟩:=hit1;Gu ho
 have ha1:a<h1.objs.size:=let⟨_,ho,_⟩:=hl1;Gu ho
 rw[if_neg (by simp)]
 refine G2 (HQ (PySem.W.kun_collect (s:={ s with heap:=h1 }) (T:="list_iterator") (.inr (.inr (.inl rfl))) (Walks.list (A:=X.A.in1) (I.ok.hd hc) s.heap.objs.size a hne (u0::us).toArray) (fun j u st=>st.1.typeIs) (k:=1) (by simp) ⟨hit1,hl1⟩ hi1 ha1 (fun h2 tk hk=>?_) (by simp;omega)))
 show GA _ _ (if us.length<0 then _ else _) _ _ _
 rw[if_neg (by omega)]
 have kp:∀b o,s.heap.get? b=some o->h2.get? b=some o:=fun b o e=>by
  have nb:b≠s.heap.objs.size:=GZ (Gu e)
  exact hk b o nb (hs1.extBut b o nb (G4 _ e))
 have I2:Inv X pins σ H { s with heap:=h2,toks:=tk }:=I.kept (t':=tk) kp
 have e1:us.take us.length=us:=List.take_length
 show GA _ _ (newList (us.take us.length) >>= fun d=>pure ([u0]++[d]++us.drop us.length)) _ _ _
 rw[e1,List.drop_length]
 refine G2 (wpAny_newList ?_ (by omega))
 refine Gw ?_
 have I3:=I2.laid (h':=h2.push (seqObj "list" us.toArray 0)) (a:=h2.objs.size) (o:=.lst xs) (t':=tk) (fun b u e=>G4 _ e) (G9 _) ⟨by omega,us,0,rus,GB _ rfl⟩
 exact h pins _ σ _ [x0,.ref h2.objs.size] [u0,.ref h2.objs.size] Q I3 (.cons ru0 (.cons rfl .nil)) (q _ (I2.hok.fresh (G9 _)))
theorem xc{e:Expr}{t:TGD}{p:Pos}(h:DG X e t)(he:(Hv [.Starred e p] X.env).map (·.2)=(Hv [e] X.env).map (·.2):=by rfl)(hs:(Hv [e] X.env).map (·.2)=assign e X.env::(Hv [] X.env).map (·.2):=by rfl):DGs X [.Starred e p] (gConsD t Bi):=fun pins s σ H vs us Q I r q=>by rw[he];exact aw h ba hs pins s σ H vs us Q I r q
def CJ(t:k9):TGD:=fun d δ M Q=>∃l d0 ds,d=.ref l/\M l=some (.lst (d0::ds))/\ds.length<=1000000/\∀p,M p=none->t [d0,.ref p] δ (au M p (.lst ds)) Q
theorem zy{es:List Expr}{k:Nat}{t:k9}{pos:Pos}(hc:X.calm=true)(h:DGs X es t)(hn:(Hv es X.env).length=2:=by rfl)(hst:(Hv es X.env).findIdx? (·.1)=some 1:=by rfl):DG X (.Tuple es k pos) (CJ t):=
 lY (AN hc h hn hst) fun v σ H Q z=>by
  obtain⟨d,δ,M,R,r,hs,a,⟨l,d0,ds,e,hl,hz,q⟩,fin⟩:=z
  subst e
  rw[Rep]at r;subst r
  obtain⟨xs,hx,rx⟩:=a _ _ hl
  rw[aJ]at rx
  obtain⟨x0,xr,rfl,r0,rr⟩:=rx
  refine⟨l,x0,xr,rfl,SqL.of hx,by rw[<-rr.length];exact hz,fun p hp=>?_⟩
  exact⟨[d0,.ref p],δ,_,R,.cons (r0.mono (.new hp)) (.cons (by rw[Rep]) .nil),hs.mono (.new hp),a.jk hp rr,q p (a.fresh hp),fin.go (.new hp)⟩
end
theorem bC{x y:Str}(h:x.cps.toList=y.cps.toList):x=y:=PySem.Str.ext' (Array.toList_inj.mp h)
theorem bO(x y:Str):(x++y).cps.toList=x.cps.toList++y.cps.toList:=by show(x.cps++y.cps).toList=_;simp
theorem bg(x:Str):x.length=x.cps.toList.length:=by simp[PySem.Str.length]
def dgs(n:Nat):List Nat:=(Nat.toDigits 10 n).map Char.toNat
theorem dh(n:Nat):(iT (n:Int)).cps.toList=dgs n:=PySem.W.KIN.signs_num n
theorem rn(n:Nat):(iT (-((n+1:Nat):Int))).cps.toList=45::dgs (n+1):=by have e:(-((n+1:Nat):Int))=Int.negSucc n:=rfl;rw[e];show(G1 (toString (Int.negSucc n))).cps.toList=_;rw[signs_ofString];show("-"++Nat.repr (n+1)).toList.map Char.toNat=_;rw[String.toList_append,HJ,Nat.toList_repr];rfl
theorem dN{n c:Nat}(h:c∈dgs n):48<=c/\c<=57:=by obtain⟨ch,hch,rfl⟩:=Ig.mp h;exact digit_range (Nat.isDigit_of_mem_toDigits (by decide) (by decide) hch)
theorem iW{n:Nat}(h:¬n<10):dgs n=dgs (n/10)++dgs (n%10):=by have hm:n%10<10:=Nat.mod_lt n (by decide);have t:Nat.toDigits 10 (n/10)++Nat.toDigits 10 (n%10)=Nat.toDigits 10 (10*(n/10)+n%10):=Nat.toDigits_append_toDigits (by decide) (by omega) hm;rw[Nat.div_add_mod]at t;unfold dgs;rw[<-t,HJ]
theorem c8{n:Nat}(h:n<10):dgs n=[48+n]:=by
 unfold dgs;rw[Nat.toDigits_of_lt_base h];show[(Nat.digitChar n).toNat]=_;have:∀d:Nat,d<10->(Nat.digitChar d).toNat=48+d:=by decide
 rw[this n h]
theorem jD(n:Nat):dgs n≠[]:=fun e=>by have h:=toDigits_len_ge 10 n;rw[List.map_eq_nil_iff.mp e]at h;exact absurd h (by decide)
theorem kq:∀(k n:Nat),n<10^(k+1)->(dgs n).length<=k+1
 |0,n,h=>by rw[c8 (by simpa using h)];simp
 |k+1,n,h=>by
  by_cases z:n<10
  ·rw[c8 z];simp
  ·have h2:n/10<10^(k+1):=by
    have:(10:Nat)^(k+1+1)=10^(k+1)*10:=Nat.pow_succ ..
    omega
   have:=kq k (n/10) h2
   rw[iW z,HM,c8 (Nat.mod_lt n (by decide))]
   simp
   omega
theorem qE:∀(n:Nat) (r:List Nat),dgs n=48::r->n=0:=by
 intro n
 induction n using Nat.strongRecOn with
 |_ n ih=>
  intro r h
  by_cases z:n<10
  ·rw[c8 z]at h;have:=(List.cons.inj h).1;omega
  ·rw[iW z]at h;cases e:dgs (n/10)with
   |nil=>exact absurd e (jD _)
   |cons a l=>
    rw[e,List.cons_append]at h
    have ha:=(List.cons.inj h).1
    have:=ih (n/10) (by omega) l (by rw[e,ha])
    omega
theorem p9{x:Str}{n:Nat}(hx:x.cps.toList=dgs n)(hl:x.length<=640):PySem.intText? x=some (n:Int):=by have e:=PySem.intText_digits (x:=x) (by rw[hx];exact fun c hc=>dN hc) (by rw[hx];exact jD n) (Gy hl (by decide));rw[hx]at e;rw[e];exact congrArg (fun z:Nat=>some (z:Int)) (PySem.W.KIN.val_back n)
theorem oA{c:Nat}:∀{a b r s:List Nat},c∉a->c∉b->a++c::r=b++c::s->a=b/\r=s
 |[],[],r,s,_,_,h=>⟨rfl,(List.cons.inj h).2⟩
 |[],y::b,r,s,_,hb,h=>absurd (List.cons.inj h).1 fun e=>hb (by rw[<-e];exact GR)
 |x::a,[],r,s,ha,_,h=>absurd (List.cons.inj h).1 fun e=>ha (by rw[e];exact GR)
 |x::a,y::b,r,s,ha,hb,h=>by
  obtain⟨e1,e2⟩:=List.cons.inj h
  obtain⟨e3,e4⟩:=oA (fun m=>ha (Gr _ m)) (fun m=>hb (Gr _ m)) e2
  exact⟨by rw[e1,e3],e4⟩
theorem join_cons(c:Nat)(t u:Str)(ts:List Str):(Hg ⟨#[c]⟩ (t::u::ts)).cps.toList=t.cps.toList++c::(Hg ⟨#[c]⟩ (u::ts)).cps.toList:=by show(t++⟨#[c]⟩++Hg ⟨#[c]⟩ (u::ts)).cps.toList=_;rw[bO,bO];simp
theorem qG(c:Nat):∀(ts us:List Str),ts≠[]->us≠[]->(∀t∈ts,c∉t.cps.toList)->(∀u∈us,c∉u.cps.toList)->Hg ⟨#[c]⟩ ts=Hg ⟨#[c]⟩ us->ts=us
 |[],_,h,_,_,_,_=>absurd rfl h
 |_,[],_,h,_,_,_=>absurd rfl h
 |[t],[u],_,_,_,_,h=>by rw[show t=u from h]
 |[t],u::v::us,_,_,ht,_,h=>by
  exfalso
  have e:t.cps.toList=u.cps.toList++c::(Hg ⟨#[c]⟩ (v::us)).cps.toList:=by rw[<-join_cons,<-h];rfl
  exact ht t (GX.mpr rfl) (by rw[e];simp)
 |t::v::ts,[u],_,_,_,hu,h=>by
  exfalso
  have e:u.cps.toList=t.cps.toList++c::(Hg ⟨#[c]⟩ (v::ts)).cps.toList:=by rw[<-join_cons,h];rfl
  exact hu u (GX.mpr rfl) (by rw[e];simp)
 |t::t2::ts,u::u2::us,_,_,ht,hu,h=>by
  have e:=congrArg (fun x:Str=>x.cps.toList) h
  rw[join_cons,join_cons]at e
  obtain⟨e1,e2⟩:=oA (ht t GR) (hu u GR) e
  rw[bC e1,qG c (t2::ts) (u2::us) (by simp) (by simp) (fun z hz=>ht z (Gr _ hz)) (fun z hz=>hu z (Gr _ hz)) (bC e2)]
theorem fF(c:Nat)(ts:List Str)(h0:ts≠[])(h:∀t∈ts,c∉t.cps.toList):Hf (Hg ⟨#[c]⟩ ts) ⟨#[c]⟩=ts:=qG c _ _ (fun e=>by have:=PyProof.Rows.split_pos (Hg ⟨#[c]⟩ ts) ⟨#[c]⟩;rw[e]at this;exact absurd this (by decide)) h0 (StrLaws.split_free _ c) h (J4 _ _)
theorem vD{x:Str}{c:Nat}(h:c∉x.cps.toList):HG x ⟨#[c]⟩=(x,Ih,Ih):=by
 have e:(occurrences x ⟨#[c]⟩ 0 x.length 1).isEmpty=true:=by rw[PyProof.Rows.empty_one,decide_eq_false h];rfl
 unfold HG;rw[List.isEmpty_iff.mp e]
theorem uW{x a b:Str}{c:Nat}(h:c∉a.cps.toList)(hx:x.cps.toList=a.cps.toList++c::b.cps.toList):HG x ⟨#[c]⟩=(a,⟨#[c]⟩,b):=by
 have hm:c∈x.cps.toList:=by rw[hx];simp
 have e:(occurrences x ⟨#[c]⟩ 0 x.length 1).isEmpty=false:=by rw[PyProof.Rows.empty_one,decide_eq_true hm];rfl
 have s1:=StrLaws.partition_sum x ⟨#[c]⟩
 have p2:(HG x ⟨#[c]⟩).2.1=⟨#[c]⟩:=by
  unfold HG;cases q:occurrences x ⟨#[c]⟩ 0 x.length 1 with
  |nil=>rw[q]at e;cases e
  |cons i r=>rfl
 have p1:c∉(HG x ⟨#[c]⟩).1.cps.toList:=by
  rcases PyProof.Rows.partition_head x ⟨#[c]⟩with⟨_,z⟩|⟨i,z1,z2,z3⟩
  ·obtain⟨j,hj⟩:=List.getElem?_of_mem hm;exact absurd ((StrLaws.subAt_one x c j).mpr hj) (z j)
  ·rw[z1];exact StrLaws.part_free x c 0 i (Gy (Nat.le_add_right _ _) z2.1) fun k _ hk=>z3 k hk
 have e2:=congrArg (fun z:Str=>z.cps.toList) s1;rw[bO,bO,p2,hx]at e2;have e3:(HG x ⟨#[c]⟩).1.cps.toList++c::(HG x ⟨#[c]⟩).2.2.cps.toList=a.cps.toList++c::b.cps.toList:=by rw[<-e2];simp
 obtain⟨q1,q2⟩:=oA p1 h e3;exact Prod.ext (bC q1) (Prod.ext p2 (bC q2))
theorem ma{x y:Str}{c:Nat}(h:x.cps.toList=c::y.cps.toList):Ii x (some 1) none=y:=by
 have hl:x.length=y.cps.toList.length+1:=by rw[bg,h];rfl
 have e:strSliceIndices (some 1) none 1 x.length=strSliceIndices (some ((1:Nat):Int)) (some ((x.length:Nat):Int)) 1 x.length:=by
  unfold strSliceIndices
  have h1:¬((x.length:Int)<0):=by omega
  have h2:max (0:Int) (min (x.length:Int) (x.length:Int))=x.length:=by omega
  simp[h1,h2]
 have p:=StrLaws.sliced_plain x (a:=1) (b:=x.length) (by omega) (G9 _);rw[<-e]at p;have l:(strSliceIndices (some 1) none 1 x.length).length=x.length-1:=by rw[e,StrLaws.strSliceIndices_plain (by omega) (G9 _)];simp
 unfold Ii;rw[if_neg (by rw[l];simp;omega),p];apply bC;rw[h];simp[hl];exact List.take_of_length_le (by simp)
theorem vK{x:Str}{c:Nat}{r:List Nat}(h:x.cps.toList=c::r):IH x ⟨#[c]⟩=true:=by obtain⟨h1,h2⟩:=(StrLaws.subAt_one x c 0).mpr (by rw[h];rfl);unfold IH;rw[h2,decide_eq_true h1];rfl
theorem yD{x:Str}{c:Nat}(h:x.cps.toList[0]?≠some c):IH x ⟨#[c]⟩=false:=by
 cases e:IH x ⟨#[c]⟩with
 |false=>rfl
 |true=>
  unfold IH at e
  rw[GG,decide_eq_true_eq]at e
  exact absurd ((StrLaws.subAt_one x c 0).mp e) h
theorem eN:G1 "/"=⟨#[47]⟩:=by decide +kernel
theorem dB:G1 " "=⟨#[32]⟩:=by decide +kernel
theorem Aj:G1 "\n"=⟨#[10]⟩:=by decide +kernel
theorem ko:G1 "-"=⟨#[45]⟩:=by decide +kernel
theorem eO:G1 "0"=⟨#[48]⟩:=by decide +kernel
theorem jA:G1 ""=Ih:=by decide +kernel
theorem oR:(G1 "wall").cps.toList=[119,97,108,108]:=by decide +kernel
theorem oY:(G1 "0123456789").cps.toList=[48,49,50,51,52,53,54,55,56,57]:=by decide +kernel
theorem df(a:Int):∃n:Nat,(a=n/\(iT a).cps.toList=dgs n)\/(a=-(n:Int)/\0<n/\(iT a).cps.toList=45::dgs n):=by
 by_cases h:0<=a
 ·obtain⟨n,rfl⟩:=Int.eq_ofNat_of_zero_le h;exact⟨n,.inl ⟨rfl,dh n⟩⟩
 ·obtain⟨n,e⟩:∃n:Nat,a=-((n+1:Nat):Int):=⟨a.natAbs-1,by omega⟩;subst e;exact⟨n+1,.inr ⟨rfl,by omega,rn n⟩⟩
theorem ka{a:Int}{c:Nat}(h:c∈(iT a).cps.toList):c=45\/(48<=c/\c<=57):=by
 obtain⟨n,⟨_,e⟩|⟨_,_,e⟩⟩:=df a
 ·rw[e]at h;exact .inr (dN h)
 ·rw[e]at h;rcases GO.mp h with h|h
  ·exact .inl h
  ·exact .inr (dN h)
theorem gI{a:Int}{k:Nat}(h:a.natAbs<10^(k+1)):(iT a).length<=k+2:=by
 obtain⟨n,⟨z,e⟩|⟨z,_,e⟩⟩:=df a
 ·have hn:a.natAbs=n:=by omega
  have:=kq k n (by omega);rw[bg,e];omega
 ·have hn:a.natAbs=n:=by omega
  have:=kq k n (by omega);rw[bg,e,GP];omega
theorem pO{n:Nat}{a:Int}(h:Bd (n+1) a):a.natAbs<10^(n+1):=G6 h (Nat.pow_le_pow_left (by decide) _)
theorem gi{α:Type}(l:List α):L2.atI l ((0:Nat):Int)=l[0]?:=by
 cases l with
 |nil=>rfl
 |cons a l=>exact fL rfl
def sF(a b:Int):Str:=if b=1 then iT a else iT a++⟨#[47]⟩++iT b
abbrev sQ(q:Rat):Str:=sF q.num (q.den:Int)
theorem iM{a b:Int}{c:Nat}(h:c∈(sF a b).cps.toList):c=45\/c=47\/(48<=c/\c<=57):=by
 unfold sF at h;split at h
 ·rcases ka h with z|z
  ·exact .inl z
  ·exact .inr (.inr z)
 ·rw[bO,bO]at h;rcases GS.mp h with h|h
  ·rcases GS.mp h with h|h
   ·rcases ka h with z|z
    ·exact .inl z
    ·exact .inr (.inr z)
   ·exact .inr (.inl (by simpa using h))
  ·rcases ka h with z|z
   ·exact .inl z
   ·exact .inr (.inr z)
theorem Cc{a b:Int}(ha:Bd 900 a)(hb:Bd 900 b):(sF a b).length<=2000:=by
 have h1:=gI (k:=899) (pO ha);have h2:=gI (k:=899) (pO hb);unfold sF;split
 ·omega
 ·rw[len_app,len_app];have:(⟨#[47]⟩:Str).length=1:=rfl;omega
def DH(q:List Rat):Str:=Hg ⟨#[32]⟩ (G1 "wall"::q.map sQ)
def wQ(t b X Y:Int)(w:Wl):List Rat:=[Ma.ut t b X 1 w.1,Ma.ut t b Y 1 w.2.1,Ma.ut t b X 1 w.2.2.1,Ma.ut t b Y 1 w.2.2.2]
def gC(t b X Y:Int)(w:Wl):Str:=DH (wQ t b X Y w)
theorem wA{M M':MH}{p:Addr}(h:M' p=none)(s:SD.Sub M M'):M p=none:=by
 cases e:M p with
 |none=>rfl
 |some o=>rw[s _ _ e]at h;cases h
theorem b30{z:Int}(h:z.natAbs<10^30):Bd 900 z:=G6 h (by show 10^30<=2^900;exact Gy (show 10^30<=2^100 by decide) (Nat.pow_le_pow_right (by decide) (by decide)))
theorem iY(s c:Nat):∀ts:List Str,c∈(Hg ⟨#[s]⟩ ts).cps.toList->c=s\/∃t∈ts,c∈t.cps.toList
 |[],h=>by simp[Hg,Ih]at h
 |[t],h=>.inr ⟨t,GX.mpr rfl,h⟩
 |t::u::ts,h=>by
  rw[join_cons]at h
  rcases GS.mp h with h|h
  ·exact .inr ⟨t,GR,h⟩
  ·rcases GO.mp h with h|h
   ·exact .inl h
   ·rcases iY s c (u::ts) h with z|⟨v,z1,z2⟩
    ·exact .inl z
    ·exact .inr ⟨v,Gr _ z1,z2⟩
theorem zR(t b X Y:Int)(w:Wl):10∉(gC t b X Y w).cps.toList/\(gC t b X Y w).cps.toList≠[]:=by
 refine⟨fun h=>?_,fun h=>?_⟩
 ·rcases iY 32 10 _ h with z|⟨v,z1,z2⟩
  ·cases z
  ·rcases GO.mp z1 with rfl|z1
   ·rw[oR]at z2;exact absurd z2 (by decide)
   ·obtain⟨q,_,rfl⟩:=Ig.mp z1;have:=iM z2;omega
 ·have e:(gC t b X Y w).cps.toList=(G1 "wall").cps.toList++32::(Hg ⟨#[32]⟩ ((wQ t b X Y w).map sQ)).cps.toList:=join_cons 32 _ _ _;rw[e,oR]at h;cases h
section
variable{X:Cx}
def Ei(te:TD):TTD:=fun δ M Q=>te δ M fun x M1=>∃l xs,x=.ref l/\M1 l=some (.lst xs)/\Q (!xs.isEmpty) M1
theorem tP{e:Expr}{te:TD}(he:DE X e te)(hw:∀whole,isTrue e X.env whole=(do let v <-whole;standAt e.pos;holding [v] (truthy v)):=by intro _;rfl):DT X e (Ei te):=
 k6 (xw he hw) fun σ H Q ⟨δ,M,R,hs,hM,q,fin⟩=>⟨δ,M,_,hs,hM,q,fun x M1 v H1 g1 r1 a1 ⟨l,xs,ex,hl,q1⟩=>by
  subst ex
  rw[Rep]at r1;subst r1
  obtain⟨ys,hy,ry⟩:=a1 _ _ hl
  refine⟨_,.inl ⟨ys,SqL.of hy,rfl⟩,?_⟩
  have e:ys.isEmpty=xs.isEmpty:=by
   have:=ry.length
   cases xs<;>cases ys<;>simp at this ⊢
  rw[e]
  exact fin _ _ _ g1 a1 q1⟩
end
section
variable{X:Cx}
theorem zM:SlR X (fun x lo hi H Q=>∃z,x=.str z/\z.length<=Gp/\Q (.str (Ii z lo hi)) H):=by
 intro pins s σ H x v vl vu lo hi sl Q I rx hs pl pu z0;obtain⟨z,ex,hz,q⟩:=z0;subst ex;obtain⟨t,rfl⟩:=rx;cases pl with
 |int i u=>
  cases pu with
  |int j u'=>exact⟨"str",_,IB.lookup,J1 _ _ _,IK (l:=some (_,u)) (u:=some (_,u')) (st:=none) hs rfl (post_val_or_str ⟨Gy (Jf z _ _) hz,fun t' k=>⟨.str _,H,I.tok k,⟨t',rfl⟩,q⟩⟩)⟩
  |none=>exact⟨"str",_,IB.lookup,J1 _ _ _,IK (l:=some (_,u)) (u:=none) (st:=none) hs rfl (post_val_or_str ⟨Gy (Jf z _ _) hz,fun t' k=>⟨.str _,H,I.tok k,⟨t',rfl⟩,q⟩⟩)⟩
 |none=>
  cases pu with
  |int j u'=>exact⟨"str",_,IB.lookup,J1 _ _ _,IK (l:=none) (u:=some (_,u')) (st:=none) hs rfl (post_val_or_str ⟨Gy (Jf z _ _) hz,fun t' k=>⟨.str _,H,I.tok k,⟨t',rfl⟩,q⟩⟩)⟩
  |none=>exact⟨"str",_,IB.lookup,J1 _ _ _,IK (l:=none) (u:=none) (st:=none) hs rfl (post_val_or_str ⟨Gy (Jf z _ _) hz,fun t' k=>⟨.str _,H,I.tok k,⟨t',rfl⟩,q⟩⟩)⟩
def Ao:D->Option Int->Option Int->MH->DK->Prop:=fun x lo hi M Q=>match x with
 |.str z=>z.length<=Gp/\Q (.str (Ii z lo hi)) M
 |x=>zE x lo hi M Q
def Ft(te:TD)(tl th:TOD):TD:=fun δ M Q=>te δ M fun x M1=>tl δ M1 fun l M2=>th δ M2 fun u M3=>Ao x l u M3 Q
variable{a:Expr}{te:TD}{tl th:TOD}{lo hi:Option Expr}{pos p2:Pos}
theorem aR(he:DE X a te)(hl:PO X lo (m8 X.K tl))(hu:PO X hi (m8 X.K th)):DE X (.Subscript a (.Slice lo hi none p2) pos) (Ft te tl th):=
 bA (lW ((uC.or xq).or zM) he hl hu) fun σ H Q z9=>by
  obtain⟨δ,M,R,hs,a,q,fin⟩:=z9
  refine⟨δ,M,_,hs,a,q,fun x M1 v H1 g1 r1 a1 q1=>⟨δ,M1,_,hs.mono g1,a1,q1,fun l M2 H2 g2 a2 q2=>⟨δ,M2,_,hs.mono (g1.trans g2),a2,q2,fun u M3 H3 g3 a3 q3=>?_⟩⟩⟩
  have G:=(g1.trans g2).trans g3
  have r3:=r1.mono (g2.trans g3)
  unfold Ao at q3
  split at q3
  ·rw[Rep]at r3
   subst r3
   exact .inr ⟨_,rfl,q3.1,fin _ _ _ _ G (by rw[Rep]) a3 q3.2⟩
  ·unfold zE at q3
   split at q3
   ·obtain⟨ds,e3,q3⟩:=q3
    obtain rfl:v=.ref _:=r3
    obtain⟨xs,hx,rs⟩:=a3 _ _ e3
    exact .inl (.inl ⟨_,xs,rfl,SqL.of hx,fun z hz=>fin _ _ _ _ (G.trans (.new hz)) (by rw[Rep]) (a3.jk hz (rs.cut _ _)) (q3 z (a3.fresh hz))⟩)
   ·rw[Rep]at r3
    obtain⟨b,xs,rfl,hx,rs⟩:=r3
    exact .inl (.inl ⟨_,xs,rfl,hx.sql,fun z hz=>fin _ _ _ _ (G.trans (.new hz)) (by rw[Rep]) (a3.jk hz (rs.cut _ _)) (q3 z (a3.fresh hz))⟩)
   ·obtain⟨hw,q3⟩:=q3
    rw[Rep]at r3
    obtain⟨b,xs,rfl,hx,rs⟩:=r3
    exact .inl (.inr ⟨_,xs,rfl,hx,by rw[<-rs.length];exact hw,fun z hz=>fin _ _ _ _ (G.trans (.new hz)) (by rw[Rep];exact⟨z,_,rfl,SqT.of aW,(rs.cut _ _).mono (.new hz)⟩) (a3.new hz) q3⟩)
   ·exact q3.elim
def rA(z:Str)(n:Int):Str:=⟨(J0 n.toNat z.cps).foldl (·++·) #[]⟩
theorem rq:OpR X (Iu .Mult) (fun x y H Q=>∃z n,x=.str z/\y=.int n/\1<n/\n<=1000/\0<z.length/\z.length<=1000/\(rA z n).length<=Gp/\Q (.str (rA z n)) H):=by
 intro pins s σ H x y v u Q I rx ry h;obtain⟨z,n,rfl,rfl,h1,h2,h3,h4,h5,q⟩:=h;obtain⟨t,rfl⟩:=rx;obtain⟨t',rfl⟩:=ry;have e:(n==1||z.length==0)=false:=by rw[Bool.or_eq_false_iff];exact⟨by rw[beq_eq_false_iff_ne];omega,by rw[beq_eq_false_iff_ne];omega⟩
 have sz:1000000<=Gp:=nbL rfl;have le:z.length*n.toNat<=1000*1000:=Nat.mul_le_mul h4 (by omega);refine PySem.P.mul_str (by rw[Bool.or_eq_false_iff];exact⟨decide_eq_false (by omega),decide_eq_false (by omega)⟩) (fun _ _=>?_) (fun _ _=>?_) ?_
 ·have:(1000:Int)<=(2^63-1)/n:=by rw[Int.le_ediv_iff_mul_le (by omega)];omega
  omega
 ·show decide (_>Gp)=false;exact decide_eq_false (by omega)
 ·rw[if_neg (by omega),if_neg (by rw[e];decide)];exact⟨h5,.str _,H,I.tok _,⟨_,rfl⟩,q⟩
def Bm:R2D:=fun x y M Q=>match x,y with
 |.str z,.int n=>1<n/\n<=1000/\0<z.length/\z.length<=1000/\(rA z n).length<=Gp/\Q (.str (rA z n)) M
 |x,y=>A1 x y M Q
theorem zD:OpD X (Iu .Mult) Bm:=d7 (rq.or aG) fun v u H Q z9=>by
 obtain⟨x,y,M,R,r1,r2,a,q,fin⟩:=z9;unfold Bm at q;split at q
 ·obtain rfl:v=.str _:=by rw[Rep]at r1;exact r1
  obtain rfl:u=.int _:=by rw[Rep]at r2;exact r2
  obtain⟨h1,h2,h3,h4,h5,q⟩:=q;exact .inl ⟨_,_,rfl,rfl,h1,h2,h3,h4,h5,fin _ _ _ _ .refl (by rw[Rep]) a q⟩
 ·exact .inr ⟨_,_,M,R,r1,r2,a,q,fin⟩
theorem Ck{es:List Expr}{k n:Nat}{t:TGs}{pos:Pos}(hc:X.calm=true)(h:PGs X es t)(hn:(Hv es X.env).length=n:=by rfl)(hst:(Hv es X.env).findIdx? (·.1)=none:=by rfl) :
 PG X (.Tuple es k pos) (fun v σ H Q=>∃a xs,v=.ref a/\SqL X.K H a xs/\xs.length=n/\t xs σ H Q):=by
 intro pins s σ H v u Q I r z0
 obtain⟨a,xs,ev,hq,hl,q⟩:=z0
 subst ev
 cases r
 obtain⟨its,rv,p,_⟩:=I.list hq
 have e:(Hv es X.env).length=its.toArray.size:=by rw[hn,<-hl,rv.length,Gz]
 rw[PyProof.Rows.assign_Tuple]
 refine G2 (Jg ?_)
 unfold unpack
 rw[e,hst]
 refine G2 (HQ (PySem.W.kun_itemsOf (I.ok.hd hc) p.isList fun h' hx=>?_))
 have I1:Inv X pins σ H { s with heap:=h' }:=I.kept (t':=s.toks) fun b o e=>hx b o (GZ (Gu e)) e
 exact h pins _ σ H xs _ Q I1 (by simpa using rv) q
def El(n:Nat)(t:k9):TGD:=fun d δ M Q=>∃l ds,d=.ref l/\M l=some (.lst ds)/\ds.length=n/\t ds δ M Q
theorem w8{es:List Expr}{k n:Nat}{t:k9}{pos:Pos}(hc:X.calm=true)(h:DGs X es t)(hn:(Hv es X.env).length=n:=by rfl)(hst:(Hv es X.env).findIdx? (·.1)=none:=by rfl):DG X (.Tuple es k pos) (El n t):=
 lY (Ck hc h hn hst) fun v σ H Q z=>by
  obtain⟨d,δ,M,R,r,hs,a,⟨l,ds,e,hl,hn,q⟩,fin⟩:=z
  subst e
  rw[Rep]at r;subst r
  obtain⟨xs,hx,rx⟩:=a _ _ hl
  exact⟨l,xs,rfl,SqL.of hx,by rw[<-rx.length];exact hn,ds,δ,M,R,rx,hs,a,q,fin⟩
abbrev sgV(c:Nat):V:=.str ⟨#[c]⟩
theorem lu:∀(l:List Nat) (us:List G0),us.length=l.length->(∀(j:Nat) (v:G0),us[j]?=some v->∃(c:Nat) (u:Tok),l[j]?=some c/\v=Value.str ⟨#[c]⟩ u)->Vals (l.map sgV) us
 |[],[],_,_=>.nil
 |c::l,v::us,hl,h=>by
  obtain⟨c',u,e,hv⟩:=h 0 v rfl
  have:c=c':=by simpa using e
  subst this
  exact .cons ⟨u,hv⟩ (lu l us (by simpa using hl) fun j v hj=>h (j+1) v (by simpa using hj))
theorem tj(hc:X.calm=true):b5 X (.type "list") (fun xs H Q=>∃z,xs=[.str z]/\z.length<=10000/\∀p,H p=none->Q (.ref p) (upd H p (.lst (z.cps.toList.map sgV)))):=by
 intro pins s σ H xs us Q I rx z0;obtain⟨z,ex,hz,q⟩:=z0;subst ex;obtain⟨u,rfl,ru⟩:=vals1 rx;obtain⟨t,rfl⟩:=ru;have sz:1000000<=Gp:=nbL rfl;have hz':z.cps.size<=10000:=hz;refine call_list_str (I.ok.hd hc) z t (fun h' tk acc' c' hk hS hacc=>?_) (by omega);have rv:Vals (z.cps.toList.map sgV) acc'.toList:=lu _ _ (by rw[IQ,IQ];exact hacc.1) fun j v hj=>by obtain⟨c,u,e1,e2⟩:=hacc.2 j v (by rw[<-Array.getElem?_toList];exact hj);exact⟨c,u,by rw[Array.getElem?_toList];exact e1,e2⟩
 have I3:=I.laid (h':=h') (a:=s.heap.objs.size) (o:=.lst (z.cps.toList.map sgV)) (t':=tk) hk (G9 _) ⟨by rw[G7,IQ];omega,acc'.toList,c',rv,by rw[Array.toArray_toList];exact hS⟩;exact⟨.ref _,_,I3,rfl,q _ (I.hok.fresh (G9 _))⟩
def wF:RC:=fun ds M Q=>match ds with
 |[.str z]=>z.length<=10000/\∀p,M p=none->Q (.ref p) (au M p (.lst (z.cps.toList.map fun c=>D.str ⟨#[c]⟩)))
 |ds=>xY ds M Q
theorem xv(hc:X.calm=true):c7 X (.type "list") wF:=bJ ((tj hc).or ze) fun vs H Q z9=>by
 obtain⟨ds,M,R,rs,a,q,fin⟩:=z9;unfold wF at q;split at q
 ·obtain⟨v,rfl,r⟩:=b4 rs;rw[Rep]at r;subst r
  exact .inl ⟨_,rfl,q.1,fun p hp=>fin _ _ _ _ (.new hp) (by rw[Rep]) (a.jk hp (by
   have:∀l:List Nat,aJ X.K H (l.map fun c=>D.str ⟨#[c]⟩) (l.map sgV):=fun l=>by
    induction l with
    |nil=>exact .nil
    |cons c l ih=>exact .cons (by rw[Rep]) ih
   exact this _)) (q.2 p (a.fresh hp))⟩
 ·exact .inr ⟨_,M,R,rs,a,q,fin⟩
end
def CA:Expr->Option Str
 |.Constant (.str x) _ _=>some x
 |_=>none
def nz:List Expr->List Str
 |[]=>[]
 |e::es=>(CA e).getD Ih::nz es
def A9(ss:List Str):TAD:=fun δ M Q=>Q (ss.map D.str) M
theorem uL{X:Cx}:∀{es:List Expr},(es.all fun e=>(CA e).isSome)=true->DA X es (A9 (nz es))
 |[],_=>ae
 |e::es,h=>by
  rw[List.all_cons,GG]at h
  have ih:=uL (X:=X) h.2
  cases e with
  |Constant c j pos=>
   cases c with
   |str x=>exact aa aE ih rfl
   |_=>cases h.1
  |_=>cases h.1
theorem pE{X:Cx}{es:List Expr}{pos:Pos}(h:(es.all fun e=>(CA e).isSome)=true):DE X (.List es pos) (AZ (A9 (nz es))):=aS (uL h)
theorem xl(its:List G0):slicePick its.toArray none none (some (-1))=its.reverse.toArray:=by
 unfold slicePick sliceBounds sliceRange;simp only[Gz,Option.getD_some];rw[if_neg (show ¬(-1:Int)>0 by decide),if_neg (show ¬(-1:Int)>0 by decide),if_neg (show ¬(-1:Int)>0 by decide)]
 have e:(if(its.length:Int)-1 > -1 then((its.length:Int)-1 - -1 - -1-1) / - -1 else 0).toNat=its.length:=by
  split
  ·rw[show((its.length:Int)-1 - -1 - -1-1)=(its.length:Int) by omega,show(- -1:Int)=1 by rfl,Int.ediv_one];exact Int.toNat_natCast _
  ·show 0=its.length;omega
 rw[e,List.filterMap_map]
 congr 1
 have key:∀n,n<=its.length->(HD n).filterMap ((fun i=>its.toArray[i]?)∘fun k:Nat=>((its.length:Int)-1+-1*(k:Int)).toNat)=its.reverse.take n:=fun n=>by
  induction n with
  |zero=>intro _;rfl
  |succ n ih=>
   intro h
   rw[List.range_succ,List.filterMap_append,ih (by omega),List.take_succ,List.getElem?_reverse (by omega)]
   congr 1
   have h2:its.toArray[((its.length:Int)-1+-1*(n:Int)).toNat]?=some its[its.length-1-n]:=by rw[show((its.length:Int)-1+-1*(n:Int)).toNat=its.length-1-n by omega,List.getElem?_toArray,GQ (by omega)]
   rw[List.filterMap_cons_some (f:=(fun i=>its.toArray[i]?)∘fun k:Nat=>((its.length:Int)-1+-1*(k:Int)).toNat) (a:=n) (b:=its[its.length-1-n]) h2,List.filterMap_nil,GQ (by omega)]
   rfl
 rw[key its.length (G9 _),List.take_of_length_le (by rw[List.length_reverse];exact G9 _)]
section
variable{X:Cx}{e st:Expr}{pos p2:Pos}
def EM(K:cc)(te:TE)(ts:TO):TE:=fun σ H Q=>te σ H fun x H1=>ts σ H1 fun o H2=>o=some (-1)/\∃a xs,x=.ref a/\SqL K H2 a xs/\∀p,H2 p=none->Q (.ref p) (upd H2 p (.lst xs.reverse))
theorem Vals.rev:∀{xs:List V} {us:List G0},Vals xs us->Vals xs.reverse us.reverse
 |_,_,.nil=>.nil
 |_,_,.cons r q=>by
  rw[Jd,Jd]
  exact(Vals.rev q).append (.cons r .nil)
theorem zv{te:TE}{ts:TO}(he:PE X e te)(hs:PO X (some st) ts):PE X (.Subscript e (.Slice none none (some st) p2) pos) (EM X.K te ts):=by
 intro pins s σ H Q I h;refine Subscript_ (thn (he pins s σ H _ I h) fun v s1 zz1_0=>?_);obtain⟨x,H1,I1,r1,q1⟩:=zz1_0;refine wpAny_Slice ?_;rw[evalPart_none];refine Gw (Gw (thn (hs pins s1 σ H1 _ I1 q1) fun vs s3 zz2_0=>?_));obtain⟨o,H3,I3,ps,eo,a,xs,ex,hx,q3⟩:=zz2_0;subst eo ex;cases r1;obtain⟨tk,rfl⟩:∃tk,vs=Value.int (-1) tk:=by cases ps;exact⟨_,rfl⟩
 have I4:Inv X pins σ H3 { s3 with heap:=s3.heap.push { cls:=.type "slice",data:=.fields #[.none,.none,.int (-1) tk] } }:=I3.kept (t':=s3.toks) fun b ob q=>G4 _ q;obtain⟨its,r,ht,hz⟩:=I4.list hx;have hg:GA (GD X.prog X.w) X.A (getItem (.ref a) (.ref s3.heap.objs.size)) (EP X pins σ Q) X.xe { s3 with heap:=s3.heap.push { cls:=.type "slice",data:=.fields #[.none,.none,.int (-1) tk] } }:=by refine wpAny_getItem_list_slice ht.isList (Heap.IsSliceOf.new ..) .none .none (.int _ _) (by decide) ?_ (by rw[Gz];have:=r.length;omega);rw[xl];refine⟨.ref _,_,I4.laid (t':=s3.toks) (o:=.lst xs.reverse) (fun b ob q=>G4 _ q) (G9 _) ⟨by rw[List.length_reverse];exact hz,_,0,Vals.rev r,GB _ rfl⟩,rfl,q3 _ (I4.hok.fresh (G9 _))⟩
 show GA (GD X.prog X.w) X.A (subscriptTail e (.Slice none none (some st) p2) (.ref a) (.ref s3.heap.objs.size)) (EP X pins σ Q) X.xe { s3 with heap:=s3.heap.push { cls:=.type "slice",data:=.fields #[.none,.none,.int (-1) tk] } };exact tail_any (ops:=[.ref a,.ref s3.heap.objs.size]) ht.isList.typeIs slot_list_getitem.lookup hg (by with_unfolding_all rfl)
def FX(te:TD)(ts:TOD):TD:=fun δ M Q=>te δ M fun x M1=>ts δ M1 fun o M2=>o=some (-1)/\∃a ds,x=.ref a/\M2 a=some (.lst ds)/\∀p,M2 p=none->Q (.ref p) (au M2 p (.lst ds.reverse))
theorem Ah{te ts:TD}(he:DE X e te)(hs:DE X st ts):DE X (.Subscript e (.Slice none none (some st) p2) pos) (FX te (xn ts)):=
 bA (zv he (aZ hs)) fun σ H Q zz3_0=>by obtain⟨δ,M,R,hs,a,q,fin⟩:=zz3_0;exact(⟨δ,M,_,hs,a,q,fun x M1 v H1 g1 r1 a1 q1=>⟨δ,M1,_,hs.mono g1,a1,q1,fun o M2 H2 g2 a2 q2=>by
  obtain⟨eo,b,ds,ex,hb,q2⟩:=q2
  subst eo ex
  have r2:=r1.mono g2
  rw[Rep]at r2
  subst r2
  obtain⟨xs,hx,rs⟩:=a2 _ _ hb
  exact⟨rfl,_,xs,rfl,SqL.of hx,fun z hz=>fin _ _ _ _ ((g1.trans g2).trans (.new hz)) (by rw[Rep]) (a2.jk hz rs.rev) (q2 z (a2.fresh hz))⟩⟩⟩)
end
def N30(q:Rat):Prop:=q.num.natAbs<10^30/\q.den<10^30
def spq(s:Rat×Rat):D:=Ma.spt s.1 s.2
def flat:List (Rat×Rat)->List Rat
 |[]=>[]
 |s::r=>s.1::s.2::flat r
theorem qO:∀l:List (Rat×Rat),(flat l).length=2*l.length
 |[]=>rfl
 |s::r=>by show(flat r).length+1+1=_;rw[qO r,GP];omega
theorem D9:(G1 "ask").cps.toList=[97,115,107]:=by decide +kernel
theorem C8:G1 "ask"≠G1 "wall":=by decide +kernel
theorem u6{M M':MH}(s:SD.Sub M M'){v:D}{ds:List D}(h:yf M v ds):yf M' v ds:=by
 cases v with
 |ref a=>exact s _ _ h
 |tup _=>exact h
 |rol _=>exact h
 |_=>exact h.elim
def fZ(q:Rat):Jj:=.tuple [.int q.num,.int (q.den:Int)]
theorem qK:∀(l:List (Rat×Rat)) (j:Nat),(flat l)[2*j]?=(l[j]?).map (·.1)/\(flat l)[2*j+1]?=(l[j]?).map (·.2)
 |[],j=>by simp[flat]
 |s::l,0=>⟨rfl,rfl⟩
 |s::l,j+1=>by
  have ih:=qK l j
  rw[show 2*(j+1)=2*j+1+1 by omega,show 2*j+1+1+1=(2*j+1)+1+1 by omega]
  exact ih
theorem zx{n c:Nat}(hn:0<n)(h:48<=c/\c<=57):dgs n++[c]=dgs (10*n+(c-48)):=by rw[iW (n:=10*n+(c-48)) (by omega),show(10*n+(c-48))/10=n by omega,show(10*n+(c-48))%10=c-48 by omega,c8 (n:=c-48) (by omega),show 48+(c-48)=c by omega]
theorem qc:∀(r:List Nat) (n:Nat),0<n->(∀c∈r,48<=c/\c<=57)->∃m,dgs n++r=dgs m
 |[],n,_,_=>⟨n,by simp⟩
 |c::r,n,hn,h=>by
  have hc:=h c (by simp)
  obtain⟨m,e⟩:=qc r (10*n+(c-48)) (by omega) (fun c hc=>h c (by simp[hc]))
  refine⟨m,?_⟩
  rw[<-e,<-zx hn hc];simp
theorem AU{l:List Nat}(h0:l≠[])(h:∀c∈l,48<=c/\c<=57)(hz:l=[48]\/l[0]?≠some 48):∃n,l=dgs n:=by
 rcases hz with rfl|hz
 ·exact⟨0,(c8 (n:=0) (by decide)).symm⟩
 cases l with
 |nil=>exact absurd rfl h0
 |cons c r=>
  have hc:=h c (by simp)
  have c0:c≠48:=fun z=>hz (by simp[z])
  obtain⟨m,e⟩:=qc r (c-48) (by omega) (fun c hc=>h c (by simp[hc]))
  refine⟨m,?_⟩
  rw[<-e,c8 (by omega),show 48+(c-48)=c by omega];rfl
theorem xF:∀(k n:Nat),(dgs n).length<=k->n<10^k
 |0,n,h=>by
  have:=jD n
  cases e:dgs n with
  |nil=>exact absurd e this
  |cons _ _=>rw[e]at h;simp at h
 |k+1,n,h=>by
  by_cases hn:n<10
  ·have:1<=10^k:=Nat.one_le_pow _ _ (by decide)
   rw[Nat.pow_succ];omega
  ·rw[iW hn,HM,c8 (n:=n%10) (by omega)]at h
   have:=xF k (n/10) (by simpa using h)
   rw[Nat.pow_succ];omega
def Wh(z:Str)(n:Nat):Prop:=z.cps.toList=dgs n/\n<10^30
theorem Wh.len{z:Str}{n:Nat}(h:Wh z n):z.length<=30:=by rw[bg,h.1];exact kq 29 n h.2
theorem Wh.pos{z:Str}{n:Nat}(h:Wh z n):1<=z.length:=by
 rw[bg,h.1];cases e:dgs n with
 |nil=>exact absurd e (jD n)
 |cons _ _=>simp
theorem Wh.dig{z:Str}{n c:Nat}(h:Wh z n)(hc:c∈z.cps.toList):48<=c/\c<=57:=dN (n:=n) (by rw[<-h.1];exact hc)
theorem Wh.head{z:Str}{n:Nat}(h:Wh z n)(h0:z.cps.toList[0]?=some 48):z=⟨#[48]⟩:=by
 rw[h.1]at h0;cases ed:dgs n with
 |nil=>exact absurd ed (jD n)
 |cons c r=>
  rw[ed]at h0
  have:c=48:=by simpa using h0
  subst this
  have n0:=qE n r ed
  subst n0
  exact bC (by rw[h.1,c8 (by decide)])
theorem tF{z:Str}(l1:1<=z.length)(l2:z.length<=30)(hd:∀c∈z.cps.toList,48<=c/\c<=57)(h0:z.cps.toList[0]?=some 48->z=⟨#[48]⟩):∃n,Wh z n:=by
 obtain⟨n,e⟩:=AU (l:=z.cps.toList) (fun e=>by rw[bg,e]at l1;simp at l1) hd (by
  by_cases q:z.cps.toList[0]?=some 48
  ·exact .inl (by rw[h0 q])
  ·exact .inr q)
 exact⟨n,e,xF 30 n (by rw[<-e,<-bg];exact l2)⟩
theorem Wh.read{z:Str}{n:Nat}(h:Wh z n):PySem.intText? z=some (n:Int):=p9 h.1 (by have:=h.len;omega)
theorem Wh.one{z:Str}{n m:Nat}(h:Wh z n)(h':Wh z m):n=m:=by have:=h.read.symm.trans h'.read;have:=Option.some.inj this;omega
theorem di{n m:Nat}(hn:n<10^30)(hm:m<10^30)(h:dgs n=dgs m):n=m:=Wh.one (z:=Str.mk (dgs n).toArray) ⟨by simp,hn⟩ ⟨by simp[h],hm⟩
theorem pI{a b:Int}(ha:a.natAbs<10^30)(hb:b.natAbs<10^30)(h:iT a=iT b):a=b:=by
 have no:∀{n:Nat} {r:List Nat},dgs n≠45::r:=fun{n r} e=>by
  have:=dN (show 45∈dgs n by rw[e];simp)
  omega
 obtain⟨n,⟨e1,e2⟩|⟨e1,n0,e2⟩⟩:=df a<;>obtain⟨m,⟨f1,f2⟩|⟨f1,m0,f2⟩⟩:=df b<;>rw[h,f2]at e2
 ·have:=di (by omega) (by omega) e2;omega
 ·exact absurd e2.symm no
 ·exact absurd e2 no
 ·have:=di (by omega) (by omega) (List.cons.inj e2).2;omega
theorem lZ{c:Nat}:∀{l:List Nat},c∈l->∃a b,l=a++c::b/\c∉a
 |x::l,h=>by
  by_cases e:x=c
  ·exact⟨[],l,by rw[e];rfl,by simp⟩
  ·obtain⟨a,b,e1,e2⟩:=lZ (l:=l) (by rcases GO.mp h with q|q;exact absurd q.symm e;exact q)
   exact⟨x::a,b,by rw[e1];rfl,by simp[e2,Ne.symm e]⟩
theorem qT(a:Int):47∉(iT a).cps.toList:=fun h=>by have:=ka h;omega
theorem d9{q:Rat}(h:(q.den:Int)=1):sQ q=iT q.num:=by show sF q.num (q.den:Int)=_;unfold sF;rw[if_pos h]
theorem iK{q:Rat}(h:¬(q.den:Int)=1):sQ q=iT q.num++⟨#[47]⟩++iT (q.den:Int):=by show sF q.num (q.den:Int)=_;unfold sF;rw[if_neg h]
theorem xS{q:Rat}(h:47∉(sQ q).cps.toList):(q.den:Int)=1:=by
 by_cases z:(q.den:Int)=1
 ·exact z
 ·rw[iK z,bO,bO]at h;exact absurd (by simp) h
theorem lF{q:Rat}{a b:List Nat}(h:(sQ q).cps.toList=a++47::b)(ha:47∉a):¬(q.den:Int)=1/\a=(iT q.num).cps.toList/\b=(iT (q.den:Int)).cps.toList:=by
 by_cases z:(q.den:Int)=1
 ·rw[d9 z]at h;exact absurd (show 47∈(iT q.num).cps.toList by rw[h];simp) (qT _)
 ·rw[iK z,bO,bO,List.append_assoc]at h;have:=oA ha (qT _) h.symm;exact⟨z,this.1,this.2⟩
theorem cy{x y:Str}(h:x.cps.all (· < 128)=true)(s:∀c∈y.cps.toList,c∈x.cps.toList):y.cps.all (· < 128)=true:=by rw[Ip]at h ⊢;intro c hc;exact h c (by have:=s c (by simpa using hc);simpa using this)
abbrev RW:=Rat×Rat×Rat×Rat
def wq(U:RW):D:=Ma.wll U.1 U.2.1 U.2.2.1 U.2.2.2
def OwQ(U:RW):Prop:=Ma.ah U.1 U.2.1 U.2.2.1 U.2.2.2
structure NQ(n:Nat)(U:RW):Prop where
 a:Ma.Bq n U.1
 b:Ma.Bq n U.2.1
 c:Ma.Bq n U.2.2.1
 d:Ma.Bq n U.2.2.2
def oz(U:RW)(x y:Rat):Bool:=decide (U.1=x/\U.2.1=y)||decide (U.2.2.1=x/\U.2.2.2=y)
def crQ(U:RW)(x y:Rat):Rat:=Ma.cr U.1 U.2.1 U.2.2.1 U.2.2.2 x y
def inQ(U:RW)(x y:Rat):Bool:=!oz U x y&&(!decide (Ma.ah x y U.1 U.2.1)&&!decide (Ma.ah U.2.2.1 U.2.2.2 x y)&&decide (Ma.sgn (crQ U x y)=0))
def eqQ(U V:RW):Bool:=decide (U.1=V.1/\U.2.1=V.2.1/\U.2.2.1=V.2.2.1/\U.2.2.2=V.2.2.2)
def cw(U V:RW):Bool:=!(eqQ U V)&&!(inQ U V.1 V.2.1)&&!(inQ U V.2.2.1 V.2.2.2)&&!(inQ V U.1 U.2.1)&&!(inQ V U.2.2.1 U.2.2.2) &&
 (decide (0<=Ma.sgn (crQ U V.1 V.2.1)*Ma.sgn (crQ U V.2.2.1 V.2.2.2))||decide (0<=Ma.sgn (crQ V U.1 U.2.1)*Ma.sgn (crQ V U.2.2.1 U.2.2.2)))
def uq(b:Int)(w:Wl):RW:=(Ma.ut 1 b 0 1 w.1,Ma.ut 1 b 0 1 w.2.1,Ma.ut 1 b 0 1 w.2.2.1,Ma.ut 1 b 0 1 w.2.2.2)
theorem rS(b x:Int):Ma.ut 1 b 0 1 x=Rat.divInt x b:=by unfold Ma.ut;simp
theorem common:∀l:List Rat,∃b:Int,0<b/\∀q∈l,∃x:Int,q=Ma.ut 1 b 0 1 x
 |[]=>⟨1,by decide,fun q h=>nomatch h⟩
 |q::l=>by
  obtain⟨b,hb,h⟩:=common l
  have hq:(0:Int)<(q.den:Int):=by have:=q.den_pos;omega
  refine⟨(q.den:Int)*b,HX hq hb,fun r hr=>?_⟩
  rcases GO.mp hr with rfl|hr
  ·refine⟨r.num*b,?_⟩
   rw[rS,Rat.divInt_mul_right (by omega),Ho]
  ·obtain⟨x,hx⟩:=h r hr
   refine⟨(q.den:Int)*x,?_⟩
   rw[hx,rS,rS,Rat.divInt_mul_left (by omega)]
theorem z6(U V:RW):∃(b:Int) (u v:Wl),0<b/\U=uq b u/\V=uq b v:=by
 obtain⟨b,hb,h⟩:=common [U.1,U.2.1,U.2.2.1,U.2.2.2,V.1,V.2.1,V.2.2.1,V.2.2.2];obtain⟨x1,e1⟩:=h U.1 (by simp);obtain⟨x2,e2⟩:=h U.2.1 (by simp);obtain⟨x3,e3⟩:=h U.2.2.1 (by simp);obtain⟨x4,e4⟩:=h U.2.2.2 (by simp);obtain⟨y1,f1⟩:=h V.1 (by simp);obtain⟨y2,f2⟩:=h V.2.1 (by simp);obtain⟨y3,f3⟩:=h V.2.2.1 (by simp);obtain⟨y4,f4⟩:=h V.2.2.2 (by simp);refine⟨b,(x1,x2,x3,x4),(y1,y2,y3,y4),hb,?_,?_⟩
 ·show(U.1,U.2.1,U.2.2.1,U.2.2.2)=_;unfold uq;rw[<-e1,<-e2,<-e3,<-e4]
 ·show(V.1,V.2.1,V.2.2.1,V.2.2.2)=_;unfold uq;rw[<-f1,<-f2,<-f3,<-f4]
section
variable{b:Int}(hb:0<b)
include hb
theorem oJ{x y:Int}:Ma.ut 1 b 0 1 x=Ma.ut 1 b 0 1 y↔x=y:=by rw[Ma.xG (by decide) hb (by decide) (by decide)];omega
theorem BH{x y u v:Int}:Ma.ah (Ma.ut 1 b 0 1 x) (Ma.ut 1 b 0 1 y) (Ma.ut 1 b 0 1 u) (Ma.ut 1 b 0 1 v)↔HT.lexLt [x,y] [u,v]=true:=by unfold Ma.ah;rw[Ma.nK (by decide) hb (by decide) (by decide),Ma.nK (by decide) hb (by decide) (by decide),oJ hb,Ma.a9];omega
theorem Eo(w:Wl):OwQ (uq b w)↔Ow w:=by unfold OwQ uq Ow;rw[BH hb,Ma.a9]
theorem Ap(w:Wl)(x y:Int):inQ (uq b w) (Ma.ut 1 b 0 1 x) (Ma.ut 1 b 0 1 y)=inB w x y:=by
 unfold inQ inB oz AB onB crQ uq;dsimp only;have e1:decide (Ma.ut 1 b 0 1 w.1=Ma.ut 1 b 0 1 x/\Ma.ut 1 b 0 1 w.2.1=Ma.ut 1 b 0 1 y)=decide (w.1=x/\w.2.1=y):=decide_eq_decide.mpr (and_congr (oJ hb) (oJ hb));have e2:decide (Ma.ut 1 b 0 1 w.2.2.1=Ma.ut 1 b 0 1 x/\Ma.ut 1 b 0 1 w.2.2.2=Ma.ut 1 b 0 1 y)=decide (w.2.2.1=x/\w.2.2.2=y):=decide_eq_decide.mpr (and_congr (oJ hb) (oJ hb));have e3:decide (Ma.ah (Ma.ut 1 b 0 1 x) (Ma.ut 1 b 0 1 y) (Ma.ut 1 b 0 1 w.1) (Ma.ut 1 b 0 1 w.2.1))=HT.lexLt [x,y] [w.1,w.2.1]:=by rw[GU,decide_eq_true_iff];exact BH hb
 have e4:decide (Ma.ah (Ma.ut 1 b 0 1 w.2.2.1) (Ma.ut 1 b 0 1 w.2.2.2) (Ma.ut 1 b 0 1 x) (Ma.ut 1 b 0 1 y))=HT.lexLt [w.2.2.1,w.2.2.2] [x,y]:=by rw[GU,decide_eq_true_iff];exact BH hb
 have e5:decide (GW (sd w x y)=0)=decide (sd w x y=0):=decide_eq_decide.mpr Int.sign_eq_zero_iff_zero;rw[e1,e2,e3,e4,kS (by decide) hb,e5,Ma.dS,Ma.dS]
theorem wI(u v:Wl):cw (uq b u) (uq b v)=fX u v:=by
 unfold cw fX;have e:eqQ (uq b u) (uq b v)=eqB u v:=by unfold eqQ eqB uq;dsimp only;rw[decide_eq_decide,oJ hb,oJ hb,oJ hb,oJ hb]
 rw[e];show(!(eqB u v)&&!(inQ (uq b u) (Ma.ut 1 b 0 1 v.1) (Ma.ut 1 b 0 1 v.2.1))&&!(inQ (uq b u) (Ma.ut 1 b 0 1 v.2.2.1) (Ma.ut 1 b 0 1 v.2.2.2))&&!(inQ (uq b v) (Ma.ut 1 b 0 1 u.1) (Ma.ut 1 b 0 1 u.2.1))&&!(inQ (uq b v) (Ma.ut 1 b 0 1 u.2.2.1) (Ma.ut 1 b 0 1 u.2.2.2))&&_)=_;rw[Ap hb,Ap hb,Ap hb,Ap hb];unfold crQ uq;dsimp only;rw[kS (by decide) hb,kS (by decide) hb,kS (by decide) hb,kS (by decide) hb];rfl
end
inductive MeetsQ(U V:RW):D->Prop
 |non (h:cw U V=true):MeetsQ U V .non
 |str {d:D} (h:cw U V=false):MeetsQ U V (.tup [.str "stretch",d])
 |spot {x y:Rat} (h:cw U V=(oz U x y&&oz V x y)):MeetsQ U V (.tup [.str "spot",Ma.spt x y])
def mtQ(U V:RW):D:=lh U.1 U.2.1 U.2.2.1 U.2.2.2 V.1 V.2.1 V.2.2.1 V.2.2.2
theorem C3{U V:RW}(hU:OwQ U)(hV:OwQ V):MeetsQ U V (mtQ U V):=by
 obtain⟨b,u,v,hb,rfl,rfl⟩:=z6 U V;have m:=meets (t:=1) (X:=0) (Y:=0) (by decide) hb ((Eo hb u).mp hU) ((Eo hb v).mp hV);have e:mtD 1 b 0 0 u v=mtQ (uq b u) (uq b v):=rfl;rw[e]at m;generalize mtQ (uq b u) (uq b v)=d at m;cases m with
 |non h=>exact .non (by rw[wI hb];exact h)
 |str h=>exact .str (by rw[wI hb];exact h)
 |spot h=>exact .spot (by rw[wI hb];exact h)
def fcQ(W:RW)(us:List RW):Option Nat:=us.findIdx? fun U=>!cw W U
theorem x9{W U:RW}{us:List RW}{i:Nat}(e:us[i]?=some U)(h:cw W U=false)(k:∀j U',j<i->us[j]?=some U'->cw W U'=true):fcQ W us=some i:=by obtain⟨hi,e⟩:=GN.mp e;unfold fcQ;rw[List.findIdx?_eq_some_iff_getElem];exact⟨hi,by rw[e,h];rfl,fun j hj=>by rw[k j us[j] hj (GQ (by omega))];decide⟩
theorem yA{W:RW}{us:List RW}(k:∀(j:Nat) U',us[j]?=some U'->cw W U'=true):fcQ W us=none:=by unfold fcQ;rw[List.findIdx?_eq_none_iff];intro U hU;obtain⟨j,hj,e⟩:=List.getElem_of_mem hU;rw[k j U (by rw[GQ hj,e])];rfl
theorem um{U:RW}{x y:Rat}(M:MH)(Q:DK)(q:Q (.bl (oz U x y)) M):vS (fun b=>b) (Ma.spt x y) (wq U) M Q:=by refine⟨_,_,Pd.of rfl,.inr (Pd.of rfl),rfl,rfl,?_⟩;rw[Iz,Iz,List.any_nil,Ma.gX,Ma.gX,Bool.or_false];exact q
theorem lB{q r:Rat}(hq:N30 q)(hr:N30 r)(h:sQ q=sQ r):q=r:=by
 by_cases e:47∈(sQ q).cps.toList
 ·obtain⟨a,b,ez,ha⟩:=lZ e;obtain⟨_,p1,p2⟩:=lF ez ha;rw[h]at ez;obtain⟨_,q1,q2⟩:=lF ez ha;have n:=pI hq.1 hr.1 (bC (p1.symm.trans q1));rw[p2,dh,dh]at q2;exact Rat.ext n (di hq.2 hr.2 q2)
 ·have d1:=xS e;rw[h]at e;have d2:=xS e;rw[d9 d1,d9 d2]at h;exact Rat.ext (pI hq.1 hr.1 h) (by omega)
open Classical in
noncomputable def rdq(z:Str):Option Rat:=if h:∃q,N30 q/\z=sQ q then some h.choose else none
theorem gB{z:Str}{q:Rat}(h:rdq z=some q):N30 q/\z=sQ q:=by
 unfold rdq at h;split at h
 ·rename_i e;have:=e.choose_spec;rw[Option.some.inj h]at this;exact this
 ·cases h
theorem jm{z:Str}(h:∀q,N30 q->z≠sQ q):rdq z=none:=by
 cases e:rdq z with
 |none=>rfl
 |some q=>exact absurd (gB e).2 (h q (gB e).1)
theorem iw{z:Str}{q:Rat}(hq:N30 q)(h:z=sQ q):rdq z=some q:=by unfold rdq;rw[dif_pos ⟨q,hq,h⟩];have:=(⟨q,hq,h⟩:∃q,N30 q/\z=sQ q).choose_spec;exact congrArg some (lB hq this.1 (h.symm.trans this.2)).symm
def opF:Option Rat->D
 |some q=>Ma.fr q
 |none=>.non
structure N4(U:RW):Prop where
 a:N30 U.1
 b:N30 U.2.1
 c:N30 U.2.2.1
 d:N30 U.2.2.2
abbrev vZ(U:RW):Str:=DH [U.1,U.2.1,U.2.2.1,U.2.2.2]
theorem jn(U:RW):Hf (vZ U) ⟨#[32]⟩=G1 "wall"::[sQ U.1,sQ U.2.1,sQ U.2.2.1,sQ U.2.2.2]:=fF 32 _ (by simp) (fun t ht=>by
 rcases GO.mp ht with rfl|ht
 ·rw[oR];decide
 ·obtain⟨q,_,rfl⟩:=Ig.mp ht;intro z;have:=iM z;omega)
open Classical in
noncomputable def rdr(z:Str):Option RW:=if h:∃U,N4 U/\z=vZ U then some h.choose else none
theorem lP{z:Str}{U:RW}(h:rdr z=some U):N4 U/\z=vZ U:=by
 unfold rdr at h;split at h
 ·rename_i e;have:=e.choose_spec;rw[Option.some.inj h]at this;exact this
 ·cases h
theorem Dj{z:Str}{U:RW}(hU:N4 U)(h:z=vZ U):rdr z=some U:=by unfold rdr;rw[dif_pos ⟨U,hU,h⟩];have hc:=(⟨U,hU,h⟩:∃U,N4 U/\z=vZ U).choose_spec;generalize (⟨U,hU,h⟩:∃U,N4 U/\z=vZ U).choose=V at hc;have e:=jn U;rw[<-h,hc.2,jn V]at e;obtain⟨e1,e⟩:=List.cons.inj (List.cons.inj e).2;obtain⟨e2,e⟩:=List.cons.inj e;obtain⟨e3,e⟩:=List.cons.inj e;obtain⟨e4,_⟩:=List.cons.inj e;have a:=lB hc.1.a hU.a e1;have b:=lB hc.1.b hU.b e2;have c:=lB hc.1.c hU.c e3;have d:=lB hc.1.d hU.d e4;obtain⟨_,_,_,_⟩:=U;obtain⟨_,_,_,_⟩:=V;simp only at a b c d;subst a b c d;rfl
theorem gW{z:Str}{w:Str}{ws:List Str}(e:Hf z ⟨#[32]⟩=w::ws)(U:RW):rdr z=some U↔w=G1 "wall"/\ws.map rdq=[some U.1,some U.2.1,some U.2.2.1,some U.2.2.2]:=by
 constructor
 ·intro h;obtain⟨hU,hz⟩:=lP h;rw[hz,jn]at e;obtain⟨e1,e2⟩:=List.cons.inj e;refine⟨e1.symm,?_⟩;rw[<-e2,GH,GH,GH,GH,List.map_nil,iw hU.a rfl,iw hU.b rfl,iw hU.c rfl,iw hU.d rfl]
 ·rintro⟨rfl,h⟩;have hl:ws.length=4:=by have:=congrArg List.length h;simpa using this
  match ws,hl with
  |[x1,x2,x3,x4],_=>
   obtain⟨h1,h⟩:=List.cons.inj h
   obtain⟨h2,h⟩:=List.cons.inj h
   obtain⟨h3,h⟩:=List.cons.inj h
   obtain⟨h4,_⟩:=List.cons.inj h
   have h1:=gB h1
   have h2:=gB h2
   have h3:=gB h3
   have h4:=gB h4
   refine Dj ⟨h1.1,h2.1,h3.1,h4.1⟩ ?_
   rw[<-J4 z ⟨#[32]⟩,e,h1.2,h2.2,h3.2,h4.2]
   rfl
theorem lA(c:Nat):∀ts:List Str,ts≠[]->ts.length<=(Hg ⟨#[c]⟩ ts).length+1/\∀t∈ts,t.length<=(Hg ⟨#[c]⟩ ts).length/\∀x∈t.cps.toList,x∈(Hg ⟨#[c]⟩ ts).cps.toList
 |[],h=>absurd rfl h
 |[t],_=>⟨by simp,fun u hu=>by rw[GX.mp hu];exact⟨G9 _,fun x hx=>hx⟩⟩
 |t::u::ts,_=>by
  obtain⟨h1,h2⟩:=lA c (u::ts) (by simp)
  have e:=join_cons c t u ts
  have l:(Hg ⟨#[c]⟩ (t::u::ts)).length=t.length+(1+(Hg ⟨#[c]⟩ (u::ts)).length):=by rw[bg,e,HM,GP,<-bg,<-bg];omega
  refine⟨by rw[l];simp at h1 ⊢;omega,fun v hv=>?_⟩
  rcases GO.mp hv with rfl|hv
  ·exact⟨by omega,fun x hx=>by rw[e];exact List.mem_append_left _ hx⟩
  ·obtain⟨a,b⟩:=h2 v hv
   exact⟨by omega,fun x hx=>by rw[e];exact Hn _ (Gr _ (b x hx))⟩
theorem cZ(z:Str)(c:Nat):Hf z ⟨#[c]⟩≠[]:=fun e=>by have:=PyProof.Rows.split_pos z ⟨#[c]⟩;rw[e]at this;exact absurd this (by decide)
theorem cT(c:Nat)(z:Str):(Hf z ⟨#[c]⟩).length<=z.length+1/\∀t∈Hf z ⟨#[c]⟩,t.length<=z.length/\∀x∈t.cps.toList,x∈z.cps.toList:=by have:=lA c _ (cZ z c);rw[J4 z ⟨#[c]⟩]at this;exact this
theorem N4.nq{U:RW}(h:N4 U):NQ 100 U:=by have k:∀{q:Rat},N30 q->Ma.Bq 100 q:=fun{q} h=>⟨G6 h.1 (by decide),G6 (show((q.den:Int)).natAbs<10^30 by simpa using h.2) (by decide)⟩;exact⟨k h.a,k h.b,k h.c,k h.d⟩
def BF:Option Rat->Jj
 |some q=>fZ q
 |none=>.none
theorem iX{M:MH}:∀l:List (Option Rat),Pds M (l.map opF) (l.map BF)
 |[]=>.nil
 |some q::l=>.cons (Pd.of rfl) (iX l)
 |none::l=>.cons .non (iX l)
theorem iN:∀l:List (Option Rat),Hi (l.map BF)=true
 |[]=>rfl
 |some q::l=>by
  rw[GH,Hi,iN l];rfl
 |none::l=>by
  rw[GH,Hi,iN l];rfl
theorem iL:∀l:List (Option Rat),((l.map BF).any fun q=>Hc q .none)=l.any (fun o=>o.isNone)
 |[]=>rfl
 |some q::l=>by rw[GH,Iz,Iz,iL l];rfl
 |none::l=>by rw[GH,Iz,Iz,iL l];rfl
open Classical in
noncomputable def rdw(us:List RW)(z:Str):Option RW:=(rdr z).bind fun W=>if OwQ W/\us.length≠40/\fcQ W us=none then some W else none
theorem ou{us:List RW}{z:Str}(h:rdr z=none):rdw us z=none:=by unfold rdw;rw[h];rfl
theorem tx{us:List RW}{z:Str}{W:RW}(h:rdr z=some W)(c:OwQ W/\us.length≠40/\fcQ W us=none):rdw us z=some W:=by unfold rdw;rw[h,Ha,if_pos c]
theorem pf{us:List RW}{z:Str}{W:RW}(h:rdr z=some W)(c:¬(OwQ W/\us.length≠40/\fcQ W us=none)):rdw us z=none:=by unfold rdw;rw[h,Ha,if_neg c]
theorem Dy{us:List RW}{z:Str}{W:RW}(h:rdw us z=some W):rdr z=some W/\OwQ W/\us.length≠40/\fcQ W us=none:=by
 unfold rdw at h;cases e:rdr z with
 |none=>rw[e]at h;cases h
 |some V=>
  rw[e,Ha]at h
  split at h
  ·rename_i c;cases h;exact⟨rfl,c⟩
  ·cases h
def opW:Option RW->D
 |some W=>wq W
 |none=>.non
open Classical in
noncomputable def bT(z:Str):List Str:=if z=Ih then[]else Hf z ⟨#[10]⟩
theorem cU(z:Str):(bT z).length<=z.length+1/\∀t∈bT z,t.length<=z.length/\∀x∈t.cps.toList,x∈z.cps.toList:=by
 unfold bT;split
 ·exact⟨by simp,fun t h=>nomatch h⟩
 ·exact cT 10 z
def mz(z:Str):Jj:=.str z
theorem kg{M:MH}:∀l:List Str,Pds M (l.map D.str) (l.map mz)
 |[]=>.nil
 |z::l=>.cons (.str z) (kg l)
theorem rJ{z:Str}(h:z.cps.all (· < 128)=true):Iy z=true:=by unfold Iy;rw[Ip]at h ⊢;intro c hc;have:=of_decide_eq_true (h c hc);exact decide_eq_true (by omega)
theorem uF:∀{l:List Str},(∀z∈l,Iy z=true)->Hi (l.map mz)=true
 |[],_=>rfl
 |z::l,h=>by
  rw[GH,Hi,uF (fun x hx=>h x (Gr _ hx)),Bool.and_true]
  show IF (.str z)=true
  rw[IF]
  exact h z GR
theorem t6:∀l:List Str,HK (l.map mz)<=10
 |[]=>nbL rfl
 |z::l=>by
  rw[GH,HK]
  exact Nat.max_le.mpr ⟨nbL rfl,t6 l⟩
theorem ip{l:List Str}(h:∀z∈l,Iy z=true):Ia (.list (l.map mz))=true:=by have a:=uF h;have b:=t6 l;simp[Ia,IF,PyData.depth,a];omega
theorem As(l:List Str):Hc (.list (l.map mz)) (.list [])=decide (l=[]):=by
 cases l with
 |nil=>rfl
 |cons z l=>rfl
theorem ne_nil{l:List Str}{a c:Addr}{M:MH}{Q:DK}(ha:M a=some (.lst (l.map D.str)))(hc:M c=some (.lst []))(h:∀z∈l,Iy z=true)(q:Q (.bl (!decide (l=[]))) M):rD (.ref a) (.ref c) M Q:=by refine⟨_,_,.lst ha (kg l),.lst hc .nil,ip h,rfl,?_⟩;rw[As];exact q
theorem si{x:Str}{c:Nat}{r:List Nat}(h:x.cps.toList=c::r):Ii x none (some 1)=⟨#[c]⟩:=by
 have hl:x.length=r.length+1:=by rw[bg,h];rfl
 have e:strSliceIndices none (some 1) 1 x.length=strSliceIndices (some ((0:Nat):Int)) (some ((1:Nat):Int)) 1 x.length:=by
  unfold strSliceIndices
  have h1:¬((x.length:Int)<0):=by omega
  have h2:max (0:Int) (min 0 (x.length:Int))=0:=by omega
  simp[h1,h2]
 have p:=StrLaws.sliced_plain x (a:=0) (b:=1) (by omega) (by omega);rw[<-e]at p;have l:(strSliceIndices none (some 1) 1 x.length).length=1:=by rw[e,StrLaws.strSliceIndices_plain (by omega) (by omega)];simp
 unfold Ii;by_cases h1:x.length=1
 ·rw[if_pos (by rw[l,h1];rfl)];apply bC;rw[h];have:r=[]:=by cases r with|nil=>rfl|cons _ _=>simp at hl;omega
  rw[this]
 ·rw[if_neg (by rw[l];simp;omega),p];apply bC;rw[h];simp
theorem nJ{x:Str}{lo hi:Option Int}:∀c∈(Ii x lo hi).cps.toList,c∈x.cps.toList:=fun c hc=>by
 unfold Ii at hc;split at hc
 ·exact hc
 ·have hc:c∈(strSliceIndices lo hi 1 x.length).filterMap (x.cps[·]?):=by simpa using hc
  obtain⟨i,_,e⟩:=IZ.mp hc;have:=Array.mem_of_getElem? e;simpa using this
theorem Au{a:Int}(h:a.natAbs<10^30):PySem.intText? (iT a)=some a:=by
 have hl:=gI (k:=29) h;obtain⟨n,⟨e1,e2⟩|⟨e1,n0,e2⟩⟩:=df a
 ·rw[p9 e2 (by omega),e1]
 ·have:=PySem.intText_neg e2 (fun c hc=>dN hc) (jD n) (by omega);rw[this,e1,show PySem.NumText.digitsVal (dgs n)=n from PySem.W.KIN.val_back n]
theorem dC{q:Rat}(h:(q.den:Int)=1):Hf (sQ q) ⟨#[47]⟩=[iT q.num]:=by rw[d9 h];exact fF 47 [iT q.num] (by simp) (fun t ht=>by rw[GX.mp ht];exact qT _)
theorem d6{q:Rat}(h:¬(q.den:Int)=1):Hf (sQ q) ⟨#[47]⟩=[iT q.num,iT (q.den:Int)]:=by
 rw[iK h];refine(show Hf (Hg ⟨#[47]⟩ [iT q.num,iT (q.den:Int)]) ⟨#[47]⟩=_ from fF 47 _ (by simp) (fun t ht=>?_));rcases GO.mp ht with rfl|ht
 ·exact qT _
 ·rw[GX.mp ht];exact qT _
structure Top(t tp:Str):Prop where
 neg:t.cps.toList[0]?=some 45->t.cps.toList=45::tp.cps.toList
 pos:t.cps.toList[0]?≠some 45->tp=t
theorem Top.E1{a:Int}{tp:Str}(h:Top (iT a) tp)(ha:a.natAbs<10^30):Wh tp a.natAbs:=by
 obtain⟨n,⟨e1,e2⟩|⟨e1,n0,e2⟩⟩:=df a
 ·have:tp=iT a:=h.pos (by rw[e2];intro z;have:=dN (GL z);omega);rw[this];exact⟨by rw[e2,show a.natAbs=n by omega],ha⟩
 ·have:=h.neg (by rw[e2];rfl);rw[e2]at this;exact⟨by rw[<-(List.cons.inj this).2,show a.natAbs=n by omega],ha⟩
theorem Top.iT{t tp:Str}{n:Nat}(h:Top t tp)(hn:Wh tp n)(h0:t≠G1 "-0"):∃a:Int,t=iT a/\a.natAbs=n:=by
 by_cases e:t.cps.toList[0]?=some 45
 ·have e1:=h.neg e;rw[hn.1]at e1;have n0:n≠0:=fun z=>by subst z;refine h0 (bC ?_);rw[e1,c8 (by decide)];decide +kernel
  obtain⟨j,rfl⟩:∃j,n=j+1:=⟨n-1,by omega⟩;exact⟨-((j+1:Nat):Int),bC (by rw[e1,rn]),by omega⟩
 ·have e1:=h.pos e;subst e1;exact⟨(n:Int),bC (by rw[hn.1,dh]),by omega⟩
theorem CH(a:Int):iT a≠G1 "-0":=fun e=>by
 have e':=congrArg (fun x:Str=>x.cps.toList) e;have z:(G1 "-0").cps.toList=[45,48]:=by decide +kernel
 simp only[z]at e';obtain⟨n,⟨e1,e2⟩|⟨e1,n0,e2⟩⟩:=df a
 ·rw[e2]at e';have:=dN (show 45∈dgs n by rw[e'];simp);omega
 ·rw[e2]at e';have:=qE n [] (List.cons.inj e').2;omega
theorem dk{m:Nat}:Wh (G1 "1") m↔m=1:=by have a:Wh (G1 "1") 1:=⟨by rw[c8 (by decide)];decide +kernel,by decide⟩;exact⟨fun h=>h.one a,fun h=>by rw[h];exact a⟩
theorem k7{a:Int}{n m:Nat}(ha:a.natAbs=n):((Rat.divInt (n:Int) (m:Int)).num=n/\((Rat.divInt (n:Int) (m:Int)).den:Int)=m)↔((Rat.divInt a (m:Int)).num=a/\((Rat.divInt a (m:Int)).den:Int)=m):=by
 rcases(show a=n\/a=-(n:Int) by omega)with e|e
 ·rw[e]
 ·rw[e,<-Rat.neg_divInt,Rat.neg_num,Rat.neg_den];omega
theorem FG(n:Int):Rat.divInt n 1=(n:Rat):=by rw[Rat.divInt_eq_div];grind
theorem ub{z t b:Str}{tp:Str}{n m:Nat}{a:Int}(e:Hf z ⟨#[47]⟩=[t,b])(ht:t=iT a)(ha:a.natAbs=n)(hn:n<10^30)(hb:Wh b m)(m0:m≠0)(m1:b≠G1 "1") :
 rdq z=if(Rat.divInt (n:Int) (m:Int)).num=n/\((Rat.divInt (n:Int) (m:Int)).den:Int)=m then some (Rat.divInt a m)else none:=by
 have hz:z=t++⟨#[47]⟩++b:=by rw[<-J4 z ⟨#[47]⟩,e];rfl
 have m1':m≠1:=fun q=>m1 (bC (by rw[hb.1,q];exact(dk.mpr rfl).1.symm))
 split
 ·rename_i c
  have c':=(k7 ha).mp c
  refine iw ⟨by rw[c'.1];omega,by have:=c'.2;have:=hb.2;omega⟩ ?_
  rw[iK (by rw[c'.2];omega),c'.1,c'.2,hz,ht,bC (x:=b) (y:=iT (m:Int)) (by rw[hb.1,dh])]
 ·rename_i c
  refine jm fun q hq h=>c ((k7 ha).mpr ?_)
  have d1:¬(q.den:Int)=1:=fun d=>by
   rw[h,dC d]at e
   cases e
  rw[h,d6 d1]at e
  obtain⟨e1,e2⟩:=List.cons.inj e
  obtain⟨e2,_⟩:=List.cons.inj e2
  have q1:q.num=a:=pI hq.1 (by omega) (e1.trans ht)
  have q2:q.den=m:=di hq.2 hb.2 (by rw[<-hb.1,<-e2,dh])
  have:Rat.divInt a m=q:=by rw[<-q1,<-q2,Ho]
  rw[this]
  exact⟨q1,by omega⟩
theorem p6(d:D)(ds:List D):cutD (d::ds) (some 1) none=ds:=by unfold cutD;rw[show(some (1:Int))=some ((1:Nat):Int)from rfl,HT.oS,HT.y8,GP,Nat.min_eq_left (by omega)];simp
open Classical in
noncomputable def rdo(z:Str):Option RW:=(rdr z).bind fun W=>if OwQ W then some W else none
theorem r9{z:Str}(h:rdr z=none):rdo z=none:=by unfold rdo;rw[h];rfl
theorem oO{z:Str}{W:RW}(h:rdr z=some W)(c:OwQ W):rdo z=some W:=by unfold rdo;rw[h,Ha,if_pos c]
theorem pN{z:Str}{W:RW}(h:rdr z=some W)(c:¬OwQ W):rdo z=none:=by unfold rdo;rw[h,Ha,if_neg c]
theorem kb{us:List RW}{z:Str}:rdw us z=(rdo z).bind fun W=>if us.length≠40/\fcQ W us=none then some W else none:=by
 cases h:rdr z with
 |none=>rw[ou h,r9 h];rfl
 |some W=>
  by_cases c:OwQ W
  ·rw[oO h c,Ha];split
   ·rename_i c';exact tx h ⟨c,c'⟩
   ·rename_i c';exact pf h fun q=>c' q.2
  ·rw[pN h c,pf h fun q=>c q.1];rfl
theorem BR{z:Str}{W:RW}(h:rdo z=some W):rdr z=some W/\OwQ W:=by
 cases e:rdr z with
 |none=>rw[r9 e]at h;cases h
 |some V=>
  by_cases c:OwQ V
  ·rw[oO e c]at h;cases h;exact⟨rfl,c⟩
  ·rw[pN e c]at h;cases h
theorem C4{U V:RW}(h:eqQ U V=true):cw U V=false:=by unfold cw;rw[h];simp
theorem CN{U V:RW}(h:inQ U V.1 V.2.1=true):cw U V=false:=by unfold cw;rw[h];simp
theorem Dm{U V:RW}(h:inQ U V.2.2.1 V.2.2.2=true):cw U V=false:=by unfold cw;rw[h];simp
theorem C0{U V:RW}(h:inQ V U.1 U.2.1=true):cw U V=false:=by unfold cw;rw[h];simp
theorem C9{U V:RW}(h:inQ V U.2.2.1 U.2.2.2=true):cw U V=false:=by unfold cw;rw[h];simp
theorem zi{U V:RW}(e:eqQ U V=false)(h1:inQ U V.1 V.2.1=false)(h2:inQ U V.2.2.1 V.2.2.2=false)(h3:inQ V U.1 U.2.1=false)(h4:inQ V U.2.2.1 U.2.2.2=false) : cw U V=(decide (0<=Ma.sgn (crQ U V.1 V.2.1)*Ma.sgn (crQ U V.2.2.1 V.2.2.2))||decide (0<=Ma.sgn (crQ V U.1 U.2.1)*Ma.sgn (crQ V U.2.2.1 U.2.2.2))):=by unfold cw;rw[e,h1,h2,h3,h4];rfl
theorem De(A:RW)(x y:Rat):inQ A x y=(!oz A x y&&(!(decide (Ma.ah x y A.1 A.2.1)||decide (Ma.ah A.2.2.1 A.2.2.2 x y))&&decide (Ma.sgn (crQ A x y)=0))):=by unfold inQ;simp
theorem yp(U V:RW):Hc (.tuple [.tuple [fZ U.1,fZ U.2.1],.tuple [fZ U.2.2.1,fZ U.2.2.2]]) (.tuple [.tuple [fZ V.1,fZ V.2.1],.tuple [fZ V.2.2.1,fZ V.2.2.2]])=eqQ U V:=by unfold eqQ;rw[Hc,GV,GV,GV];unfold fZ;rw[Ma.gX,Ma.gX,Bool.and_true,<-Bool.decide_and];exact decide_eq_decide.mpr and_assoc
theorem zN{U:RW}{x y:Rat}(M:MH)(Q:DK)(q:Q (.bl (!oz U x y)) M):vS (fun b=>!b) (Ma.spt x y) (wq U) M Q:=by refine⟨_,_,Pd.of rfl,.inr (Pd.of rfl),rfl,rfl,?_⟩;rw[Iz,Iz,List.any_nil,Ma.gX,Ma.gX,Bool.or_false];exact q
def wqP(U:RW):Jj:=.tuple [.tuple [fZ U.1,fZ U.2.1],.tuple [fZ U.2.2.1,fZ U.2.2.2]]
theorem rR{M:MH}:∀l:List RW,Pds M (l.map wq) (l.map wqP)
 |[]=>.nil
 |U::l=>.cons (Pd.of rfl) (rR l)
theorem yb:∀l:List RW,Hi (l.map wqP)=true
 |[]=>rfl
 |U::l=>by rw[GH,Hi,yb l];rfl
theorem yL:∀l:List RW,HK (l.map wqP)<=10
 |[]=>nbL rfl
 |U::l=>by
  rw[GH,HK]
  exact Nat.max_le.mpr ⟨nbL rfl,yL l⟩
theorem nP:∀l:List RW,GV (l.map wqP) (l.map wqP)=true
 |[]=>by simp[GV]
 |U::l=>by
  rw[GH,GV,nP l,show Hc (wqP U) (wqP U)=eqQ U U from yp U U]
  unfold eqQ
  rw[decide_eq_true ⟨rfl,rfl,rfl,rfl⟩];rfl
theorem zq:Iy (G1 "told")=true:=by decide +kernel
theorem n8:Iy (G1 "no text")=true:=by decide +kernel
theorem vG{rs:List Str}(h0:rs≠[])(h:∀r∈rs,10∉r.cps.toList)(h1:rs≠[Ih]):bT (Hg ⟨#[10]⟩ rs)=rs:=by
 unfold bT;rw[if_neg ?_,fF 10 rs h0 h];intro e;cases rs with
 |nil=>exact h0 rfl
 |cons r rs=>
  cases rs with
  |nil=>exact h1 (by rw[show r=Ih from e])
  |cons r2 rs=>
   have z:=join_cons 10 r r2 rs
   rw[e]at z
   exact absurd (congrArg List.length z) (by simp[Ih])
theorem vj:bT (Hg ⟨#[10]⟩ [Ih])=[]:=by unfold bT;exact if_pos rfl
abbrev Asc(z:Str):Prop:=z.cps.all (· < 128)=true
theorem fR{z:Str}:Asc z↔∀c∈z.cps.toList,c<128:=by show z.cps.all (· < 128)=true↔_;rw[Ip];refine⟨fun h c hc=>of_decide_eq_true (h c (by simpa using hc)),fun h c hc=>decide_eq_true (h c (by simpa using hc))⟩
theorem iO{x y:Str}(hx:Asc x)(hy:Asc y):Asc (x++y):=by rw[fR]at *;intro c hc;rw[bO,GS]at hc;exact hc.elim (hx c) (hy c)
theorem gN{x:Str}{lo hi:Option Int}(h:Asc x):Asc (Ii x lo hi):=cy h nJ
theorem fj{s:Nat}{ts:List Str}(hs:s<128)(h:∀t∈ts,Asc t):Asc (Hg ⟨#[s]⟩ ts):=by
 rw[fR];intro c hc;rcases iY s c ts hc with rfl|⟨t,ht,hc⟩
 ·exact hs
 ·exact fR.mp (h t ht) c hc
theorem nu{s:Nat}{z:Str}(h:Asc z):∀t∈Hf z ⟨#[s]⟩,Asc t:=fun t ht=>cy h ((cT s z).2 t ht).2
def wt:List Str->Nat
 |[]=>0
 |t::ts=>t.length+1+wt ts
theorem bY:∀a b:List Str,wt (a++b)=wt a+wt b
 |[],b=>by simp[wt]
 |t::a,b=>by show t.length+1+wt (a++b)=_;rw[bY a b];show _=t.length+1+wt a+wt b;omega
theorem r6{t:Str}:∀{ts:List Str},t∈ts->t.length+1<=wt ts
 |u::ts,h=>by
  rcases GO.mp h with rfl|h
  ·show _<=t.length+1+wt ts;omega
  ·have:=r6 h;show _<=u.length+1+wt ts;omega
theorem ki(n:Nat)(ts:List Str):wt (ts.take n)+wt (ts.drop n)=wt ts:=by rw[<-bY,List.take_append_drop]
theorem jF:∀ts:List Str,ts.length<=wt ts
 |[]=>IU _
 |t::ts=>by have:=jF ts;show ts.length+1<=t.length+1+wt ts;omega
theorem wk:∀ts:List Str,(ts.map (·.length)).sum+ts.length=wt ts
 |[]=>rfl
 |t::ts=>by
  have:=wk ts
  show(t.length::ts.map (·.length)).sum+(ts.length+1)=t.length+1+wt ts
  rw[List.sum_cons]
  omega
theorem yQ(s:Str):∀(ts:List Str) (j:Nat),wt (ts.set j s)<=wt ts+s.length+1
 |[],j=>by simp[wt]
 |t::ts,0=>by show s.length+1+wt ts<=t.length+1+wt ts+s.length+1;omega
 |t::ts,j+1=>by have:=yQ s ts j;show t.length+1+wt (ts.set j s)<=t.length+1+wt ts+s.length+1;omega
theorem gL(c:Nat):∀ts:List Str,ts≠[]->(Hg ⟨#[c]⟩ ts).length+1=wt ts
 |[],h=>absurd rfl h
 |[t],_=>rfl
 |t::u::ts,_=>by
  have:=gL c (u::ts) (by simp)
  rw[bg,join_cons,HM,GP,<-bg,<-bg]
  show _=t.length+1+wt (u::ts)
  omega
theorem join_le(c:Nat)(ts:List Str):(Hg ⟨#[c]⟩ ts).length<=wt ts:=by
 cases ts with
 |nil=>exact IU _
 |cons t ts=>have:=gL c (t::ts) (by simp);omega
theorem qd(c:Nat)(z:Str):wt (Hf z ⟨#[c]⟩)=z.length+1:=by rw[<-gL c _ (cZ z c),J4]
theorem dU{c:Nat}{ts:List Str}(h:wt ts<=1000000):JoinOk ⟨#[c]⟩ ts=true:=by unfold JoinOk;rw[joinFits_of_weight (sep:=⟨#[c]⟩) (by rw[wk];omega) (show 1<=16 by decide)];rfl
def bK(xs:List Str)(lo hi:Option Int):List Str:=(xs.drop (HT.sIx xs.length 0 lo)).take (HT.sIx xs.length xs.length hi-HT.sIx xs.length 0 lo)
theorem cut_str(xs:List Str)(lo hi:Option Int):cutD (xs.map D.str) lo hi=(bK xs lo hi).map D.str:=by unfold cutD bK;rw[G7,List.map_take,List.map_drop]
theorem dE{xs:List Str}{lo hi:Option Int}{x:Str}(h:x∈bK xs lo hi):x∈xs:=List.mem_of_mem_drop (List.mem_of_mem_take h)
theorem bV(xs:List Str)(lo hi:Option Int):wt (bK xs lo hi)<=wt xs:=by unfold bK;have h1:=ki (HT.sIx xs.length 0 lo) xs;have h2:=ki (HT.sIx xs.length xs.length hi-HT.sIx xs.length 0 lo) (xs.drop (HT.sIx xs.length 0 lo));omega
theorem Al{i j:Nat}(h:i<=j)(xs:List Str):wt (xs.drop j)<=wt (xs.drop i):=by have:=ki (j-i) (xs.drop i);rw[List.drop_drop,show i+(j-i)=j by omega]at this;omega
theorem gK{i j:Int}(h0:0<=i)(h:i<=j)(xs:List Str):wt (bK xs none (some i))+wt (bK xs (some j) none)<=wt xs:=by obtain⟨a,rfl⟩:=Int.eq_ofNat_of_zero_le h0;obtain⟨b,rfl⟩:=Int.eq_ofNat_of_zero_le (Int.le_trans h0 h);unfold bK;rw[show HT.sIx xs.length xs.length (some ((a:Nat):Int))=min a xs.length from HT.oS _ _ _,show HT.sIx xs.length 0 (some ((b:Nat):Int))=min b xs.length from HT.oS _ _ _];show wt ((xs.drop 0).take (min a xs.length-0))+wt ((xs.drop (min b xs.length)).take (xs.length-min b xs.length))<=wt xs;rw[List.drop_zero,Nat.sub_zero,List.take_of_length_le (l:=xs.drop (min b xs.length)) (by rw[List.length_drop];exact G9 _)];have h1:=ki (min a xs.length) xs;have h2:=Al (i:=min a xs.length) (j:=min b xs.length) (by omega) xs;omega
theorem oh{xs:List Str}{v:Int}(h0:0<=v)(h1:v<(xs.length:Int)):∃s∈xs,atI (xs.map D.str) v=some (.str s):=by
 obtain⟨n,rfl⟩:=Int.eq_ofNat_of_zero_le h0;have hn:n<xs.length:=by omega
 exact⟨xs[n],List.getElem_mem hn,fL (by rw[Gs,GQ hn];rfl)⟩
theorem sZ{xs:List Str}{v:Int}(h0:0<=v)(h1:v<(xs.length:Int)):ixN (xs.map D.str).length v=some v.toNat:=by unfold ixN;rw[if_pos h0,if_pos (by rw[G7];exact h1)]
theorem set_str(xs:List Str)(j:Nat)(s:Str):(xs.map D.str).set j (.str s)=(xs.set j s).map D.str:=by rw[List.map_set]
theorem mem_set{xs:List Str}{j:Nat}{s t:Str}(h:t∈xs.set j s):t∈xs\/t=s:=List.mem_or_eq_of_mem_set h
def lnB(n:Nat)(s:Str):Bool:=s.cps.all (· < 128)&&decide (s.length<=n)
theorem jt{n:Nat}{s:Str}(h:lnB n s=true):Asc s/\s.length<=n:=by unfold lnB at h;rw[GG]at h;exact⟨h.1,of_decide_eq_true h.2⟩
theorem pT{n:Nat}{l:List Str}(h:l.all (lnB n)=true):∀s∈l,Asc s/\s.length<=n:=fun s hs=>jt (HS.mp h s hs)
theorem slS{M:MH}{w:Addr}{ws:List Str}{lo hi:Option Int}{Q:DK}(hw:M w=some (.lst (ws.map D.str)))(k:∀(p:Addr) (M':MH),SD.Sub M M'->M p=none->M' p=some (.lst ((bK ws lo hi).map D.str))->Q (.ref p) M'):Ao (.ref w) lo hi M Q:=⟨_,hw,fun p hp=>by rw[cut_str];exact k p _ (.new hp .refl) hp ag⟩
theorem slN{M:MH}{δ:DS}{w:Addr}{ws:List Str}{lo:Option Int}{Q:DK}(hw:M w=some (.lst (ws.map D.str)))(k:∀(p:Addr) (M':MH),SD.Sub M M'->M p=none->M' p=some (.lst ((bK ws lo none).map D.str))->Q (.ref p) M'):qR δ M (fun u M3=>Ao (.ref w) lo u M3 Q):=slS (hi:=none) hw k
theorem ig{M:MH}{a b:Addr}{xs ys:List Str}{Q:DK}(ha:M a=some (.lst (xs.map D.str)))(hb:M b=some (.lst (ys.map D.str)))(hl:wt xs+wt ys<=1000000)(k:∀(p:Addr) (M':MH),SD.Sub M M'->M p=none->M' p=some (.lst ((xs++ys).map D.str))->Q (.ref p) M'):wZ (.ref a) (.ref b) M Q:=by have h1:=jF xs;have h2:=jF ys;have sz:1000000<=Gp:=nbL rfl;exact⟨_,_,ha,hb,by rw[G7,G7];omega,fun p hp=>k p _ (.new hp .refl) hp (by rw[ag,HJ])⟩
theorem fM{M:MH}{l r:Addr}{ls:List Str}{x:Int}{ds:List D}(hl:M l=some (.lst (ls.map D.str)))(hr:M r=some (.lst (.int x::ds))):l≠r:=fun e=>by
 rw[e,hr]at hl;have:=MO.lst.inj (Option.some.inj hl);cases ls with
 |nil=>cases this
 |cons t ls=>cases this
def bnd(way k:Int)(n:Nat):Nat:=if way<k then 3*(n+1)else n
theorem i8(way k:Int)(n:Nat):bnd way k n<=bnd way (k+1) n:=by
 unfold bnd;split
 ·rw[if_pos (by omega)];exact G9 _
 ·split<;>omega
def bnl(way k:Int)(n:Nat):Nat:=if way<k then 4*n+60 else 2*n
theorem iQ(way k:Int)(n:Nat):bnl way k n<=bnl way (k+1) n:=by
 unfold bnl;split
 ·rw[if_pos (by omega)];exact G9 _
 ·split<;>omega
theorem CB(way k:Int)(n:Nat):bnl way k n<=4*n+60:=by unfold bnl;split<;>omega
theorem Ae{way:Int}{n B:Nat}(h:n+1<=B):B+(bnd way 5 n+1)<=bnl way 5 B:=by unfold bnd bnl;split<;>omega
theorem stp{c m:Int}(h:0<=c/\c<m):0<=c+1/\c+1<m+1:=⟨by omega,by omega⟩
theorem lpS{rs:List Str}(h:rs≠[]):(0:Int)<((rs.map D.str).length:Int):=by rw[G7];have:=List.length_pos_iff.mpr h;omega
theorem lb{rs:List Str}(h:wt rs<=150000):Bd 8000 ((rs.map D.str).length:Int):=by have:=jF rs;rw[G7];exact cG (by omega)
theorem c5b(c:Int):c+1+1+1+1+1<=c+5:=by omega
theorem zpS(z:Str):(0:Int)<(z.length:Int)+1:=by omega
theorem zbS{z:Str}(h:z.length+1<=150000):Bd 8000 ((z.length:Int)+1):=cG (by omega)
theorem Fx{z:Str}(h:z.length<=100):(0:Int)<9+(z.length:Int)/\Bd 8000 (9+(z.length:Int)):=⟨by omega,cG (by omega)⟩
theorem wt1{ss:List Str}{n:Nat}(h:∀t∈ss,Asc t/\t.length<=1)(hl:ss.length<=n):wt ss<=2*n:=by
 have:∀{l:List Str},(∀t∈l,t.length<=1)->wt l<=2*l.length:=fun{l}=>by
  induction l with
  |nil=>intro _;exact IU _
  |cons t l ih=>
   intro h
   have h1:=h t GR
   have h2:=ih fun x hx=>h x (Gr _ hx)
   show t.length+1+wt l<=2*(l.length+1)
   omega
 have:=this fun t ht=>(h t ht).2;omega
def sgs(z:Str):List Str:=z.cps.toList.map fun c=>(⟨#[c]⟩:Str)
theorem DO(z:Str):z.cps.toList.map (fun c=>D.str ⟨#[c]⟩)=(sgs z).map D.str:=by unfold sgs;rw[List.map_map];rfl
theorem xh{z:Str}(h:Asc z):∀t∈sgs z,Asc t/\t.length<=1:=fun t ht=>by obtain⟨c,hc,rfl⟩:=Ig.mp ht;refine⟨fR.mpr fun d hd=>?_,G9 1⟩;rw[show d=c by simpa using hd];exact fR.mp h c hc
theorem uf(z:Str):(sgs z).length=z.length:=by unfold sgs;rw[G7,bg]
theorem F8{z sg:Str}{n:Nat}{sp:Int}(hz:z.length=n)(h1:sg.length<=1)(hn:n+1<=150000):z.length<=Gp/\(Ii z none (some sp)).length+sg.length<=Gp/\(Ii z none (some sp)++sg).length+(Ii z (some sp) none).length<=Gp/\(Ii z none (some sp)++sg++Ii z (some sp) none).length<=3*(n+1):=by have s1:=Jf z none (some sp);have s2:=Jf z (some sp) none;have sz:1000000<=Gp:=nbL rfl;refine⟨by omega,by omega,by rw[len_app];omega,by rw[len_app,len_app];omega⟩
theorem FO{z:Str}{n:Nat}{sp:Int}(hz:z.length<=n)(hn:n+1<=150000):z.length<=Gp/\(Ii z none (some sp)).length+(Ii z (some (sp+1)) none).length<=Gp/\(Ii z none (some sp)++Ii z (some (sp+1)) none).length<=3*(n+1):=by have s1:=Jf z none (some sp);have s2:=Jf z (some (sp+1)) none;have sz:1000000<=Gp:=nbL rfl;refine⟨by omega,by omega,by rw[len_app];omega⟩
theorem cw2{ws:List Str}{a b c d:Option Int}(h:wt ws<=300000):wt (bK ws a b)+wt (bK ws c d)<=1000000:=by have:=bV ws a b;have:=bV ws c d;omega
theorem cj2{ws:List Str}{a b c d:Option Int}(h:wt ws<=300000):JoinOk (G1 " ") (bK ws a b++bK ws c d)=true:=by rw[dB];exact dU (by rw[bY];exact cw2 h)
theorem cl2{ws:List Str}{a b c d:Option Int}{n:Nat}(h:wt ws=n+1):(Hg (G1 " ") (bK ws a b++bK ws c d)).length<=3*(n+1):=by
 have:=join_le 32 (bK ws a b++bK ws c d);have:=bV ws a b;have:=bV ws c d
 rw[dB];rw[bY]at *;omega
theorem ca2{ws:List Str}{a b c d:Option Int}(h:∀t∈ws,Asc t):Asc (Hg (G1 " ") (bK ws a b++bK ws c d)):=by rw[dB];refine fj (by decide) fun t ht=>?_;rcases GS.mp ht with q|q<;>exact h t (dE q)
theorem cw3{ws:List Str}{a b c d e f:Option Int}(h:wt ws<=300000):wt (bK ws a b++bK ws c d)+wt (bK ws e f)<=1000000:=by have:=bV ws a b;have:=bV ws c d;have:=bV ws e f;rw[bY];omega
theorem cj3{ws:List Str}{a b c d e f:Option Int}(h:wt ws<=300000):JoinOk (G1 " ") (bK ws a b++bK ws c d++bK ws e f)=true:=by rw[dB];exact dU (by rw[bY];exact cw3 h)
theorem cl3{ws:List Str}{a b c d e f:Option Int}{n:Nat}(h:wt ws=n+1):(Hg (G1 " ") (bK ws a b++bK ws c d++bK ws e f)).length<=3*(n+1):=by
 have:=join_le 32 (bK ws a b++bK ws c d++bK ws e f);have:=bV ws a b;have:=bV ws c d;have:=bV ws e f
 rw[dB];rw[bY,bY]at *;omega
theorem ca3{ws:List Str}{a b c d e f:Option Int}(h:∀t∈ws,Asc t):∀t∈bK ws a b++bK ws c d++bK ws e f,Asc t:=fun t ht=>by
 rcases GS.mp ht with q|q
 ·rcases GS.mp q with q|q<;>exact h t (dE q)
 ·exact h t (dE q)
theorem xj{way k k':Int}{n:Nat}(h:way=k)(hk:k<k'):bnd way k n=n/\bnd way k' n=3*(n+1):=by unfold bnd;rw[if_neg (by omega),if_pos (by omega)];exact⟨rfl,rfl⟩
theorem FU{way:Int}{n:Nat}(h:¬way=0)(h0:0<=way):n<=bnd way 1 n:=by unfold bnd;rw[if_neg (by omega)];exact G9 _
theorem in1{rs:List Str}{line:Str}{a:Int}{way:Int}{n:Nat}(ha:0<=a)(hn:n+1<=wt rs)(hl:line.length<=bnd way 5 n):wt (bK rs none (some a)++[line]++bK rs (some (a+1)) none)<=bnl way 5 (wt rs):=by have:=gK ha (show a<=a+1 by omega) rs;have:=Ae (way:=way) hn;rw[bY,bY];show wt _+(line.length+1+0)+_<=_;omega
theorem Fs{rs:List Str}{line:Str}{a b c d:Option Int}(h:∀t∈rs,Asc t)(hl:Asc line):∀t∈bK rs a b++[line]++bK rs c d,Asc t:=fun t ht=>by
 rcases GS.mp ht with q|q
 ·rcases GS.mp q with q|q
  ·exact h t (dE q)
  ·rw[GX.mp q];exact hl
 ·exact h t (dE q)
theorem w1a{rs:List Str}{line:Str}{a b:Option Int}(h:wt rs<=300000)(hl:line.length<=450010):wt (bK rs a b)+wt [line]<=1000000:=by have:=bV rs a b;show _+(line.length+1+0)<=_;omega
theorem w1b{rs:List Str}{line:Str}{a b c d:Option Int}(h:wt rs<=150000)(hl:line.length<=450010):wt (bK rs a b++[line])+wt (bK rs c d)<=1000000:=by
 have:=bV rs a b;have:=bV rs c d
 rw[bY];show _+(line.length+1+0)+_<=_;omega
theorem Dn{way k:Int}{n B:Nat}(h:n+1<=B)(hB:B<=150000):bnd way k n<=450010:=by unfold bnd;split<;>omega
theorem dbl{ls:List Str}{a:Int}{B:Nat}(ha:0<=a)(h:wt ls<=2*B):wt (bK ls none (some a)++bK ls (some a) (some (a+1))++bK ls (some a) none)<=4*B+60:=by have:=gK ha (Int.le_refl a) ls;have:=bV ls (some a) (some (a+1));rw[bY,bY];omega
theorem Ga{ls:List Str}{a:Int}{B:Nat}(ha:0<=a)(h:wt ls<=2*B):wt (bK ls none (some a)++bK ls (some (a+1)) none)<=4*B+60:=by have:=gK ha (show a<=a+1 by omega) ls;rw[bY];omega
theorem AQ{way k k':Int}{n:Nat}(h:way=k)(hk:k<k'):bnl way k n=2*n/\bnl way k' n=4*n+60:=by unfold bnl;rw[if_neg (by omega),if_pos (by omega)];exact⟨rfl,rfl⟩
theorem yu(a b:Str):Hc (mz a) (mz b)=decide (a=b):=by
 unfold mz;rw[Hc];by_cases h:a=b
 ·subst h;simp
 ·rw[decide_eq_false h];simpa using h
theorem l4:∀l r:List Str,GV (l.map mz) (r.map mz)=decide (l=r)
 |[],[]=>by simp[GV]
 |[],_::_=>by simp[GV]
 |_::_,[]=>by simp[GV]
 |a::l,b::r=>by
  rw[GH,GH,GV,l4 l r,yu]
  by_cases h:a=b
  ·by_cases h2:l=r
   ·subst h;subst h2;simp
   ·rw[decide_eq_false h2,Bool.and_false,decide_eq_false (fun e=>h2 (List.cons.inj e).2)]
  ·rw[decide_eq_false h,Bool.false_and,decide_eq_false (fun e=>h (List.cons.inj e).1)]
theorem pK{l r:List Str}{a c:Addr}{M:MH}{Q:DK}(ha:M a=some (.lst (l.map D.str)))(hc:M c=some (.lst (r.map D.str)))(h:∀z∈l,Asc z)(h':∀z∈r,Asc z)(q:Q (.bl (decide (l=r))) M):BM (.ref a) (.ref c) M Q:=by refine⟨_,_,.lst ha (kg l),.lst hc (kg r),ip (fun z hz=>rJ (h z hz)),ip (fun z hz=>rJ (h' z hz)),?_⟩;rw[Hc,l4];exact q
theorem ut1(a:Int):Ma.ut 1 1 0 1 a=(a:Rat):=by unfold Ma.ut;rw[show a*1+0*1=a by omega,show(1:Int)*1=1 by rfl,Rat.divInt_eq_div];grind
theorem F7(a:Int):rwl 1 1 0 0 (a,0,a,1)=.tup [.tup [.tup [.int a,.int 1],.tup [.int 0,.int 1]],.tup [.tup [.int a,.int 1],.tup [.int 1,.int 1]]]:=by unfold rwl;rw[ut1,ut1,ut1];rfl
theorem xf{q:Rat}(h:Ma.Bq 60 q):(sQ q).length<=41:=by
 have f:∀a:Int,Bd 60 a->(iT a).length<=20:=fun a ha=>gI (k:=18) (G6 ha (by decide));have h1:=f _ h.1;have h2:=f _ h.2;show(sF q.num (q.den:Int)).length<=41;unfold sF;split
 ·omega
 ·rw[len_app,len_app];have:(Str.mk #[47]).length=1:=rfl;omega
theorem rY{t b X Y:Int}{w:Wl}(h:∀q∈wQ t b X Y w,Ma.Bq 60 q):(gC t b X Y w).length<=172:=by have e:=gL 32 (G1 "wall"::(wQ t b X Y w).map sQ) (by simp);have f:=fun q hq=>xf (h q hq);have h1:=f _ (show Ma.ut t b X 1 w.1∈wQ t b X Y w by simp[wQ]);have h2:=f _ (show Ma.ut t b Y 1 w.2.1∈wQ t b X Y w by simp[wQ]);have h3:=f _ (show Ma.ut t b X 1 w.2.2.1∈wQ t b X Y w by simp[wQ]);have h4:=f _ (show Ma.ut t b Y 1 w.2.2.2∈wQ t b X Y w by simp[wQ]);have h0:(G1 "wall").length=4:=rfl;have e:(gC t b X Y w).length+1=(G1 "wall").length+1+((sQ (Ma.ut t b X 1 w.1)).length+1+((sQ (Ma.ut t b Y 1 w.2.1)).length+1+((sQ (Ma.ut t b X 1 w.2.2.1)).length+1+((sQ (Ma.ut t b Y 1 w.2.2.2)).length+1+0)))):=e;omega
theorem CK(q:Rat):Asc (sQ q):=fR.mpr fun c hc=>by have:=iM (a:=q.num) (b:=(q.den:Int)) hc;omega
theorem wJ:Asc (G1 "wall"):=by decide +kernel
theorem yN(t b X Y:Int)(w:Wl):Asc (gC t b X Y w):=fj (by decide) fun u hu=>by
 rcases GO.mp hu with rfl|hu
 ·exact wJ
 ·obtain⟨q,_,rfl⟩:=Ig.mp hu;exact CK q
theorem qB{n:Nat}:∀{ts:List Str},(∀t∈ts,t.length<=n)->wt ts<=ts.length*(n+1)
 |[],_=>by simp[wt]
 |t::ts,h=>by
  have h1:=h t GR
  have h2:=qB (ts:=ts) (fun x hx=>h x (Gr _ hx))
  show t.length+1+wt ts<=(ts.length+1)*(n+1)
  rw[Nat.succ_mul]
  omega
theorem lC{t b X Y:Int}{ws:List Wl}(h:∀w∈ws,∀q∈wQ t b X Y w,Ma.Bq 60 q):(∀r∈ws.map (gC t b X Y),Asc r/\10∉r.cps.toList)/\wt (ws.map (gC t b X Y))<=ws.length*173:=by
 constructor
 ·intro r hr;obtain⟨w,hw,rfl⟩:=Ig.mp hr;exact⟨yN t b X Y w,(zR t b X Y w).1⟩
 ·have:=qB (n:=172) (ts:=ws.map (gC t b X Y)) (fun r hr=>by
   obtain⟨w,hw,rfl⟩:=Ig.mp hr
   exact rY (h w hw))
  rw[G7]at this;exact this
theorem DX{a:Int}(h:0<=a/\a<=1000):∀q∈wQ 1 1 0 0 (a,0,a,1),Ma.Bq 60 q:=fun q hq=>by
 have f:∀z:Int,0<=z/\z<=1000->Ma.Bq 60 (Ma.ut 1 1 0 1 z):=fun z hz=>by rw[ut1];exact⟨by show((z:Rat).num).natAbs<2^60;rw[Rat.num_intCast];omega,by show(((z:Rat).den:Int)).natAbs<2^60;rw[Rat.den_intCast];decide⟩
 simp only[wQ,GO,List.not_mem_nil,or_false]at hq;rcases hq with rfl|rfl|rfl|rfl
 ·exact f a h
 ·exact f 0 (by decide)
 ·exact f a h
 ·exact f 1 (by decide)
open Classical in
noncomputable def rda(z:Str):Option (Rat×Rat):=if h:∃s:Rat×Rat,∃ws,Hf z ⟨#[32]⟩=G1 "ask"::ws/\ws.map rdq=[some s.1,some s.2]then some h.choose else none
theorem oj{z:Str}{s:Rat×Rat}(h:rda z=some s):∃ws,Hf z ⟨#[32]⟩=G1 "ask"::ws/\ws.map rdq=[some s.1,some s.2]:=by
 unfold rda at h;split at h
 ·rename_i e;have:=e.choose_spec;rw[Option.some.inj h]at this;exact this
 ·cases h
theorem mR{z:Str}{w:Str}{ws:List Str}(e:Hf z ⟨#[32]⟩=w::ws)(s:Rat×Rat):rda z=some s↔w=G1 "ask"/\ws.map rdq=[some s.1,some s.2]:=by
 constructor
 ·intro h;obtain⟨vs,e1,e2⟩:=oj h;rw[e]at e1;obtain⟨a,b⟩:=List.cons.inj e1;exact⟨a,by rw[b];exact e2⟩
 ·rintro⟨rfl,h⟩;have ex:∃s:Rat×Rat,∃ws,Hf z ⟨#[32]⟩=G1 "ask"::ws/\ws.map rdq=[some s.1,some s.2]:=⟨s,ws,e,h⟩;unfold rda;rw[dif_pos ex];obtain⟨vs,e1,e2⟩:=ex.choose_spec;rw[e]at e1;rw[<-(List.cons.inj e1).2,h]at e2;obtain⟨a,b⟩:=List.cons.inj e2;exact congrArg some (Prod.ext (Option.some.inj a).symm (Option.some.inj (List.cons.inj b).1).symm)
theorem Am{z:Str}{s:Rat×Rat}(h:rda z=some s):N30 s.1/\N30 s.2:=by
 obtain⟨ws,_,e⟩:=oj h;have hl:ws.length=2:=by have:=congrArg List.length e;simpa using this
 match ws,hl with
 |[a,b],_=>
  obtain⟨h1,e⟩:=List.cons.inj e
  exact⟨(gB h1).1,(gB (List.cons.inj e).1).1⟩
theorem uB{z:Str}{U:RW}(h:rdr z=some U):rda z=none:=by
 cases e:rda z with
 |none=>rfl
 |some s=>
  obtain⟨ws,e1,_⟩:=oj e
  exact absurd ((gW e1 U).mp h).1 C8
def RdS(wd z:Str)(l:List (Rat×Rat)):Prop:=∃ws,Hf z ⟨#[32]⟩=wd::ws/\ws.map rdq=(flat l).map some
theorem xQ{z:Str}{l:List (Rat×Rat)}(hl:l.length=2)(h:RdS (G1 "wall") z l):∃U:RW,rdr z=some U/\l.map spq=[Ma.spt U.1 U.2.1,Ma.spt U.2.2.1 U.2.2.2]:=by
 obtain⟨ws,e,h⟩:=h
 match l,hl with
 |[s,t],_=>exact⟨(s.1,s.2,t.1,t.2),(gW e _).mpr ⟨rfl,h⟩,rfl⟩
theorem sY{z:Str}(h:∀l,l.length=2->¬RdS (G1 "wall") z l):rdr z=none:=by
 cases e:rdr z with
 |none=>rfl
 |some U=>
  obtain⟨wd,ws,ew⟩:∃wd ws,Hf z ⟨#[32]⟩=wd::ws:=by
   cases e:Hf z ⟨#[32]⟩with
   |nil=>exact absurd e (cZ z 32)
   |cons a b=>exact⟨a,b,rfl⟩
  obtain⟨h1,h2⟩:=(gW ew U).mp e
  exact absurd ⟨ws,by rw[ew,h1],h2⟩ (h [(U.1,U.2.1),(U.2.2.1,U.2.2.2)] rfl)
theorem tZ{z:Str}{l:List (Rat×Rat)}(hl:l.length=1)(h:RdS (G1 "ask") z l):∃s:Rat×Rat,rda z=some s/\l=[s]:=by
 obtain⟨ws,e,h⟩:=h
 match l,hl with
 |[s],_=>exact⟨s,(mR e _).mpr ⟨rfl,h⟩,rfl⟩
theorem nC{z:Str}(h:∀l,l.length=1->¬RdS (G1 "ask") z l):rda z=none:=by
 cases e:rda z with
 |none=>rfl
 |some s=>
  obtain⟨ws,e1,e2⟩:=oj e
  exact absurd ⟨ws,e1,e2⟩ (h [s] rfl)
theorem nU:∀{l:List (Rat×Rat)},((flat l).map some).any (fun o=>o.isNone)=false
 |[]=>rfl
 |s::l=>by show(false||(false||((flat l).map some).any _))=false;rw[nU];rfl
theorem uN{ws:List (Option Rat)}{n:Nat}(hn:n=1\/n=2)(hl:ws.length=2*n)(h:ws.any (fun o=>o.isNone)=false):∃l:List (Rat×Rat),l.length=n/\ws=(flat l).map some:=by
 rcases hn with rfl|rfl
 ·match ws,hl with
  |[some a,some b],_=>exact⟨[(a,b)],rfl,rfl⟩
  |[none,_],_=>cases h
  |[some a,none],_=>cases h
 ·match ws,hl with
  |[some a,some b,some c,some d],_=>exact⟨[(a,b),(c,d)],rfl,rfl⟩
  |[none,_,_,_],_=>cases h
  |[some a,none,_,_],_=>cases h
  |[some a,some b,none,_],_=>cases h
  |[some a,some b,some c,none],_=>cases h
abbrev QS:=List RW×List (Rat×Rat)
noncomputable def stq(us:List RW)(ps:List (Rat×Rat))(z:Str):Option QS:=match rda z with
 |some s=>some (us,ps++[s])
 |none=>if ps=[]then(rdw us z).map (fun W=>(us++[W],[]))else none
theorem j9{us:List RW}{ps:List (Rat×Rat)}{z:Str}{s:Rat×Rat}(h:rda z=some s):stq us ps z=some (us,ps++[s]):=by unfold stq;rw[h]
theorem d5{us:List RW}{z:Str}(h:rda z=none):stq us [] z=(rdw us z).map (fun W=>(us++[W],[])):=by unfold stq;rw[h];exact if_pos rfl
theorem gk{us:List RW}{ps:List (Rat×Rat)}{z:Str}(h:rda z=none)(h2:ps≠[]):stq us ps z=none:=by unfold stq;rw[h];exact if_neg h2
noncomputable def stQ(rs:List Str):Nat->Option QS
 |0=>some ([],[])
 |n+1=>(stQ rs n).bind fun s=>(rs[n]?).bind fun z=>stq s.1 s.2 z
theorem kH{rs:List Str}{n:Nat}{us:List RW}{ps:List (Rat×Rat)}{z:Str}(h:stQ rs n=some (us,ps))(e:rs[n]?=some z):stQ rs (n+1)=stq us ps z:=by show(stQ rs n).bind _=_;rw[h,Ha,e,Ha]
theorem fK{rs:List Str}:∀{n:Nat} {q:QS},stQ rs n=some q->∀k,k<=n->∃us ps,stQ rs k=some (us,ps)
 |0,q,h,k,hk=>⟨q.1,q.2,by rw[show k=0 by omega];exact h⟩
 |n+1,q,h,k,hk=>by
  by_cases e:k=n+1
  ·exact⟨q.1,q.2,by rw[e];exact h⟩
  ·cases g:stQ rs n with
   |none=>
    have h:(stQ rs n).bind (fun s=>(rs[n]?).bind fun z=>stq s.1 s.2 z)=some q:=h
    rw[g]at h
    cases h
   |some p=>exact fK g k (by omega)
theorem nh{rs:List Str}:∀{m:Nat},stQ rs m=none->∃n us ps,n<m/\stQ rs n=some (us,ps)/\stQ rs (n+1)=none
 |0,h=>by cases h
 |m+1,h=>by
  cases g:stQ rs m with
  |none=>
   obtain⟨n,us,ps,h1,h2,h3⟩:=nh g
   exact⟨n,us,ps,by omega,h2,h3⟩
  |some q=>exact⟨m,q.1,q.2,by omega,g,h⟩
theorem tO{rs:List Str}{i n:Nat}{q:QS}(h:i<=n)(nx:stQ rs (i+1)=some q)(gn:stQ rs (n+1)=none):i+1<=n:=by
 by_cases e:i=n
 ·rw[e,gn]at nx;cases nx
 ·omega
structure QOk(rs:List Str)(n:Nat)(us:List RW)(ps:List (Rat×Rat)):Prop where
 mem:∀U∈us,NQ 100 U/\OwQ U/\N4 U
 few:us.length<=40
 sum:us.length+ps.length=n
 le:n<=rs.length
 n30:∀s∈ps,N30 s.1/\N30 s.2
theorem oN{rs:List Str}:∀{n:Nat} {us:List RW} {ps:List (Rat×Rat)},stQ rs n=some (us,ps)->QOk rs n us ps
 |0,us,ps,h=>by
  have h:(([],[]):QS)=(us,ps):=Option.some.inj h
  cases h
  exact⟨fun U hU=>(List.not_mem_nil hU).elim,IU _,rfl,IU _,fun s hs=>(List.not_mem_nil hs).elim⟩
 |n+1,us,ps,h=>by
  have h:(stQ rs n).bind (fun s=>(rs[n]?).bind fun z=>stq s.1 s.2 z)=some (us,ps):=h
  cases g:stQ rs n with
  |none=>rw[g]at h;cases h
  |some q=>
   obtain⟨vs,qs⟩:=q
   rw[g,Ha]at h
   have I:=oN g
   cases e:rs[n]? with
   |none=>rw[e]at h;cases h
   |some z=>
    have hn:=(GN.mp e).1
    rw[e,Ha]at h
    dsimp only at h
    cases r:rda z with
    |some s=>
     rw[j9 r]at h
     cases h
     refine⟨I.mem,I.few,by have:=I.sum;simp;omega,hn,fun t ht=>?_⟩
     rcases GS.mp ht with ht|ht
     ·exact I.n30 t ht
     ·rw[GX.mp ht];exact Am r
    |none=>
     by_cases q0:qs=[]
     ·subst q0
      rw[d5 r]at h
      cases w:rdw vs z with
      |none=>rw[w]at h;cases h
      |some W=>
       rw[w]at h
       cases h
       obtain⟨a,b,c,d⟩:=Dy w
       have N:=(lP a).1
       refine⟨fun U hU=>?_,by have:=I.few;simp;omega,by have:=I.sum;simp at *;omega,hn,fun t ht=>(List.not_mem_nil ht).elim⟩
       rcases GS.mp hU with hU|hU
       ·exact I.mem U hU
       ·rw[GX.mp hU];exact⟨N.nq,b,N⟩
     ·rw[gk r q0]at h;cases h
def sqP(s:Rat×Rat):Jj:=.tuple [fZ s.1,fZ s.2]
theorem kh{M:MH}:∀l:List (Rat×Rat),Pds M (l.map spq) (l.map sqP)
 |[]=>.nil
 |s::l=>.cons (Pd.of rfl) (kh l)
theorem og:∀l:List (Rat×Rat),Hi (l.map sqP)=true
 |[]=>rfl
 |s::l=>by rw[GH,Hi,og l];rfl
theorem oG:∀l:List (Rat×Rat),HK (l.map sqP)<=10
 |[]=>nbL rfl
 |s::l=>by
  rw[GH,HK]
  exact Nat.max_le.mpr ⟨nbL rfl,oG l⟩
theorem lU:∀l:List (Rat×Rat),GV (l.map sqP) (l.map sqP)=true
 |[]=>by simp[GV]
 |s::l=>by
  rw[GH,GV,lU l]
  simp[sqP,fZ,Hc,GV]
def qV(us:List RW)(p:Addr):D:=.tup [.str "told",.tup [.tup (us.map wq),.ref p]]
theorem zZ{M:MH}{Q:DK}{us:List RW}{ps:List (Rat×Rat)}{p p':Addr}(h:M p=some (.lst (ps.map spq)))(h':M p'=some (.lst (ps.map spq)))(q:Q (.bl false) M):rD (qV us p) (qV us p') M Q:=by
 have sh:Ia (.tuple [.str "told",.tuple [.tuple (us.map wqP),.list (ps.map sqP)]])=true:=by
  have h2:=yL us
  have h3:=oG ps
  unfold Ia
  rw[GG]
  refine⟨by simp[IF,Hi,zq,yb,og],decide_eq_true ?_⟩
  simp only[PyData.depth,HK]
  omega
 refine⟨.tuple [.str "told",.tuple [.tuple (us.map wqP),.list (ps.map sqP)]],.tuple [.str "told",.tuple [.tuple (us.map wqP),.list (ps.map sqP)]],.tup (.cons (.str _) (.cons (.tup (.cons (.tup (rR us)) (.cons (.lst h (kh ps)) .nil))) .nil)),.tup (.cons (.str _) (.cons (.tup (.cons (.tup (rR us)) (.cons (.lst h' (kh ps)) .nil))) .nil)),sh,sh,?_⟩;rw[show Hc (.tuple [.str "told",.tuple [.tuple (us.map wqP),.list (ps.map sqP)]]) (.tuple [.str "told",.tuple [.tuple (us.map wqP),.list (ps.map sqP)]])=true by simp[Hc,GV,nP,lU]];exact q
theorem CO{M:MH}{Q:DK}{a c:Addr}{ps:List (Rat×Rat)}(ha:M a=some (.lst (ps.map spq)))(hc:M c=some (.lst []))(q:Q (.bl (!decide (ps=[]))) M):rD (.ref a) (.ref c) M Q:=by
 have sh:Ia (.list (ps.map sqP))=true:=by
  have h3:=oG ps
  unfold Ia
  rw[GG]
  refine⟨by simp[IF,og],decide_eq_true ?_⟩
  simp only[PyData.depth]
  omega
 refine⟨_,_,.lst ha (kh ps),.lst hc .nil,sh,rfl,?_⟩;rw[show Hc (.list (ps.map sqP)) (.list [])=decide (ps=[]) by cases ps<;>rfl];exact q
theorem ET{M:MH}{Q:DK}(n:Int)(q:Q (.bl false) M):rD (.tup [.str "no text",.int n]) (.tup [.str "no text",.int n]) M Q:=by
 refine⟨_,_,Pd.of rfl,Pd.of rfl,?_,?_,?_⟩
 ·simp[Ia,IF,Hi,n8,PyData.depth,HK]
 ·simp[Ia,IF,Hi,n8,PyData.depth,HK]
 ·rw[Hc,GV,GV,GV,uc];simpa[Hc]using q
def rh(rs:List Str)(d:D)(M:MH):Prop:=(∃us ps p,stQ rs rs.length=some (us,ps)/\d=qV us p/\M p=some (.lst (ps.map spq)))\/∃(n:Nat) (us:List RW) (ps:List (Rat×Rat)),n<rs.length/\stQ rs n=some (us,ps)/\stQ rs (n+1)=none/\d=.tup [.str "no text",.int (n:Int)]
theorem rh.mono{rs:List Str}{d:D}{M M':MH}(h:rh rs d M)(s:SD.Sub M M'):rh rs d M':=by
 rcases h with⟨us,ps,p,e,ed,hp⟩|h
 ·exact .inl ⟨us,ps,p,e,ed,s _ _ hp⟩
 ·exact .inr h
theorem tJ{rs:List Str}{d e:D}{M:MH}{Q:DK}(h:rh rs d M)(h':rh rs e M)(q:Q (.bl false) M):rD d e M Q:=by
 rcases h with⟨us,ps,p,g,rfl,hp⟩|⟨n,us,ps,hn,g,g1,rfl⟩
 ·rcases h' with⟨us',ps',p',g',rfl,hp'⟩|⟨n',us',ps',hn',g',g1',rfl⟩
  ·rw[g]at g';cases g';exact zZ hp hp' q
  ·obtain⟨_,_,z⟩:=fK g (n'+1) (by omega);rw[g1']at z;cases z
 ·rcases h' with⟨us',ps',p',g',rfl,hp'⟩|⟨n',us',ps',hn',g',g1',rfl⟩
  ·obtain⟨_,_,z⟩:=fK g' (n+1) (by omega);rw[g1]at z;cases z
  ·have e:n=n':=by
    rcases Nat.lt_trichotomy n n' with l|l|l
    ·obtain⟨_,_,z⟩:=fK g' (n+1) (by omega);rw[g1]at z;cases z
    ·exact l
    ·obtain⟨_,_,z⟩:=fK g (n'+1) (by omega);rw[g1']at z;cases z
   subst e;exact ET n q
theorem wu:∀ts:List Str,wt ts.reverse=wt ts
 |[]=>rfl
 |t::ts=>by rw[Jd,bY,wu ts];show wt ts+(t.length+1+0)=t.length+1+wt ts;omega
theorem nQ{a b:Int}(ha:Bd 110 a)(hb:Bd 110 b):(sF a b).length<=71:=by
 have f:∀a:Int,Bd 110 a->(iT a).length<=35:=fun a ha=>gI (k:=33) (G6 ha (by decide));have h1:=f _ ha;have h2:=f _ hb;unfold sF;split
 ·omega
 ·rw[len_app,len_app];have:(Str.mk #[47]).length=1:=rfl;omega
theorem zF{a b c d:Int}(ha:Bd 110 a)(hb:Bd 110 b)(hc:Bd 110 c)(hd:Bd 110 d):Asc (Hg ⟨#[32]⟩ [G1 "ask",sF a b,sF c d])/\10∉(Hg ⟨#[32]⟩ [G1 "ask",sF a b,sF c d]).cps.toList/\(Hg ⟨#[32]⟩ [G1 "ask",sF a b,sF c d]).length<=147/\wt [G1 "ask",sF a b,sF c d]<=148:=by
 have h1:=nQ ha hb;have h2:=nQ hc hd;have h0:(G1 "ask").length=3:=rfl;have w:wt [G1 "ask",sF a b,sF c d]<=148:=by show(G1 "ask").length+1+((sF a b).length+1+((sF c d).length+1+0))<=148;omega
 have sg:∀x∈(Hg ⟨#[32]⟩ [G1 "ask",sF a b,sF c d]).cps.toList,x<128/\x≠10:=fun x hx=>by
  rcases iY 32 x _ hx with rfl|⟨t,ht,hx⟩
  ·decide
  ·simp only[GO,List.not_mem_nil,or_false]at ht;rcases ht with rfl|rfl|rfl
   ·rw[D9]at hx;simp at hx;omega
   ·have:=iM hx;omega
   ·have:=iM hx;omega
 refine⟨fR.mpr fun x hx=>(sg x hx).1,fun h=>(sg 10 h).2 rfl,?_,w⟩;have:=gL 32 [G1 "ask",sF a b,sF c d] (by simp);omega
section
variable{P:GC}{w:Hd}{K:cc}{mg:Str->Option G0}{base:Heap}{x:Str}{st:Stmt}{N:List Str}{k:Nat}
def sD1(C:D->MH->DK->Prop):SpD:=fun ds M Q=>match ds with
 |[a]=>C a M Q
 |_=>False
theorem eJ{p:Str}{C:D->MH->DK->Prop}(T:Txt K mg x st)(S:FnScope N [p] (ao st))
 (body:∀(f:Addr) (cdv:G0) (A:He) (outer:List Env) (s:G3) (H:Hp) (E:XK),Room k (A.deeper (envOfC x (ao st) s.heap.objs.size f cdv))->
  ∃t,DSs (bI CX0 P w K mg base N x (ao st) f cdv A outer s H E).nox (bw st) t/\∀a M Q,C a M Q->t { nx:=fun _ M'=>Ret Q .non M',rt:=Ret Q } (fP N [a]) M)
 (hb:∀(kV doc pm:G0) (an:Option Addr) (cdv ct a:G0),bindArgs (Ie x x (b7 st) (bw st) (ao st) .none kV doc pm an cdv ct) ⟨[a],[]⟩=pure ([p].zip [a]):=by intros;rfl):Cal P w K mg base (k+1) x (sD1 C):=by
 refine vn T S (fun kV doc pm an cdv ct us hl=>?_) (fun ds M Q h=>?_) fun f cdv A outer s H E hr=>?_
 ·match us,hl with
  |[_],_=>exact hb ..
 ·unfold sD1 at h
  split at h
  ·rfl
  ·exact h.elim
 ·obtain⟨t,h,hq⟩:=body f cdv A outer s H E hr
  refine⟨t,h,fun ds M Q h=>?_⟩
  unfold sD1 at h
  split at h
  ·exact hq _ _ _ h
  ·exact h.elim
def sD2(C:D->D->MH->DK->Prop):SpD:=fun ds M Q=>match ds with
 |[a,b]=>C a b M Q
 |_=>False
theorem bW{p q:Str}{C:D->D->MH->DK->Prop}(T:Txt K mg x st)(S:FnScope N [p,q] (ao st))
 (body:∀(f:Addr) (cdv:G0) (A:He) (outer:List Env) (s:G3) (H:Hp) (E:XK),Room k (A.deeper (envOfC x (ao st) s.heap.objs.size f cdv))->
  ∃t,DSs (bI CX0 P w K mg base N x (ao st) f cdv A outer s H E).nox (bw st) t/\∀a b M Q,C a b M Q->t { nx:=fun _ M'=>Ret Q .non M',rt:=Ret Q } (fP N [a,b]) M)
 (hb:∀(kV doc pm:G0) (an:Option Addr) (cdv ct a b:G0),bindArgs (Ie x x (b7 st) (bw st) (ao st) .none kV doc pm an cdv ct) ⟨[a,b],[]⟩=pure ([p,q].zip [a,b]):=by intros;rfl):Cal P w K mg base (k+1) x (sD2 C):=by
 refine vn T S (fun kV doc pm an cdv ct us hl=>?_) (fun ds M Q h=>?_) fun f cdv A outer s H E hr=>?_
 ·match us,hl with
  |[_,_],_=>exact hb ..
 ·unfold sD2 at h
  split at h
  ·rfl
  ·exact h.elim
 ·obtain⟨t,h,hq⟩:=body f cdv A outer s H E hr
  refine⟨t,h,fun ds M Q h=>?_⟩
  unfold sD2 at h
  split at h
  ·exact hq _ _ _ _ h
  ·exact h.elim
def sD3(C:D->D->D->MH->DK->Prop):SpD:=fun ds M Q=>match ds with
 |[a,b,c]=>C a b c M Q
 |_=>False
theorem qu{p q r:Str}{C:D->D->D->MH->DK->Prop}(T:Txt K mg x st)(S:FnScope N [p,q,r] (ao st))
 (body:∀(f:Addr) (cdv:G0) (A:He) (outer:List Env) (s:G3) (H:Hp) (E:XK),Room k (A.deeper (envOfC x (ao st) s.heap.objs.size f cdv))->
  ∃t,DSs (bI CX0 P w K mg base N x (ao st) f cdv A outer s H E).nox (bw st) t/\∀a b c M Q,C a b c M Q->t { nx:=fun _ M'=>Ret Q .non M',rt:=Ret Q } (fP N [a,b,c]) M)
 (hb:∀(kV doc pm:G0) (an:Option Addr) (cdv ct a b c:G0),bindArgs (Ie x x (b7 st) (bw st) (ao st) .none kV doc pm an cdv ct) ⟨[a,b,c],[]⟩=pure ([p,q,r].zip [a,b,c]):=by intros;rfl):Cal P w K mg base (k+1) x (sD3 C):=by
 refine vn T S (fun kV doc pm an cdv ct us hl=>?_) (fun ds M Q h=>?_) fun f cdv A outer s H E hr=>?_
 ·match us,hl with
  |[_,_,_],_=>exact hb ..
 ·unfold sD3 at h
  split at h
  ·rfl
  ·exact h.elim
 ·obtain⟨t,h,hq⟩:=body f cdv A outer s H E hr
  refine⟨t,h,fun ds M Q h=>?_⟩
  unfold sD3 at h
  split at h
  ·exact hq _ _ _ _ _ h
  ·exact h.elim
end
end SD
namespace QQ
open PySem PySem.Spec PyProof.Rows L2 SD
def top(i:Nat):Stmt:=GI.main.body.getD i (.Pass ⟨0,0,0,0⟩)
abbrev g7:Stmt:=top 44
abbrev md:Stmt:=top 45
abbrev jM:Stmt:=top 48
abbrev jV:Stmt:=top 55
abbrev mw:Stmt:=top 56
abbrev mX:Stmt:=top 46
abbrev lD:Stmt:=top 49
abbrev kA:Stmt:=top 50
abbrev kY:Stmt:=top 51
abbrev qr:Stmt:=top 52
abbrev mr:Stmt:=top 53
abbrev fq:Stmt:=top 54
abbrev iI:Stmt:=top 47
abbrev lO:Stmt:=top 60
abbrev gr:Stmt:=top 57
abbrev gA:Stmt:=top 58
abbrev g6:Stmt:=top 59
abbrev iP:Stmt:=top 62
abbrev jS:Stmt:=top 61
abbrev lK:Stmt:=top 63
abbrev nA:Stmt:=top 66
abbrev m6:Stmt:=top 41
abbrev gY:Stmt:=top 36
abbrev l6:Stmt:=top 37
abbrev ee:Stmt:=top 10
abbrev mi:Stmt:=top 11
abbrev fV:Stmt:=top 38
abbrev iG:Stmt:=top 39
abbrev nB:Stmt:=top 16
abbrev lL:Stmt:=top 18
abbrev A4:Stmt:=top 23
abbrev ya:Stmt:=top 24
abbrev m9:Stmt:=top 25
abbrev mj:Stmt:=top 19
abbrev iD:Stmt:=top 20
abbrev lH:Stmt:=top 21
abbrev ly:Stmt:=top 22
abbrev eF:Stmt:=top 29
abbrev xo:Stmt:=top 15
abbrev xJ:Stmt:=top 13
abbrev xA:Stmt:=top 12
abbrev uj:Stmt:=top 14
abbrev fh:Stmt:=top 31
abbrev fW:Stmt:=top 30
abbrev nG:Stmt:=top 28
abbrev d8:Stmt:=top 32
abbrev fY:Stmt:=top 33
abbrev jN:Stmt:=top 40
abbrev fm:Stmt:=top 42
abbrev jP:Stmt:=top 64
abbrev jR:Stmt:=top 65
abbrev Bj:Stmt:=top 67
abbrev mT:Stmt:=ug (top 7) 0
theorem rO:FnScope ["self","row"] ["self","row"] (ao mT):=⟨rfl,rfl,rfl,by decide,rfl,by decide,by decide⟩
local macro_rules | `(tactic| walk_at "sc") => `(tactic| exact ⟨rfl, rfl, rfl, by decide, rfl, by decide, by decide⟩)
theorem _root_.SD.Cal.m{P:GC}{w:Hd}{K:cc}{mg:Str->Option G0}{base:Heap}{j k:Nat}{x:Str}{sp:SpD}(h:Cal P w K mg base j x sp)(l:j<=k:=by decide):Cal P w K mg base k x sp:=h.mono l
structure Tx(K:cc)(mg:Str->Option G0):Prop where
 f_law_cell_at:Txt K mg "_law_cell_at" g7
 f_law_take:Txt K mg "_law_take" md
 f_law_scale:Txt K mg "_law_scale" jM
 f_law_shown:Txt K mg "_law_shown" jV
 f_law_rows:Txt K mg "_law_rows" mw
 f_law_low:Txt K mg "_law_low" mX
 f_law_spot:Txt K mg "_law_spot" lD
 f_law_made:Txt K mg "_law_made" kA
 f_law_turn:Txt K mg "_law_turn" kY
 f_law_on:Txt K mg "_law_on" qr
 f_law_fair:Txt K mg "_law_fair" mr
 f_law_shuts_here:Txt K mg "_law_shuts_here" fq
 f_law_number:Txt K mg "_law_number" iI
 f_law_bent:Txt K mg "_law_bent" lO
 f_law_is_whole:Txt K mg "_law_is_whole" gr
 f_law_fraction:Txt K mg "_law_fraction" gA
 f_law_shut_in:Txt K mg "_law_shut_in" g6
 f_law_before:Txt K mg "_law_before" iP
 f_law_cross:Txt K mg "_law_cross" jS
 f_law_fits:Txt K mg "_law_fits" lK
 f_law_due:Txt K mg "_law_due" nA
 f_rows_of:Txt K mg "rows_of" m6
 f_read_number:Txt K mg "read_number" gY
 f_read_top:Txt K mg "read_top" l6
 f_greatest_divisor:Txt K mg "greatest_divisor" ee
 f_fraction:Txt K mg "fraction" mi
 f_read_fraction:Txt K mg "read_fraction" fV
 f_read_spots:Txt K mg "read_spots" iG
 f_is_less:Txt K mg "is_less" nB
 f_is_ahead:Txt K mg "is_ahead" lL
 f_gap:Txt K mg "gap" A4
 f_lean:Txt K mg "lean" ya
 f_side_of:Txt K mg "side_of" m9
 f_later_of:Txt K mg "later_of" mj
 f_earlier_of:Txt K mg "earlier_of" iD
 f_own_spot:Txt K mg "own_spot" lH
 f_own_wall:Txt K mg "own_wall" ly
 f_meeting_in_line:Txt K mg "meeting_in_line" eF
 f_over:Txt K mg "over" xo
 f_less:Txt K mg "less" xJ
 f_plus:Txt K mg "plus" xA
 f_times:Txt K mg "times" uj
 f_number_between:Txt K mg "number_between" fh
 f_crossing_spot:Txt K mg "crossing_spot" fW
 f_meeting:Txt K mg "meeting" nG
 f_meet_as_in_plots:Txt K mg "meet_as_in_plots" d8
 f_first_crossed:Txt K mg "first_crossed" fY
 f_read_wall:Txt K mg "read_wall" jN
 f_read_questions:Txt K mg "read_questions" fm
 f_law_alone:Txt K mg "_law_alone" jP
 f_law_heard:Txt K mg "_law_heard" jR
 f_law:Txt K mg "law" Bj
 b_ValueError:mg "ValueError"=none
 b_abs:mg "abs"=none
 b_all:mg "all"=none
 b_any:mg "any"=none
 b_enumerate:mg "enumerate"=none
 b_int:mg "int"=none
 b_isinstance:mg "isinstance"=none
 b_len:mg "len"=none
 b_list:mg "list"=none
 b_max:mg "max"=none
 b_min:mg "min"=none
 b_range:mg "range"=none
 b_str:mg "str"=none
 b_tuple:mg "tuple"=none
 g_MOST_FIGURES:∃t,mg "MOST_FIGURES"=some (.int 30 t)
 g_MOST_WALLS:∃t,mg "MOST_WALLS"=some (.int 40 t)
 r_Absent:mg "Absent"=some (.ref (cl K "Absent"))
 r_Crossing:mg "Crossing"=some (.ref (cl K "Crossing"))
 r_NoFraction:mg "NoFraction"=some (.ref (cl K "NoFraction"))
 r_NoRow:mg "NoRow"=some (.ref (cl K "NoRow"))
 r_NoText:mg "NoText"=some (.ref (cl K "NoText"))
 r_NoWall:mg "NoWall"=some (.ref (cl K "NoWall"))
 r_SpotError:mg "SpotError"=some (.ref (cl K "SpotError"))
 r_TooMany:mg "TooMany"=some (.ref (cl K "TooMany"))
 e_SpotError:ClsE K "SpotError" (cl K "SpotError")
 eb_SpotError:Hk K (.ref (cl K "SpotError")) (.type "BaseException")=some true
 B_SpotError:ClsB K (cl K "SpotError")
 eb_NoText:Hk K (.ref (cl K "NoText")) (.type "BaseException")=some true
 es_NoText_SpotError:Hk K (.ref (cl K "NoText")) (.ref (cl K "SpotError"))=some true
 fn_NoText_row:PySem.W.findIn K (.ref (cl K "NoText")) "row"=some none
 hd_NoText:IJ K (cl K "NoText")=true
 m_NoText:∃fI fd,ClsI K (cl K "NoText") (cl K "SpotError") fI/\Fun K "__init__" "NoText.__init__" mT fI fd
 ek_NoText:ErrK K (cl K "NoText")
 kv_NoText:Hw K (.ref (cl K "NoText")) (.type "ValueError")=some true
 ki_NoText_Absent:Hw K (.ref (cl K "NoText")) (.ref (cl K "Absent"))=some false
 ki_NoText_Crossing:Hw K (.ref (cl K "NoText")) (.ref (cl K "Crossing"))=some false
 ki_NoText_NoFraction:Hw K (.ref (cl K "NoText")) (.ref (cl K "NoFraction"))=some false
 ki_NoText_NoRow:Hw K (.ref (cl K "NoText")) (.ref (cl K "NoRow"))=some false
 ki_NoText_NoText:Hw K (.ref (cl K "NoText")) (.ref (cl K "NoText"))=some true
 ki_NoText_NoWall:Hw K (.ref (cl K "NoText")) (.ref (cl K "NoWall"))=some false
 ki_NoText_TooMany:Hw K (.ref (cl K "NoText")) (.ref (cl K "TooMany"))=some false
variable{P:GC}{w:Hd}{K:cc}{mg:Str->Option G0}{base:Heap}
theorem vf(T:Tx K mg):MkE P w K mg base 1 "NoText" (cl K "NoText") ["row"]:=by obtain⟨fI,fd,M,F⟩:=T.m_NoText;refine⟨_,fI,fd,["self","row"],M,T.eb_NoText,F.ok (k:=0) (N:=["self","row"]) rO (fun vs H Q E h=>by obtain⟨a,ys,rfl,hl,_⟩:=h;simp[hl]) (fun cdv A outer s H vs Q E hr h=>⟨_,qo (uJ (AJ T.B_SpotError rfl T.r_SpotError (oZ (pv 0) (oZ (zX (iC (qH (by decide)) (iC (xM (pv 1)) (iC (qH (by decide)) parts_nil))) (by decide) rfl) xB)) (by decide) rfl rfl rfl)) (uh (zH (pv 0) (pv 1) rfl)),DU M T.fn_NoText_row rfl h (fun a y0 hy0=>⟨trivial,⟨_,rfl,rfl,hy0⟩,trivial,trivial⟩)⟩),F.binds (fun _ _ _ _ _ _ us hl=>match us,hl with|[_,_],_=>rfl),T.r_NoText⟩
theorem kZ:FnScope ["_law_script","_law_k"] ["_law_script","_law_k"] (ao g7):=by walk_at "sc"
inductive Cn_law_cell_at(x y:D)(M:MH)(Q:DK):Prop
 |mk (ns:_) (k:_) (_:x=.rol (Hz D.int ns)) (_:y=.int k) (_:0<=k) (_:∀z,Q (.int z) M)
theorem mK(T:Tx K mg):Cal P w K mg base 1 "_law_cell_at" (sD2 Cn_law_cell_at):=by
 refine bW (k:=0) T.f_law_cell_at kZ fun f cdv A outer s H E hr=>⟨_,(ai (aN (aA (eP hr.units) (dv 1) (aI sk rfl T.b_len cI (aa (dv 0) ae))) (aj (ax (av (dv 0) (dv 1)))) aD) (aj (ax af))),fun _ _ M Q h=>?_⟩;obtain⟨ns,k,rfl,rfl,hk,q⟩:=h;(repeat (first|refine⟨_,rfl,?_⟩|refine⟨trivial,?_⟩|refine⟨_,_,rfl,?_⟩|refine⟨rfl,?_⟩|refine⟨nbL rfl,?_⟩))
 refine br (fun hl=>?_) (fun _=>?_)
 ·have hl':k<(ns.length:Int):=by simpa using hl
  obtain⟨j,rfl⟩:∃j:Nat,k=(j:Int):=⟨k.toNat,by omega⟩;have hj:j<ns.length:=by omega
  refine⟨_,rfl,_,rfl,.int ns[j],fL (by simp[hj]),rtn (q _)⟩
 ·exact rtn (q 0)
theorem eL:FnScope ["_law_row","_law_base","_law_rest","_law_number_here"] ["_law_row","_law_base"] (ao md):=by walk_at "sc"
inductive Cn_law_take(y z:D)(M:MH)(Q:DK):Prop
 |mk (r:_) (b:_) (x:_) (c:_) (_:y=.ref r) (_:z=.int b) (_:M r=some (.lst [.int x,.int c])) (_:0<=c) (_:c<1000000) (_:0<b) (_:Bd 8000 b) (_:∀x' v,0<=v->v<b->Q (.int v) (au M r (.lst [.int x',.int (c+1)])))
theorem aF(T:Tx K mg):Cal P w K mg base 1 "_law_take" (sD2 Cn_law_take):=by
 refine bW (k:=0) T.f_law_take eL fun f cdv A outer s H E hr=>⟨_,(ai (cM (ar cb (av (dv 0) af) af) (sr (dv 0) af)) (ai (aN (aA (jr hr.units) (av (dv 0) af) (ar eV af af)) (ai (ay 2 eL.nd (ar cD (av (dv 0) af) (ar eV af af))) (ai (cM (ar cb (ar eV af af) (ar n6 (dv 2) (dv 1))) (sr (dv 0) af)) (aj (ax (ar jw (dv 2) (dv 1)))))) aD) (ai (ay 3 eL.nd (ar jw (ar cb (ar cb (ar cb (ar aG (av (dv 0) af) af) (ar aG (ar aG af (av (dv 0) af)) (av (dv 0) af))) (ar aG af (av (dv 0) af))) af) af)) (ai (ay 3 eL.nd (ar jw (ar cb (ar cb (ar aG (dv 3) (dv 3)) (ar aG af (dv 3))) (av (dv 0) af)) af)) (aj (ax (ar jw (ar n6 (dv 3) af) (dv 1)))))))),fun _ _ M Q h=>?_⟩;obtain⟨r,b,x,c,rfl,rfl,hM,hc0,hc1,hb,hbd,q⟩:=h;have hc64:Bd 64 (c+1):=by show(c+1).natAbs<2^64;omega
 have hb0:b≠0:=by omega
 have hm:∀n:Int,0<=n.fmod b/\n.fmod b<b:=fun n=>⟨Int.fmod_nonneg_of_pos _ hb,Int.fmod_lt_of_pos _ hb⟩;refine⟨_,rfl,_,_,hM,rfl,?_⟩;refine⟨_,rfl,_,_,hM,rfl,?_⟩;refine⟨_,rfl,_,_,ag,rfl,⟨by decide,by decide,by decide⟩,trivial,_,rfl,?_⟩;refine br (fun h=>?_) (fun h=>?_)
 ·refine⟨_,rfl,_,_,ag,rfl,⟨by decide,by decide,by decide⟩,trivial,?_⟩;refine⟨⟨by decide,by decide,by decide⟩,_,rfl,_,rfl,⟨hb0,hbd⟩,_,rfl,_,_,ag,rfl,?_⟩;refine⟨_,rfl,_,rfl,hb0,?_⟩;rw[cP];exact rtn (q _ _ (hm _).1 (hm _).2)
 ·refine⟨_,rfl,_,_,ag,rfl,j8 (by decide),?_⟩;refine⟨_,rfl,_,_,ag,rfl,bN (by decide),?_⟩;refine⟨_,rfl,_,_,ag,rfl,j8 hc64,?_⟩;refine⟨_,rfl,_,_,ag,rfl,bN (by decide),(show(2147483399:Int)≠0 by decide),?_⟩
  have hn:∀n:Int,Bd 64 (n.fmod 2147483399):=fun n=>by
   have h1:=Int.fmod_nonneg_of_pos n (show(0:Int)<2147483399 by decide)
   have h2:=Int.fmod_lt_of_pos n (show(0:Int)<2147483399 by decide)
   show(n.fmod 2147483399).natAbs<2^64
   omega
  refine⟨_,rfl,_,rfl,bN (hn _),_,rfl,bN (by decide),_,rfl,_,_,ag,rfl,(show(2147483647:Int)≠0 by decide),?_⟩;refine⟨_,rfl,⟨by decide,cG (by decide)⟩,_,rfl,hb0,?_⟩;exact rtn (q _ _ (hm _).1 (hm _).2)
theorem dQ:FnScope ["_law_row","_law_top","_law_bottom","_law_far"] ["_law_row"] (ao jM):=by walk_at "sc"
inductive Cn_law_scale(u:D)(M:MH)(Q:DK):Prop
 |mk (r:Addr) (x c:Int) (_:u=.ref r) (_:M r=some (.lst [.int x,.int c])) (_:0<=c) (_:c<900000) (_:∀x' c' t b p q,Scl t b p q->0<=c'->c'<=c+10->Q (scl t b p q) (au M r (.lst [.int x',.int c'])))
theorem qQ(T:Tx K mg):Cal P w K mg base 2 "_law_scale" (sD1 Cn_law_scale):=by
 refine eJ (k:=1) T.f_law_scale dQ fun f cdv A outer s H E hr=>⟨_,(ai (eQ 1 2 rfl dQ.nd (aa (ar cb af (ak (aF T).m hr (aa (dv 0) (aa af ae)))) (aa (ar cb af (ak (aF T).m hr (aa (dv 0) (aa af ae)))) ae))) (ai (aN (aA (fo hr.units) (ak (aF T).m hr (aa (dv 0) (aa af ae))) af) (aj (eQ 1 2 rfl dQ.nd (aa (ar cb af (ak (aF T).m hr (aa (dv 0) (aa (ar eV af af) ae)))) (aa (ar cb af (ak (aF T).m hr (aa (dv 0) (aa (ar eV af af) ae)))) ae)))) aD) (ai (ay 3 dQ.nd (av (aS (aa af (aa (ar eV af af) ae))) (aV jx rfl T.b_int de (aa (bX (fo hr.units) (ak (aF T).m hr (aa (dv 0) (aa af ae))) af) ae)))) (aj (ax (aH (aa (dv 1) (aa (dv 2) (aa (ar aG (dv 3) (ar cD (ak (aF T).m hr (aa (dv 0) (aa af ae))) af)) (aa (ar aG (dv 3) (ar cD (ak (aF T).m hr (aa (dv 0) (aa af ae))) af)) ae)))))))))),fun _ M Q h=>?_⟩;obtain⟨r,x,c,rfl,hM,hc0,hc1,k⟩:=h;refine⟨_,rfl,r,6,x,c,rfl,rfl,hM,hc0,by omega,by decide,cG (by decide),fun x1 v1 h10 h11=>?_⟩;refine⟨_,rfl,r,6,x1,c+1,rfl,rfl,ag,by omega,by omega,by decide,cG (by decide),fun x2 v2 h20 h21=>?_⟩;refine⟨_,_,rfl,?_⟩;(try dsimp only[SD.aK])
 refine aT (fun δ M'=>∃x c' t b o3,0<=c'/\c'<=c+5/\(0<t/\t<=10^9/\0<b/\b<=10^9)/\M'=au M r (.lst [.int x,.int c'])/\δ=[some (.ref r),some (.int t),some (.int b),o3]) ?_ (fun hu=>?_);rotate_left
 ·refine⟨_,rfl,r,4,x2,c+1+1,rfl,rfl,ag,by omega,by omega,by decide,cG (by decide),fun x3 v3 h30 h31=>⟨_,rfl,?_⟩⟩;refine br (fun _=>?_) (fun _=>?_)
  ·refine⟨_,rfl,⟨by decide,by decide,by decide⟩,r,10^9,x3,c+1+1+1,rfl,rfl,ag,by omega,by omega,by decide,cG (by decide),fun x4 v4 h40 h41=>?_⟩;refine⟨_,rfl,⟨by decide,by decide,by decide⟩,r,10^9,x4,c+1+1+1+1,rfl,rfl,ag,by omega,by omega,by decide,cG (by decide),fun x5 v5 h50 h51=>?_⟩;refine⟨_,_,rfl,hu _ _ ⟨x5,c+1+1+1+1+1,1+v4,1+v5,none,by omega,by omega,by omega,?_,rfl⟩⟩;simp only[cP]
  ·refine hu _ _ ⟨x3,c+1+1+1,1+v1,1+v2,none,by omega,by omega,by omega,?_,rfl⟩;simp only[cP]
 rintro δ M' ⟨x,c',t,b,o3,hc0',hc1',hb,rfl,rfl⟩;refine⟨⟨by decide,by decide,by decide⟩,nbL rfl,fun p hp=>?_⟩;have npr:r≠p:=aC ag hp;refine⟨_,rfl,r,6,x,c',rfl,rfl,(by rw[aq npr,ag]),by omega,by omega,by decide,cG (by decide),fun x6 v6 h60 h61=>?_⟩
 have hf:∃f:Int,atI [D.int 1,D.int (10^15)] (if decide (v6=0)=true then 1 else 0)=some (.int f)/\1<=f/\f<=10^15:=by
  by_cases z:v6=0
  ·exact⟨10^15,by rw[if_pos (by simpa using z)];rfl,by decide,by decide⟩
  ·exact⟨1,by rw[if_neg (by simpa using z)];rfl,by decide,by decide⟩
 obtain⟨f,ef,hf0,hf1⟩:=hf;refine⟨_,_,(by rw[aq npr.symm,ag];rfl),ef,?_⟩;have bf:Bd 64 f:=by show f.natAbs<2^64;omega
 refine⟨_,rfl,_,rfl,_,rfl,_,rfl,r,41,x6,c'+1,rfl,rfl,ag,by omega,by omega,by decide,cG (by decide),fun x7 v7 h70 h71=>⟨trivial,bN bf,?_⟩⟩;refine⟨_,rfl,_,rfl,r,41,x7,c'+1+1,rfl,rfl,ag,by omega,by omega,by decide,cG (by decide),fun x8 v8 h80 h81=>⟨trivial,bN bf,nbL rfl,?_⟩⟩
 have bnd:∀v:Int,0<=v->v<41->-(10^17)<=f*(v-20)/\f*(v-20)<=10^17:=fun v a b=>by
  have h1:f*(v-20)<=f*20:=IG (by omega) (by omega)
  have h2:f*(-20)<=f*(v-20):=IG (by omega) (by omega)
  omega
 have q7:=bnd v7 h70 h71;have q8:=bnd v8 h80 h81;refine⟨au M r (.lst [.int x8,.int (c'+1+1+1)]),?_,k _ _ _ _ _ _ ⟨hb.1,hb.2.1,hb.2.2.1,hb.2.2.2,q7.1,q7.2,q8.1,q8.2⟩ (by omega) (by omega)⟩;simp only[cP];refine .ES ?_;intro a o ne e;have:a≠p:=fun z=>by subst z;rw[aq ne]at hp;rw[hp]at e;cases e
 rw[aq this,aq ne];exact e
theorem pQ:FnScope ["_law_one"] ["_law_one"] (ao jV):=by walk_at "sc"
inductive Cn_law_shown(x:D)(M:MH)(Q:DK):Prop
 |mk (a b:Int) (_:x=.tup [.int a,.int b]) (_:Bd 900 a) (_:Bd 900 b) (_:Q (.str (sF a b)) M)
theorem gm(T:Tx K mg):Cal P w K mg base 1 "_law_shown" (sD1 Cn_law_shown):=by
 refine eJ (k:=0) T.f_law_shown pQ fun f cdv A outer s H E hr=>⟨_,(aj (ax (ar aO (aV tM rfl T.b_str yM (aa (aX (dv 0) af) ae)) (aX (aS (aa (ar aO aE (aV tM rfl T.b_str yM (aa (aX (dv 0) af) ae))) (aa aE ae))) (aV dJ rfl T.b_int de (aa (bX (bj hr.units) (aX (dv 0) af) af) ae)))))),fun _ M Q h=>?_⟩;obtain⟨a,b,rfl,ha,hb,k⟩:=h;have h1:=gI (k:=899) (pO ha);have h2:=gI (k:=899) (pO hb);have b1:Bd 1900 a:=ha.mono (by decide);have b2:Bd 1900 b:=hb.mono (by decide);have sz:100000<=Gp:=nbL rfl;have l1:(⟨#[47]⟩:Str).length=1:=rfl;refine⟨_,rfl,_,rfl,b1,_,rfl,_,rfl,b2,(by rw[eN,l1];omega),nbL rfl,fun p hp=>⟨_,rfl,_,rfl,?_⟩⟩;rw[eN,jA];by_cases e:b=1
 ·have k:Q (.str (iT a)) M:=by unfold sF at k;rw[if_pos e]at k;exact k
  refine⟨_,.str Ih,ag,(by rw[decide_eq_true e];rfl),(by show(iT a).length+0<=Gp;omega),M,.new hp .refl,?_⟩;rw[show iT a++Ih=iT a from bC (by rw[bO];exact Iq _)];exact k
 ·have k:Q (.str (iT a++⟨#[47]⟩++iT b)) M:=by unfold sF at k;rw[if_neg e]at k;exact k
  refine⟨_,.str (⟨#[47]⟩++iT b),ag,(by rw[decide_eq_false e];rfl),(by rw[len_app,l1];omega),M,.new hp .refl,?_⟩;rw[show iT a++(⟨#[47]⟩++iT b)=iT a++⟨#[47]⟩++iT b from bC (by rw[bO,bO,bO,bO,List.append_assoc])];exact k
theorem p7:FnScope ["_law_plot"] ["_law_plot"] (ao mw):=by walk_at "sc"
inductive Cn_law_rows(v:D)(M:MH)(Q:DK):Prop
 |mk (t b X Y:Int) (ws:List Wl) (_:yf M v (ws.map (rwl t b X Y))) (_:ws.length<=1000) (_:(∀w∈ws,∀q∈wQ t b X Y w,Ma.Bq 900 q)) (_:∀p,M p=none->Q (.ref p) (au M p (.lst ((ws.map (gC t b X Y)).map D.str))))
theorem kR(T:Tx K mg):Cal P w K mg base 2 "_law_rows" (sD1 Cn_law_rows):=by
 refine eJ (k:=1) T.f_law_rows p7 fun f cdv A outer s H E hr=>⟨_,(aj (ax (qD (CScope.of (xs:=["_law_first","_law_second"]) (js:=[]) rfl) rfl (cB (dv 0)) (fun _ _ _ _=>b8) (fun _ _ _ _=>(cR aE (aa (ar aO (aS (aa aE ae)) (eB (CScope.of (xs:=["_law_one"]) (js:=[]) rfl) rfl (cB (ar aO (dv 0) (dv 1))) (fun _ _ _ _=>b8) (fun _ _ _ _=>(ak (gm T).m hr (aa (dv 0) ae))))) ae)))))),fun _ M Q h=>?_⟩;obtain⟨t,b,X,Y,ws,hv,hl,hq,k⟩:=h;refine⟨_,rfl,_,hv,comp_map (fun i=>(((ws.map (gC t b X Y)).map D.str)[i]?).getD .non) (by show(ws.map (rwl t b X Y)).length<=1000000;simp;omega) (fun p ys hp=>u6 (.new hp .refl) hv) ?_ (fun p hp=>?_)⟩
 ·intro i d M2 hi hd sb;have hd:(ws.map (rwl t b X Y))[i]?=some d:=hd;rw[Gs]at hd;cases ew:ws[i]? with
  |none=>rw[ew]at hd;cases hd
  |some w=>
   rw[ew]at hd
   cases hd
   have hw:=hq w (GL ew)
   have h1:=hw _ (show Ma.ut t b X 1 w.1∈wQ t b X Y w by simp[wQ])
   have h2:=hw _ (show Ma.ut t b Y 1 w.2.1∈wQ t b X Y w by simp[wQ])
   have h3:=hw _ (show Ma.ut t b X 1 w.2.2.1∈wQ t b X Y w by simp[wQ])
   have h4:=hw _ (show Ma.ut t b Y 1 w.2.2.2∈wQ t b X Y w by simp[wQ])
   refine⟨_,⟨_,rfl,rfl,rfl⟩,fun K hK=>?_⟩
   have hK':∀M',SD.Sub M2 M'->K (.str (gC t b X Y w)) M':=fun M' s=>by
    have z:=hK M' s
    rw[List.map_map,getD_map ew]at z
    exact z
   refine⟨_,rfl,nbL rfl,fun p0 hp0=>?_⟩
   refine⟨_,rfl,_,rfl,(by simp),nbL rfl,_,rfl,comp_map (fun j=>((((wQ t b X Y w).map sQ).map D.str)[j]?).getD .non) (nbL rfl) (fun _ _ _=>rfl) ?_ (fun p1 hp1=>?_)⟩
   ·intro j e M3 hj he sb3;have hj:j<4:=hj;refine⟨_,rfl,fun K2 hK2=>?_⟩;have z:=hK2 M3 .refl;rcases(show j=0\/j=1\/j=2\/j=3 by omega)with rfl|rfl|rfl|rfl
    ·cases he;exact⟨_,rfl,_,_,rfl,h1.1,h1.2,z⟩
    ·cases he;exact⟨_,rfl,_,_,rfl,h2.1,h2.2,z⟩
    ·cases he;exact⟨_,rfl,_,_,rfl,h3.1,h3.2,z⟩
    ·cases he;exact⟨_,rfl,_,_,rfl,h4.1,h4.2,z⟩
   ·have np:p0≠p1:=fun z=>by subst z;rw[ag]at hp1;cases hp1
    refine⟨_,_,(by rw[aq np,ag]),ag,nbL rfl,fun q hq2=>⟨q,G1 "wall"::(wQ t b X Y w).map sQ,rfl,ag,?_,?_⟩⟩
    ·unfold JoinOk;rw[StrLaws.joinFits (B:=2000) (fun y hy=>?_) (nbL rfl)]
     ·rfl
     ·rcases GO.mp hy with rfl|hy
      ·rw[bg,oR];decide
      ·obtain⟨r,hr,rfl⟩:=Ig.mp hy;exact Cc (hw r hr).1 (hw r hr).2
    ·rw[dB];exact hK' _ (.new hq2 (.new hp1 (.new hp0 .refl)))
 ·have e:=SD.range_getD ((ws.map (gC t b X Y)).map D.str);rw[G7,G7]at e;dsimp only;rw[G7,e];exact rtn (k p hp)
theorem eA:FnScope ["_law_top","_law_bottom","_law_one","_law_other"] ["_law_top","_law_bottom"] (ao mX):=by walk_at "sc"
inductive Cn_law_low(x y:D)(M:MH)(Q:DK):Prop
 |mk (t:_) (b:_) (_:x=.int t) (_:y=.int b) (_:b≠0) (_:Bd 8000 t) (_:Bd 8000 b) (_:Q (Ma.fr (Rat.divInt t b)) M)
theorem gT(T:Tx K mg):Cal P w K mg base 1 "_law_low" (sD2 Cn_law_low):=by
 refine bW (k:=0) T.f_law_low eA fun f cdv A outer s H E hr=>⟨_,(ai (ay 2 eA.nd (aI oB rfl T.b_abs ot (aa (dv 0) ae))) (ai (ay 3 eA.nd (aI oB rfl T.b_abs ot (aa (dv 1) ae))) (ai (qF HE (aA (nE hr.units) (dv 3) af) (aj (eQ 2 3 rfl eA.nd (aa (dv 3) (aa (ar jw (dv 2) (dv 3)) ae))))) (ai (aN (aA (eP hr.units) (dv 1) af) (aj (ay 2 eA.nd (ql ji (dv 2)))) aD) (aj (ax (aH (aa (ar n6 (dv 0) (dv 2)) (aa (ar n6 (dv 1) (dv 2)) ae))))))))),fun _ _ M Q h=>?_⟩;obtain⟨t,b,rfl,rfl,hb,ht,hbb,q⟩:=h;refine⟨_,rfl,_,rfl,?_⟩;have hg:=Ma.uk (t:=t) hb;have hgd:Bd 8000 ((Nat.gcd t.natAbs b.natAbs:Nat):Int):=hbb.of_le (by simpa using Nat.gcd_le_right t.natAbs (show 0<b.natAbs by omega));refine⟨fun m δ M'=>M'=M/\∃x y:Nat,δ=[some (.int t),some (.int b),some (.int x),some (.int y)]/\Nat.gcd x y=Nat.gcd t.natAbs b.natAbs/\m=y,⟨_,rfl,_,_,rfl,rfl,rfl⟩,?_⟩;rintro m δ M' ⟨rfl,x,y,rfl,hxy,hm⟩;refine⟨_,rfl,_,rfl,?_⟩;refine br (fun h=>?_) (fun h=>?_)
 ·have hy:(y:Int)≠0:=by simpa using h
  refine⟨_,rfl,_,rfl,_,rfl,hy,_,_,rfl,?_⟩;have hy':0<y:=by omega
  refine⟨x%y,by rw[hm];exact Nat.mod_lt _ hy',rfl,y,x%y,?_,?_,rfl⟩
  ·rw[<-Ma.tI];rfl
  ·rw[<-hxy,Nat.gcd_comm x y,Nat.gcd_rec y x,Nat.gcd_comm]
 ·have hy:y=0:=by simpa using h
  subst hy;rw[Nat.gcd_zero_right]at hxy;subst hxy;(repeat (first|refine⟨_,rfl,?_⟩|refine⟨trivial,?_⟩|refine⟨_,_,rfl,?_⟩|refine⟨rfl,?_⟩|refine⟨nbL rfl,?_⟩))
  refine br (fun h=>?_) (fun h=>?_)
  ·have hneg:b<0:=by simpa using h
   obtain⟨e1,e2⟩:=Ma.tY (t:=t) hneg;refine⟨_,rfl,_,rfl,_,rfl,⟨by omega,hgd.neg⟩,_,rfl,_,rfl,⟨by omega,hgd.neg⟩,nbL rfl,?_⟩;dsimp only;rw[e1,e2];exact rtn q
  ·have hpos:0<b:=by
    have:¬b<0:=by simpa using h
    omega
   obtain⟨e1,e2⟩:=Ma.uG (t:=t) hpos;refine⟨_,rfl,_,rfl,⟨by omega,hgd⟩,_,rfl,_,rfl,⟨by omega,hgd⟩,nbL rfl,?_⟩;dsimp only;rw[e1,e2];exact rtn q
theorem dz:FnScope ["_law_scale_here","_law_unit","_law_top","_law_bottom","_law_x","_law_y"] ["_law_scale_here","_law_unit"] (ao lD):=by walk_at "sc"
inductive Cn_law_spot(s v:D)(M:MH)(Q:DK):Prop
 |mk (t b x y p q:Int) (_:s=scl t b x y) (_:v=.tup [.int p,.int q]) (_:Scl t b x y) (_:(-(10^6)<=p/\p<=10^6)) (_:(-(10^6)<=q/\q<=10^6)) (_:Q (Ma.spt (Ma.ut t b x 1 p) (Ma.ut t b y 1 q)) M)
theorem kL(T:Tx K mg):Cal P w K mg base 2 "_law_spot" (sD2 Cn_law_spot):=by
 refine bW (k:=1) T.f_law_spot dz fun f cdv A outer s H E hr=>⟨_,(ai (cM (dv 0) (bH rfl (aw (aB 2 dz.nd) (aw (aB 3 dz.nd) (aw (aB 4 dz.nd) (aw (aB 5 dz.nd) ba)))))) (aj (ax (aH (aa (ak (gT T).m hr (aa (ar cb (ar aG (av (dv 1) af) (dv 2)) (dv 4)) (aa (dv 3) ae))) (aa (ak (gT T).m hr (aa (ar cb (ar aG (av (dv 1) af) (dv 2)) (dv 5)) (aa (dv 3) ae))) ae)))))),fun _ _ M Q h=>?_⟩;obtain⟨t,b,x,y,p,q,rfl,rfl,S,hp,hq,k⟩:=h;have bt:Bd 64 t:=by have:=S.t0;have:=S.t1;show t.natAbs<2^64;omega
 have bp:∀{z:Int},(-(10^6)<=z/\z<=10^6)->Bd 64 z:=fun{z} h=>by show z.natAbs<2^64;omega
 have bb:Bd 8000 b:=by have:=S.b0;have:=S.b1;exact cG (by omega)
 have big:∀{z w:Int},(-(10^6)<=z/\z<=10^6)->(-(10^17)<=w/\w<=10^17)->Bd 8000 (z*t+w):=fun{z w} h1 h2=>by
  have e1:Bd 128 (z*t):=(bp h1).mul bt
  have e2:Bd 128 w:=cG (by omega)
  exact(e1.add e2).mono (by decide)
 have hb0:b≠0:=by have:=S.b0;omega
 refine⟨_,rfl,_,rfl,rfl,_,_,rfl,_,_,rfl,_,_,rfl,_,_,rfl,rfl,?_⟩;refine⟨_,rfl,_,rfl,_,rfl,j8 bt,_,rfl,_,rfl,p*t+x,b,rfl,rfl,hb0,big hp ⟨S.x0,S.x1⟩,bb,?_⟩;refine⟨_,rfl,_,rfl,_,rfl,j8 bt,_,rfl,_,rfl,q*t+y,b,rfl,rfl,hb0,big hq ⟨S.y0,S.y1⟩,bb,nbL rfl,?_⟩;rw[Ma.oX,Ma.oX];exact rtn k
theorem qI:FnScope ["_law_scale_here","_law_shuts"] ["_law_scale_here","_law_shuts"] (ao kA):=by walk_at "sc"
inductive Cn_law_made(s v:D)(M:MH)(Q:DK):Prop
 |mk (t b x y:Int) (l:Addr) (ws:List (Int×Int×Int×Int)) (_:s=scl t b x y) (_:v=.ref l) (_:M l=some (.lst (ws.map uw))) (_:Scl t b x y) (_:ws.length<=1000) (_:(∀w∈ws,Uok (10^6) w)) (_:Q (.tup (ws.map (rwl t b x y))) M)
theorem td(T:Tx K mg):Cal P w K mg base 3 "_law_made" (sD2 Cn_law_made):=by
 refine bW (k:=2) T.f_law_made qI fun f cdv A outer s H E hr=>⟨_,(aj (ax (aV iV rfl T.b_tuple iZ (aa (qD (CScope.of (xs:=["_law_first","_law_second"]) (js:=[0]) rfl) rfl (cB (dv 1)) (fun _ _ _ _=>b8) (fun _ _ _ _=>(aH (aa (ak (kL T).m hr (aa (dv 2) (aa (dv 0) ae))) (aa (ak (kL T).m hr (aa (dv 2) (aa (dv 1) ae))) ae))))) ae)))),fun _ _ M Q h=>?_⟩;obtain⟨t,b,x,y,l,ws,rfl,rfl,hM,S,hl,hw,k⟩:=h;refine⟨_,rfl,ws.map uw,hM,comp_map (fun i=>((ws.map (rwl t b x y))[i]?).getD .non) (by simp;omega) (fun p ys hp=>?_) ?_ (fun p hp=>⟨_,ag,?_⟩)⟩
 ·show(au M p _) l=_;rw[aq (aC hM hp)];exact hM
 ·intro i e M' hi he _;have he:(ws.map uw)[i]?=some e:=he;rw[Gs]at he;cases ew:ws[i]? with
  |none=>rw[ew]at he;cases he
  |some w=>
   rw[ew]at he
   cases he
   obtain⟨u1,u2,u3,u4⟩:=hw w (GL ew)
   refine⟨_,⟨_,rfl,rfl,rfl⟩,fun K hK=>?_⟩
   have hK':=hK M' .refl
   rw[getD_map ew]at hK'
   refine⟨_,rfl,_,rfl,t,b,x,y,w.1,w.2.1,rfl,rfl,S,u1,u2,?_⟩
   exact⟨_,rfl,_,rfl,t,b,x,y,w.2.2.1,w.2.2.2,rfl,rfl,S,u3,u4,nbL rfl,hK'⟩
 ·refine⟨_,.new hp .refl,?_⟩
  have e:(HD (ws.map uw).length).map (fun i=>((ws.map (rwl t b x y))[i]?).getD .non)=ws.map (rwl t b x y):=by
   have:=SD.range_getD (ws.map (rwl t b x y))
   rw[G7]at this ⊢
   exact this
  dsimp only;rw[e];exact k
theorem eK:FnScope ["_law_one","_law_two","_law_three","_law_far","_law_beside","_law_found"] ["_law_one","_law_two","_law_three"] (ao kY):=by walk_at "sc"
inductive Cn_law_turn(u v w:D)(M:MH)(Q:DK):Prop
 |mk (a b c d e f:Int) (_:u=.tup [.int a,.int b]) (_:v=.tup [.int c,.int d]) (_:w=.tup [.int e,.int f]) (_:Bd 6 a) (_:Bd 6 b) (_:Bd 6 c) (_:Bd 6 d) (_:Q (.int (GW (crs (c-a) (d-b) (e-a) (f-b)))) M)
theorem iu(T:Tx K mg):Cal P w K mg base 1 "_law_turn" (sD3 Cn_law_turn):=by
 refine qu (k:=0) T.f_law_turn eK fun f cdv A outer s H E hr=>⟨_,(ai (ay 3 eK.nd (aH (aa (ar cD (av (dv 1) af) (av (dv 0) af)) (aa (ar cD (av (dv 1) af) (av (dv 0) af)) ae)))) (ai (ay 4 eK.nd (aH (aa (ar cD (av (dv 2) af) (av (dv 0) af)) (aa (ar cD (av (dv 2) af) (av (dv 0) af)) ae)))) (ai (ay 5 eK.nd (ar cD (ar aG (av (dv 3) af) (av (dv 4) af)) (ar aG (av (dv 3) af) (av (dv 4) af)))) (aj (ax (ar cD (aV jx rfl T.b_int de (aa (bX (iq hr.units) (dv 5) af) ae)) (aV jx rfl T.b_int de (aa (bX (eP hr.units) (dv 5) af) ae)))))))),fun _ _ _ M Q h=>?_⟩;obtain⟨a,b,c,d,e,f,rfl,rfl,rfl,ha,hb,hc,hd,k⟩:=h;refine⟨_,rfl,_,rfl,_,rfl,_,rfl,trivial,_,rfl,_,rfl,_,rfl,_,rfl,trivial,nbL rfl,?_⟩;refine⟨_,rfl,_,rfl,_,rfl,_,rfl,trivial,_,rfl,_,rfl,_,rfl,_,rfl,trivial,nbL rfl,?_⟩;refine⟨_,rfl,_,rfl,_,rfl,_,rfl,bN ((hc.sub ha).mono (by decide)),_,rfl,_,rfl,_,rfl,_,rfl,bN ((hd.sub hb).mono (by decide)),trivial,?_⟩;refine⟨_,rfl,trivial,_,rfl,trivial,trivial,?_⟩
 have e1:(if decide (0<(c-a)*(f-b)-(d-b)*(e-a))=true then(1:Int)else 0)-(if decide ((c-a)*(f-b)-(d-b)*(e-a)<0)=true then(1:Int)else 0)=GW (crs (c-a) (d-b) (e-a) (f-b)):=by
  unfold crs;generalize (c-a)*(f-b)-(d-b)*(e-a)=z;rcases Ht z 0 with h|h|h
  ·rw[GK h,if_neg (by simp;omega),if_pos (by simpa using h)];rfl
  ·subst h;rfl
  ·rw[GY h,if_pos (by simpa using h),if_neg (by simp;omega)];rfl
 dsimp only;rw[e1];exact rtn k
theorem vP:FnScope ["_law_shut","_law_spot_here"] ["_law_shut","_law_spot_here"] (ao qr):=by walk_at "sc"
inductive Cn_law_on(u v:D)(M:MH)(Q:DK):Prop
 |mk (w:Wl) (x y:Int) (_:u=uw w) (_:v=.tup [.int x,.int y]) (_:Un5 w) (_:(0<=x/\x<=20)) (_:(0<=y/\y<=20)) (_:Q (.bl (decide (l1 w<=la x y)&&decide (la x y<=l2 w)&&decide (sd w x y=0))) M)
theorem xC(T:Tx K mg):Cal P w K mg base 2 "_law_on" (sD2 Cn_law_on):=by
 refine bW (k:=1) T.f_law_on vP fun f cdv A outer s H E hr=>⟨_,(aj (ax (lG (xD (jC hr.units) (jC hr.units) (av (dv 0) af) (dv 1) (av (dv 0) af)) (iA (bX (fo hr.units) (ak (iu T).m hr (aa (av (dv 0) af) (aa (av (dv 0) af) (aa (dv 1) ae)))) af))))),fun _ _ M Q h=>?_⟩;obtain⟨w,x,y,rfl,rfl,W,hx,hy,k⟩:=h;(try dsimp only[SD.bM,SD.bE,SD.aK,SD.bR,SD.bP,SD.bc,SD.bo,SD.tBD,SD.bQ])
 refine uX (decide (l1 w<=la x y)&&decide (la x y<=l2 w)) (decide (sd w x y=0)) (fun K hK=>?_) (fun _ K hK=>?_) (rtn k)
 ·refine⟨_,rfl,_,rfl,_,rfl,[w.1,w.2.1],[x,y],rfl,rfl,_,rfl,?_⟩;rw[A6 W.b hy];refine br (fun h=>?_) (fun h=>?_)
  ·refine⟨_,rfl,_,rfl,[x,y],[w.2.2.1,w.2.2.2],rfl,rfl,?_⟩;rw[A6 hy W.d];have h':decide (l1 w<=la x y)=true:=h;rw[h',Bool.true_and]at hK;exact hK
  ·have h':decide (l1 w<=la x y)=false:=eq_false_of_ne_true h;rw[h',Bool.false_and]at hK;exact hK
 ·refine⟨_,rfl,_,rfl,_,rfl,_,rfl,_,rfl,w.1,w.2.1,w.2.2.1,w.2.2.2,x,y,rfl,rfl,rfl,e7 W.a,e7 W.b,e7 W.c,e7 W.d,?_⟩;have e:decide (GW (crs (w.2.2.1-w.1) (w.2.2.2-w.2.1) (x-w.1) (y-w.2.1))=0)=decide (sd w x y=0):=by rw[decide_eq_decide];exact Int.sign_eq_zero_iff_zero
  try dsimp only
  show K (.bl (decide _)) _;rw[e];exact hK
theorem cS:FnScope ["_law_one","_law_other","_law_shut","_law_beside","_law_spot_here","_law_sides","_law_others"] ["_law_one","_law_other"] (ao mr):=by walk_at "sc"
inductive Cn_law_fair(u v:D)(M:MH)(Q:DK):Prop
 |mk (U V:Wl) (_:u=uw U) (_:v=uw V) (_:Un5 U) (_:Un5 V) (_:∀b:Bool,(b=true->Fair U V)->Q (.bl b) M)
theorem rX(T:Tx K mg):Cal P w K mg base 3 "_law_fair" (sD2 Cn_law_fair):=by
 refine bW (k:=2) T.f_law_fair cS fun f cdv A outer s H E hr=>⟨_,(ai (aN (aA (fo hr.units) (dv 0) (dv 1)) (aj (ax iJ)) aD) (ai (ft HE rfl (cB (aH (aa (aH (aa (dv 0) (aa (dv 1) ae))) (aa (aH (aa (dv 1) (aa (dv 0) ae))) ae)))) (bH rfl (aw (aB 2 cS.nd) (aw (aB 3 cS.nd) ba))) (aj (ft HE rfl (cB (dv 3)) (aB 4 cS.nd) (aj (aN (dF (dq (aA (me (oi hr)) (dv 4) (dv 2) (by with_unfolding_all rfl)) (c9 (cJ (ak (xC T).m hr (aa (dv 2) (aa (dv 4) ae))))))) (aj (ax iJ)) aD))))) (ai (eD 5 cS.nd (CScope.of (xs:=["_law_spot_here"]) (js:=[0]) rfl) rfl (cB (dv 1)) (fun _ _ _ _=>b8) (fun _ _ _ _=>(ak (iu T).m hr (aa (av (dv 1) af) (aa (av (dv 1) af) (aa (dv 0) ae)))))) (ai (eD 6 cS.nd (CScope.of (xs:=["_law_spot_here"]) (js:=[1]) rfl) rfl (cB (dv 0)) (fun _ _ _ _=>b8) (fun _ _ _ _=>(ak (iu T).m hr (aa (av (dv 1) af) (aa (av (dv 1) af) (aa (dv 0) ae)))))) (aj (ax (tE (bX (jr hr.units) (ar aG (av (dv 5) af) (av (dv 5) af)) af) (iA (bX (jr hr.units) (ar aG (av (dv 6) af) (av (dv 6) af)) af))))))))),fun _ _ M Q h=>?_⟩;obtain⟨U,V,rfl,rfl,HU,HV,k⟩:=h;refine⟨_,rfl,_,rfl,_,_,Pd.of rfl,Pd.of rfl,rfl,rfl,_,rfl,?_⟩;refine br (fun h=>rtn (k false (fun z=>absurd z G5))) (fun h=>?_);have hne:¬(l1 U=l1 V/\l2 U=l2 V):=fun⟨z1,z2⟩=>by apply h;obtain⟨a1,a2⟩:=yI HU.b HV.b z1;obtain⟨a3,a4⟩:=yI HU.d HV.d z2;simp only[Hc,GV,ku,a1,a2,a3,a4];simp
 dsimp only[SD.bc];refine aT (fun δ M'=>M'=M/\(∃o2 o3 o4,δ=[some (uw U),some (uw V),o2,o3,o4,none,none])/\(cm U (l1 V) (sd1 U V)/\cm U (l2 V) (sd2 U V))/\(cm V (l1 U) (sd1 V U)/\cm V (l2 U) (sd2 V U))) ?_ (fun hu=>?_);rotate_left
 ·refine⟨_,rfl,_,rfl,nbL rfl,_,rfl,_,rfl,nbL rfl,nbL rfl,[.tup [uw U,uw V],.tup [uw V,uw U]],rfl,?_⟩;refine⟨fun i δ M'=>M'=M/\(∃o2 o3 o4,δ=[some (uw U),some (uw V),o2,o3,o4,none,none])/\(0<i->cm U (l1 V) (sd1 U V)/\cm U (l2 V) (sd2 U V))/\(1<i->cm V (l1 U) (sd1 V U)/\cm V (l2 U) (sd2 V U)),⟨rfl,⟨_,_,_,rfl⟩,fun z=>absurd z (by decide),fun z=>absurd z (by decide)⟩,fun _ _ _ _ _=>rfl,?_,?_⟩
  ·rintro i d δ M' hi hd ⟨rfl,⟨o2,o3,o4,rfl⟩,p1,p2⟩;have hi:i<2:=hi;have hd:[D.tup [uw U,uw V],.tup [uw V,uw U]][i]?=some d:=hd
   have pick:∃A B,d=.tup [uw A,uw B]/\Un5 A/\Un5 B/\((cm A (l1 B) (sd1 A B)/\cm A (l2 B) (sd2 A B))->(0<i+1->cm U (l1 V) (sd1 U V)/\cm U (l2 V) (sd2 U V))/\(1<i+1->cm V (l1 U) (sd1 V U)/\cm V (l2 U) (sd2 V U))):=by
    rcases(show i=0\/i=1 by omega)with rfl|rfl
    ·cases hd;exact⟨U,V,rfl,HU,HV,fun z=>⟨fun _=>z,fun y=>absurd y (by decide)⟩⟩
    ·cases hd;exact⟨V,U,rfl,HV,HU,fun z=>⟨fun _=>p1 (by decide),fun _=>z⟩⟩
   obtain⟨A,B,rfl,HA,HB,nxt⟩:=pick;refine⟨_,rfl,rfl,_,_,rfl,_,_,rfl,rfl,?_⟩;refine⟨_,rfl,[.tup [.int B.1,.int B.2.1],.tup [.int B.2.2.1,.int B.2.2.2]],rfl,?_⟩;refine⟨fun j δ M''=>M''=M'/\(∃o4,δ=[some (uw U),some (uw V),some (uw A),some (uw B),o4,none,none])/\(0<j->cm A (l1 B) (sd1 A B))/\(1<j->cm A (l2 B) (sd2 A B)),⟨rfl,⟨_,rfl⟩,fun z=>absurd z (by decide),fun z=>absurd z (by decide)⟩,fun _ _ _ _ _=>rfl,?_,?_⟩
   ·rintro j d δ M'' hj hd ⟨rfl,⟨o4,rfl⟩,q1,q2⟩;have hj:j<2:=hj;have hd:[D.tup [.int B.1,.int B.2.1],.tup [.int B.2.2.1,.int B.2.2.2]][j]?=some d:=hd
    have pk:∃x y,d=.tup [.int x,.int y]/\(0<=x/\x<=20)/\(0<=y/\y<=20)/\(cm A (la x y) (sd A x y)->(0<j+1->cm A (l1 B) (sd1 A B))/\(1<j+1->cm A (l2 B) (sd2 A B))):=by
     rcases(show j=0\/j=1 by omega)with rfl|rfl
     ·cases hd;exact⟨_,_,rfl,HB.a,HB.b,fun z=>⟨fun _=>z,fun y=>absurd y (by decide)⟩⟩
     ·cases hd;exact⟨_,_,rfl,HB.c,HB.d,fun z=>⟨fun _=>q1 (by decide),fun _=>z⟩⟩
    obtain⟨x,y,rfl,hx,hy,nx2⟩:=pk;(try dsimp only[SD.bM,SD.bE,SD.aK,SD.bR,SD.bP,SD.bc,SD.bo,SD.tBD,SD.bQ])
    refine l0 (!(decide (A.1=x/\A.2.1=y)||decide (A.2.2.1=x/\A.2.2.2=y))) (decide (l1 A<=la x y)&&decide (la x y<=l2 A)&&decide (sd A x y=0)) (fun K hK=>⟨_,rfl,_,rfl,BC _ A x y _ _ ⟨_,rfl,hK⟩⟩) (fun _ K hK=>⟨_,rfl,_,rfl,A,x,y,rfl,rfl,HA,hx,hy,_,rfl,hK⟩) ?_;refine br (fun _=>rtn (k false (fun z=>absurd z G5))) (fun h=>?_);exact⟨rfl,⟨_,rfl⟩,nx2 (xx HA hy (eq_false_of_ne_true h))⟩
   ·rintro δ M'' ⟨rfl,⟨o4,rfl⟩,q1,q2⟩;exact⟨rfl,⟨_,_,_,rfl⟩,nxt ⟨q1 (show 0<2 by decide),q2 (show 1<2 by decide)⟩⟩
  ·rintro δ M' ⟨rfl,⟨o2,o3,o4,rfl⟩,p1,p2⟩;exact hu _ _ ⟨rfl,⟨_,_,_,rfl⟩,p1 (show 0<2 by decide),p2 (show 1<2 by decide)⟩
 rintro δ M' ⟨rfl,⟨o2,o3,o4,rfl⟩,⟨e1,e2⟩,⟨e3,e4⟩⟩;refine⟨_,rfl,[.tup [.int V.1,.int V.2.1],.tup [.int V.2.2.1,.int V.2.2.2]],rfl,comp_map (fun j=>if j=0 then .int (GW (sd1 U V))else .int (GW (sd2 U V))) (nbL rfl) (fun _ _ _=>rfl) ?_ (fun p hp=>?_)⟩
 ·intro j e' M2 hj he' _;have hj:j<2:=hj;have he':[D.tup [.int V.1,.int V.2.1],.tup [.int V.2.2.1,.int V.2.2.2]][j]?=some e':=he';rcases(show j=0\/j=1 by omega)with rfl|rfl
  ·cases he';exact⟨_,rfl,fun K2 hK2=>⟨_,rfl,_,rfl,_,rfl,_,rfl,_,rfl,U.1,U.2.1,U.2.2.1,U.2.2.2,_,_,rfl,rfl,rfl,e7 HU.a,e7 HU.b,e7 HU.c,e7 HU.d,hK2 _ .refl⟩⟩
  ·cases he';exact⟨_,rfl,fun K2 hK2=>⟨_,rfl,_,rfl,_,rfl,_,rfl,_,rfl,U.1,U.2.1,U.2.2.1,U.2.2.2,_,_,rfl,rfl,rfl,e7 HU.a,e7 HU.b,e7 HU.c,e7 HU.d,hK2 _ .refl⟩⟩
 refine⟨_,rfl,[.tup [.int U.1,.int U.2.1],.tup [.int U.2.2.1,.int U.2.2.2]],rfl,comp_map (fun j=>if j=0 then .int (GW (sd1 V U))else .int (GW (sd2 V U))) (nbL rfl) (fun _ _ _=>rfl) ?_ (fun p2 hp2=>?_)⟩
 ·intro j e' M2 hj he' _;have hj:j<2:=hj;have he':[D.tup [.int U.1,.int U.2.1],.tup [.int U.2.2.1,.int U.2.2.2]][j]?=some e':=he';rcases(show j=0\/j=1 by omega)with rfl|rfl
  ·cases he';exact⟨_,rfl,fun K2 hK2=>⟨_,rfl,_,rfl,_,rfl,_,rfl,_,rfl,V.1,V.2.1,V.2.2.1,V.2.2.2,_,_,rfl,rfl,rfl,e7 HV.a,e7 HV.b,e7 HV.c,e7 HV.d,hK2 _ .refl⟩⟩
  ·cases he';exact⟨_,rfl,fun K2 hK2=>⟨_,rfl,_,rfl,_,rfl,_,rfl,_,rfl,V.1,V.2.1,V.2.2.1,V.2.2.2,_,_,rfl,rfl,rfl,e7 HV.a,e7 HV.b,e7 HV.c,e7 HV.d,hK2 _ .refl⟩⟩
 have n12:p≠p2:=aC ag hp2;have c1:(au (au M' p (.lst [.int (GW (sd1 U V)),.int (GW (sd2 U V))])) p2 (.lst [.int (GW (sd1 V U)),.int (GW (sd2 V U))])) p=some (.lst [.int (GW (sd1 U V)),.int (GW (sd2 U V))]):=by rw[aq n12,ag]
 (try dsimp only[SD.bM,SD.bE,SD.aK,SD.bR,SD.bP,SD.bc,SD.bo,SD.tBD,SD.bQ])
 refine orV (decide (0<=GW (sd1 U V)*GW (sd2 U V))) (decide (0<=GW (sd1 V U)*GW (sd2 V U))) (fun K hK=>⟨_,rfl,_,_,c1,rfl,_,rfl,_,_,c1,rfl,bN (Br _),trivial,hK⟩) (fun _ K hK=>⟨_,rfl,_,_,ag,rfl,_,rfl,_,_,ag,rfl,bN (Br _),trivial,hK⟩) ?_;refine⟨M',.new hp2 (.new hp .refl),k _ fun z=>⟨hne,e1,e2,e3,e4,?_⟩⟩;rw[Ja,decide_eq_true_eq,decide_eq_true_eq]at z;exact z
theorem bu:FnScope ["_law_row","_law_most","_law_size","_law_shuts","_law_turn_here","_law_one","_law_other","_law_shut"] ["_law_row","_law_most","_law_size"] (ao fq):=by walk_at "sc"
inductive Cn_law_shuts_here(u m n:D)(M:MH)(Q:DK):Prop
 |mk (r:Addr) (x c m':Int) (_:u=.ref r) (_:m=.int m') (_:(0<=m'/\m'<=12)) (_:n=.int 5) (_:M r=some (.lst [.int x,.int c])) (_:0<=c) (_:c<1000) (_:∀(M'':MH) (x' c':Int) (l:Addr) (ws:List Wl),r≠l->M'' r=some (.lst [.int x',.int c'])->M'' l=some (.lst (ws.map uw))->0<=c'->c'<=c+140->(ws.length:Int)<=m'->(∀w∈ws,Un5 w)->PF ws->Q (.ref l) M'')
theorem jE(T:Tx K mg):Cal P w K mg base 4 "_law_shuts_here" (sD3 Cn_law_shuts_here):=by
 refine qu (k:=3) T.f_law_shuts_here bu fun f cdv A outer s H E hr=>⟨_,(ai (ay 3 bu.nd (aS ae)) (ai (kr HE rfl rfl T.b_range (aa (ak (aF T).m hr (aa (dv 0) (aa (ar cb (dv 1) af) ae))) ae) (aB 4 bu.nd) (ai (ay 5 bu.nd (aH (aa (ak (aF T).m hr (aa (dv 0) (aa (dv 2) ae))) (aa (ak (aF T).m hr (aa (dv 0) (aa (dv 2) ae))) ae)))) (ai (ay 6 bu.nd (aH (aa (ak (aF T).m hr (aa (dv 0) (aa (dv 2) ae))) (aa (ak (aF T).m hr (aa (dv 0) (aa (dv 2) ae))) ae)))) (ai (aN (dF (dq (aA (nE hr.units) (dv 3) (aS ae)) (c9 (aA (iq hr.units) (ak (aF T).m hr (aa (dv 0) (aa af ae))) af)))) (aj (ay 5 bu.nd (av (av (dv 3) (ak (aF T).m hr (aa (dv 0) (aa (aI sk rfl T.b_len cI (aa (dv 3) ae)) ae)))) (ak (aF T).m hr (aa (dv 0) (aa af ae)))))) aD) (ai (ay 7 bu.nd (aH (aa (aI (uO rfl hr.units) rfl T.b_min yz (aa (dv 5) (aa (dv 6) ae))) (aa (aI (uE rfl hr.units) rfl T.b_max yY (aa (dv 5) (aa (dv 6) ae))) ae)))) (aj (aN (dF (dq (aA (nE hr.units) (dv 5) (dv 6)) (c9 (cJ (aI (yW rfl) rfl T.b_all xI (aa (eB (CScope.of (xs:=["_law_beside"]) (js:=[7]) rfl) rfl (cB (dv 3)) (fun _ _ _ _=>b8) (fun _ _ _ _=>(ak (rX T).m hr (aa (dv 1) (aa (dv 0) ae))))) ae)))))) (aj (du (bF (dv 3) (aa (dv 7) ae)))) aD))))))) (aj (ax (dv 3))))),fun _ _ _ M Q h=>?_⟩;obtain⟨r,x0,c0,m,rfl,rfl,hm,rfl,hM,hc0,hc1,k⟩:=h;refine⟨nbL rfl,fun l hl=>?_⟩;have nrl:r≠l:=aC hM hl;refine⟨_,rfl,_,rfl,r,m+1,x0,c0,rfl,rfl,(by rw[aq nrl];exact hM),hc0,by omega,by omega,cG (by omega),fun x1 v h0 h1=>?_⟩;refine⟨v.toNat,?_,by omega,fun i δ M'=>∃(x c:Int) (ws:List Wl) (o4 o5 o6 o7:Option D),δ=[some (.ref r),some (.int m),some (.int 5),some (.ref l),o4,o5,o6,o7]/\M' r=some (.lst [.int x,.int c])/\M' l=some (.lst (ws.map uw))/\0<=c/\c<=c0+1+10*i/\ws.length<=i/\(∀w∈ws,Un5 w)/\PF ws,?_,?_,?_⟩
 ·rw[Int.toNat_of_nonneg h0]
 ·refine⟨x1,c0+1,[],_,_,_,_,rfl,ag,(by rw[aq nrl.symm,ag];rfl),by omega,by omega,by decide,fun w hw=>absurd hw (by simp),Cy⟩
 rotate_left
 ·rintro δ M' ⟨x,c,ws,o4,o5,o6,o7,rfl,hr',hl',g0,g1,g2,g3,g4⟩;exact⟨_,rfl,rtn (k M' x c l ws nrl hr' hl' g0 (by omega) (by omega) g3 g4)⟩
 rintro i δ M' hi ⟨x,c,ws,o4,o5,o6,o7,rfl,hr',hl',g0,g1,g2,g3,g4⟩;have hi8:i<=12:=by omega
 refine⟨_,rfl,_,rfl,r,5,x,c,rfl,rfl,hr',g0,by omega,by decide,cG (by decide),fun x1 p hp0 hp1=>?_⟩;refine⟨_,rfl,_,rfl,r,5,x1,c+1,rfl,rfl,ag,by omega,by omega,by decide,cG (by decide),fun x2 q hq0 hq1=>⟨nbL rfl,?_⟩⟩;refine⟨_,rfl,_,rfl,r,5,x2,c+1+1,rfl,rfl,ag,by omega,by omega,by decide,cG (by decide),fun x3 e he0 he1=>?_⟩;refine⟨_,rfl,_,rfl,r,5,x3,c+1+1+1,rfl,rfl,ag,by omega,by omega,by decide,cG (by decide),fun x4 f hf0 hf1=>⟨nbL rfl,?_⟩⟩;have hl4:(au (au (au (au M' r (.lst [.int x1,.int (c+1)])) r (.lst [.int x2,.int (c+1+1)])) r (.lst [.int x3,.int (c+1+1+1)])) r (.lst [.int x4,.int (c+1+1+1+1)])) l=some (.lst (ws.map uw)):=by rw[aq nrl.symm,aq nrl.symm,aq nrl.symm,aq nrl.symm];exact hl'
 have hr4:(au (au (au (au M' r (.lst [.int x1,.int (c+1)])) r (.lst [.int x2,.int (c+1+1)])) r (.lst [.int x3,.int (c+1+1+1)])) r (.lst [.int x4,.int (c+1+1+1+1)])) r=some (.lst [.int x4,.int (c+1+1+1+1)]):=ag;generalize au (au (au (au M' r (.lst [.int x1,.int (c+1)])) r (.lst [.int x2,.int (c+1+1)])) r (.lst [.int x3,.int (c+1+1+1)])) r (.lst [.int x4,.int (c+1+1+1+1)])=M4 at hl4 hr4 ⊢;(try dsimp only[SD.aK])
 refine aT (fun δ M'=>∃(x c' p q:Int) (o7:Option D),δ=[some (.ref r),some (.int m),some (.int 5),some (.ref l),some (.int (i:Int)),some (.tup [.int p,.int q]),some (.tup [.int e,.int f]),o7]/\M' r=some (.lst [.int x,.int c'])/\M' l=some (.lst (ws.map uw))/\0<=c'/\c'<=c+10/\(0<=p/\p<=20)/\(0<=q/\q<=20)) ?_ (fun hu=>?_);rotate_left
 ·refine⟨_,rfl,nbL rfl,fun z hz=>?_⟩;have nrz:r≠z:=aC hr4 hz;have nlz:l≠z:=aC hl4 hz;have hl5:(au M4 z (.lst [])) l=some (.lst (ws.map uw)):=by rw[aq nlz];exact hl4
  have hr5:(au M4 z (.lst [])) r=some (.lst [.int x4,.int (c+1+1+1+1)]):=by rw[aq nrz];exact hr4
  refine⟨_,_,.lst hl5 (wO ws),.lst ag .nil,u7 ws,rfl,_,rfl,?_⟩;rw[rC];refine br (fun hne=>?_) (fun hnil=>?_)
  ·have hpos:0<ws.length:=by
    cases ws with
    |nil=>simp at hne
    |cons w ws=>simp
   refine⟨_,rfl,r,3,x4,c+1+1+1+1,rfl,rfl,hr5,by omega,by omega,by decide,cG (by decide),fun x5 v5 h50 h51=>⟨trivial,_,rfl,?_⟩⟩;have hl6:(au (au M4 z (.lst [])) r (.lst [.int x5,.int (c+1+1+1+1+1)])) l=some (.lst (ws.map uw)):=by rw[aq nrl.symm];exact hl5
   refine br (fun _=>?_) (fun _=>?_)
   ·refine⟨_,rfl,_,rfl,_,rfl,_,hl6,r,((ws.map uw).length:Int),x5,c+1+1+1+1+1,rfl,rfl,ag,by omega,by omega,by simpa using hpos,cG (by simp;omega),fun x6 v6 h60 h61=>?_⟩;obtain⟨w,hw,ew⟩:=zB (ws:=ws) h60 (by simpa using h61);have hw5:=g3 w hw;refine⟨_,_,(by rw[aq nrl.symm];exact hl6),ew,?_⟩;refine⟨_,rfl,r,2,x6,c+1+1+1+1+1+1,rfl,rfl,ag,by omega,by omega,by decide,cG (by decide),fun x7 v7 h70 h71=>?_⟩;obtain⟨a,b,ea,ha,hb⟩:=xE hw5 h70 h71;refine⟨_,ea,hu _ _ ⟨x7,_,a,b,_,rfl,ag,(by rw[aq nrl.symm,aq nrl.symm];exact hl6),by omega,by omega,ha,hb⟩⟩
   ·exact hu _ _ ⟨x5,_,p,q,_,rfl,ag,hl6,by omega,by omega,by omega,by omega⟩
  ·refine cu rfl ?_;exact hu _ _ ⟨x4,_,p,q,_,rfl,hr5,hl5,by omega,by omega,by omega,by omega⟩
 rintro δ M5 ⟨x5,c5,p,q,o7,rfl,hr5,hl5,k0,k1,hp,hq⟩;have he:0<=e/\e<=20:=by omega
 have hf:0<=f/\f<=20:=by omega
 refine⟨_,rfl,_,rfl,[p,q],[e,f],rfl,rfl,?_⟩;refine⟨_,rfl,_,rfl,[p,q],[e,f],rfl,rfl,nbL rfl,?_⟩;refine⟨_,rfl,_,rfl,_,_,Pd.of rfl,Pd.of rfl,rfl,rfl,_,rfl,?_⟩;rw[gP];refine br (fun hne=>?_) (fun _=>?_);rotate_left
 ·refine cu rfl ?_;exact⟨x5,c5,ws,_,_,_,_,rfl,hr5,hl5,k0,by omega,by omega,g3,g4⟩
 obtain⟨w,e1,e2,hw⟩:=vQ hp hq he hf (fun⟨a,b⟩=>by simp[a,b]at hne);rw[e1,e2];refine⟨_,rfl,ws.map uw,hl5,?_⟩;refine⟨by simp;omega,fun z hz=>?_⟩;have nrz:r≠z:=aC hr5 hz;have nlz:l≠z:=aC hl5 hz;refine⟨fun j ys M'=>∃bs:List Bool,ys=bs.map D.bl/\bs.length=j/\(∀(t:Nat) (v:Wl),bs[t]?=some true->ws[t]?=some v->Fair w v)/\M'=au M5 z (.lst ys),⟨[],rfl,rfl,fun t v h=>by simp at h,rfl⟩,?_,?_,?_⟩
 ·rintro j ys M' _ ⟨bs,_,_,_,rfl⟩;show(au M5 z _) l=_;rw[aq nlz];exact hl5
 ·rintro j ys d M' hj hd ⟨bs,rfl,hlen,hf,rfl⟩;have hd:(ws.map uw)[j]?=some d:=hd;rw[Gs]at hd;cases ev:ws[j]? with
  |none=>rw[ev]at hd;cases hd
  |some v=>
   rw[ev]at hd
   cases hd
   refine⟨_,rfl,?_⟩
   dsimp only[SD.pH]
   refine DZ ?_
   refine⟨_,rfl,_,rfl,w,v,rfl,rfl,hw,g3 v (GL ev),fun b hb=>?_⟩
   refine⟨_,.refl,ag,bs++[b],by simp,by simp[hlen],fun t v' ht hv'=>?_,by rw[cP]⟩
   rcases Nat.lt_trichotomy t bs.length with y|y|y
   ·rw[Hq y]at ht;exact hf t v' ht hv'
   ·subst y;rw[Hm (G9 _)]at ht;have hb':b=true:=by simpa using ht
    rw[hlen,ev]at hv';cases hv';exact hb hb'
   ·rw[Hx (by simp;omega)]at ht;cases ht
 rintro ys M' ⟨bs,rfl,hlen,hf,rfl⟩;have hlen':bs.length=ws.length:=by rw[hlen];simp
 have hl6:(au M5 z (.lst (bs.map D.bl))) l=some (.lst (ws.map uw)):=by rw[aq nlz];exact hl5
 have hr6:(au M5 z (.lst (bs.map D.bl))) r=some (.lst [.int x5,.int c5]):=by rw[aq nrz];exact hr5
 refine⟨bs,ag,_,rfl,?_⟩;refine br (fun hall=>?_) (fun _=>?_)
 ·refine⟨_,rfl,l,_,rfl,hl6,_,rfl,ws.map uw,_,rfl,hl6,by simp;omega,?_⟩;refine⟨x5,c5,ws++[w],_,_,_,_,rfl,by rw[aq nrl];exact hr6,by rw[ag,HJ];rfl,k0,by omega,by simp;omega,fun v hv=>?_,u9 g4 fun t v hv=>hf t v ?_ hv⟩
  ·rcases GS.mp hv with y|y
   ·exact g3 v y
   ·rw[GX.mp y];exact hw
  ·have ht:t<bs.length:=by rw[hlen'];exact(GN.mp hv).1
   rw[GQ ht];have:=HS.mp hall _ (List.getElem_mem ht);exact congrArg some this
 ·exact⟨x5,c5,ws,_,_,_,_,rfl,hr6,hl6,k0,by omega,by omega,g3,g4⟩
theorem cK:FnScope ["_law_row","_law_kind","_law_most","_law_bottom","_law_top"] ["_law_row"] (ao iI):=by walk_at "sc"
inductive Cn_law_number(y:D)(M:MH)(Q:DK):Prop
 |mk (r:_) (x:_) (c:_) (_:y=.ref r) (_:M r=some (.lst [.int x,.int c])) (_:0<=c) (_:c<900000) (_:∀x' q,N30 q->Q (Ma.fr q) (au M r (.lst [.int x',.int (c+3)])))
theorem iE(T:Tx K mg):Cal P w K mg base 2 "_law_number" (sD1 Cn_law_number):=by
 refine eJ (k:=1) T.f_law_number cK fun f cdv A outer s H E hr=>⟨_,(ai (ay 1 cK.nd (ak (aF T).m hr (aa (dv 0) (aa af ae)))) (ai (ay 2 cK.nd (av (aS (aa af (aa af (aa af (aa (ar eV af af) (aa (ar eV af af) (aa af ae))))))) (dv 1))) (ai (ay 3 cK.nd (ar cb af (ak (aF T).m hr (aa (dv 0) (aa (av (aS (aa af (aa af (aa af (aa (ar eV af af) (aa (ar cD (ar eV af af) af) (aa af ae))))))) (dv 1)) ae))))) (ai (ay 4 cK.nd (ar cb (ar cD (ak (aF T).m hr (aa (dv 0) (aa (ar cD (ar aG af (dv 2)) af) ae))) (dv 2)) af)) (aj (ax (ak (gT T).m hr (aa (dv 4) (aa (dv 3) ae))))))))),fun _ M Q h=>?_⟩;obtain⟨r,x,c,rfl,hM,hc0,hc1,k⟩:=h;refine⟨_,rfl,r,6,x,c,rfl,rfl,hM,hc0,by omega,by decide,cG (by decide),fun x1 v hv0 hv1=>?_⟩;refine⟨⟨by decide,by decide,by decide⟩,⟨by decide,by decide,by decide⟩,nbL rfl,fun p hp=>⟨_,rfl,?_⟩⟩;obtain⟨m,em,hm⟩:=Ma.pick (xs:=[9,9,1000,10^9,10^30,30]) (P:=fun m=>1<=m/\m<=10^30) hv0 (by simpa using hv1) (by decide);have npr:r≠p:=fun e=>by subst e;rw[ag]at hp;cases hp
 refine⟨_,_,ag,em,?_⟩;refine⟨_,rfl,⟨by decide,by decide,by decide⟩,⟨by decide,by decide,by decide⟩,trivial,nbL rfl,fun p2 hp2=>⟨_,rfl,?_⟩⟩;obtain⟨b,eb,hb⟩:=Ma.pick (xs:=[6,12,1000,10^9,10^30-1,1]) (P:=fun m=>1<=m/\m<=10^30-1) hv0 (by simpa using hv1) (by decide);have npr2:r≠p2:=fun e=>by subst e;rw[aq npr,ag]at hp2;cases hp2
 refine⟨_,_,ag,eb,r,b,x1,c+1,rfl,rfl,by rw[aq npr2,aq npr,ag],by omega,by omega,by omega,(Ma.uM (by omega) (by omega)).mono (by decide),fun x2 v2 hv20 hv21=>?_⟩;refine⟨_,rfl,_,rfl,bN (by decide),trivial,r,2*m-1,x2,c+1+1,rfl,rfl,ag,by omega,by omega,by omega,(Ma.uM (by omega) (by omega)).mono (by decide),fun x3 v3 hv30 hv31=>?_⟩;refine⟨_,rfl,trivial,_,rfl,_,rfl,v3-m+1,1+v2,rfl,rfl,by omega,(Ma.uM (by omega) (by omega)).mono (by decide),(Ma.uM (by omega) (by omega)).mono (by decide),?_⟩;refine⟨_,.ES (.same (.new hp2 (.new hp (.same .refl)))),?_⟩;rw[show c+1+1+1=c+3 from by omega];obtain⟨d1,d2⟩:=Ma.kT (t:=v3-m+1) (b:=1+v2) (by omega);exact k _ _ ⟨by omega,by omega⟩
theorem aM:FnScope ["_law_row","_law_lines","_law_at","_law_words","_law_place","_law_spot_here","_law_signs","_law_sign","_law_way","_law_line","_law_some"] ["_law_row","_law_lines"] (ao lO):=by walk_at "sc"
inductive Cn_law_bent(x y:D)(M:MH)(Q:DK):Prop
 |mk (r l:Addr) (x0 c:Int) (rs:List Str) (_:x=.ref r) (_:y=.ref l) (_:r≠l) (_:M r=some (.lst [.int x0,.int c])) (_:0<=c) (_:c<900000) (_:M l=some (.lst (rs.map D.str))) (_:rs≠[]) (_:(∀z∈rs,Asc z)) (_:wt rs<=150000) (_:∀(p:Addr) (J:Str) (M':MH) (x' c':Int),Asc J->J.length<=4*wt rs+60->p≠r->M' p=some (.lst ((Hf J ⟨#[10]⟩).map D.str))->M' r=some (.lst [.int x',.int c'])->0<=c'->c'<=c+10->Q (.ref p) M')
def yh(r l w:Addr)(a p s v:Int)(g g' line:Str)(o:Option D):DS:=[some (.ref r),some (.ref l),some (.int a),some (.ref w),some (.int p),some (.int s),some (.str g),some (.str g'),some (.int v),some (.str line),o]
structure BentM(r l w:Addr)(x c:Int)(rs ws:List Str)(M:MH):Prop where
 l:M l=some (.lst (rs.map D.str))
 w:M w=some (.lst (ws.map D.str))
 r:M r=some (.lst [.int x,.int c])
theorem BentM.sub{r l w:Addr}{x c:Int}{rs ws:List Str}{M M':MH}(h:BentM r l w x c rs ws M)(s:SD.Sub M M'):BentM r l w x c rs ws M':=⟨s _ _ h.l,s _ _ h.w,s _ _ h.r⟩
inductive W1(r l w:Addr)(a p s v x c:Int)(g g':Str)(rs ws:List Str)(n:Nat)(k:Int):DS->MH->Prop
 |mk (line:Str) {M:MH} (la:Asc line) (lb:line.length<=bnd v k n) (hM:BentM r l w x c rs ws M):W1 r l w a p s v x c g g' rs ws n k (yh r l w a p s v g g' line none) M
inductive W2(r w:Addr)(a p s v:Int)(g g' line:Str)(ws:List Str)(B:Nat)(c k m:Int):DS->MH->Prop
 |mk (l':Addr) (ls:List Str) (o:Option D) (x' c':Int) {M:MH} (lsa:∀t∈ls,Asc t) (lsb:wt ls<=bnl v k B) (nl:l'≠w) (hM:BentM r l' w x' c' ls ws M) (c0:0<=c') (c1:c'<=c+m):W2 r w a p s v g g' line ws B c k m (yh r l' w a p s v g g' line o) M
inductive W3(r w:Addr)(a p s v:Int)(g g' line:Str)(B:Nat)(c k m:Int):DS->MH->Prop
 |mk (l':Addr) (ls:List Str) (o:Option D) (x' c':Int) {M:MH} (lsa:∀t∈ls,Asc t) (lsb:wt ls<=bnl v k B) (hl:M l'=some (.lst (ls.map D.str))) (hr:M r=some (.lst [.int x',.int c'])) (c0:0<=c') (c1:c'<=c+m):W3 r w a p s v g g' line B c k m (yh r l' w a p s v g g' line o) M
theorem rH(T:Tx K mg):Cal P w K mg base 2 "_law_bent" (sD2 Cn_law_bent):=by
 refine bW (k:=1) T.f_law_bent aM fun f cdv A outer s H E hr=>⟨_,(ai (ay 2 aM.nd (ak (aF T).m hr (aa (dv 0) (aa (aI cx rfl T.b_len cI (aa (dv 1) ae)) ae)))) (ai (ay 3 aM.nd (cO (aX (dv 1) (dv 2)) (aa aE ae))) (ai (ay 4 aM.nd (ak (aF T).m hr (aa (dv 0) (aa (aI cx rfl T.b_len cI (aa (dv 3) ae)) ae)))) (ai (ay 5 aM.nd (ak (aF T).m hr (aa (dv 0) (aa (ar aO (aI cx rfl T.b_len cI (aa (aX (dv 1) (dv 2)) ae)) af) ae)))) (ai (ay 6 aM.nd aE) (@ai _ _ _ _ _ (@ay _ _ 7 _ _ _ _ aM.nd (@aX _ _ _ _ _ _ (@ar _ _ _ _ _ _ _ _ aO (@pE _ _ _ rfl) (aV (xv rfl) rfl T.b_list Az (aa (dv 6) ae))) (ak (aF T).m hr (aa (dv 0) (aa (ar aO af (aI cx rfl T.b_len cI (aa (dv 6) ae))) ae))) (by exact fun _ _=>rfl)) (by rfl) (by first|exact Or.inl rfl|exact Or.inr rfl) (by rfl) (by first|exact .inl rfl|exact .inr rfl)) (ai (ay 8 aM.nd (ak (aF T).m hr (aa (dv 0) (aa af ae)))) (ai (ay 9 aM.nd (aX (dv 1) (dv 2))) (ai (aN (aA (bj hr.units) (dv 8) af) (aj (ay 9 aM.nd (ar aO (ar aO (aR (dv 9) bz (aZ (dv 5))) (dv 7)) (aR (dv 9) (aZ (dv 5)) bz)))) aD) (ai (aN (aA (bj hr.units) (dv 8) af) (aj (ay 9 aM.nd (ar aO (aR (dv 9) bz (aZ (dv 5))) (aR (dv 9) (aZ (ar aO (dv 5) af)) bz)))) aD) (ai (aN (aA (bj hr.units) (dv 8) af) (aj (ay 9 aM.nd (cR aE (aa (ar aO (aR (dv 3) bz (aZ (dv 4))) (aR (dv 3) (aZ (ar aO (dv 4) af)) bz)) ae)))) aD) (ai (aN (aA (bj hr.units) (dv 8) af) (aj (ay 9 aM.nd (cR aE (aa (ar aO (aR (dv 3) bz (aZ (ar aO (dv 4) af))) (aR (dv 3) (aZ (dv 4)) bz)) ae)))) aD) (ai (aN (aA (bj hr.units) (dv 8) af) (aj (ay 9 aM.nd (cR aE (aa (ar aO (ar aO (aR (dv 3) bz (aZ af)) (aR (dv 3) (aZ af) bz)) (aR (dv 3) (aZ af) (aZ af))) ae)))) aD) (ai (ay 1 aM.nd (ar aO (ar aO (aR (dv 1) bz (aZ (dv 2))) (aS (aa (dv 9) ae))) (aR (dv 1) (aZ (ar aO (dv 2) af)) bz))) (ai (aN (aA (bj hr.units) (dv 8) af) (aj (ay 1 aM.nd (ar aO (ar aO (aR (dv 1) bz (aZ (dv 2))) (aR (dv 1) (aZ (dv 2)) (aZ (ar aO (dv 2) af)))) (aR (dv 1) (aZ (dv 2)) bz)))) aD) (ai (aN (aA (bj hr.units) (dv 8) af) (@ai _ _ _ _ _ (@ay _ _ 10 _ _ _ _ aM.nd (@pE _ _ _ rfl) (by rfl) (by first|exact Or.inl rfl|exact Or.inr rfl) (by rfl) (by first|exact .inl rfl|exact .inr rfl)) (aj (ay 1 aM.nd (ar aO (dv 1) (aS (aa (aX (ar aO (dv 10) (aS (aa aE (aa aE (aa (ar aO (ar aO aE (ar zD aE af)) aE) ae))))) (ak (aF T).m hr (aa (dv 0) (aa af ae)))) ae)))))) aD) (ai (aN (aA (bj hr.units) (dv 8) af) (aj (ay 1 aM.nd (ar aO (aR (dv 1) bz (aZ (dv 2))) (aR (dv 1) (aZ (ar aO (dv 2) af)) bz)))) aD) (ai (aN (aA (bj hr.units) (dv 8) af) (@ai _ _ _ _ _ (@cM _ _ _ _ _ _ (@aX _ _ _ _ _ _ (@pE _ _ _ rfl) (ak (aF T).m hr (aa (dv 0) (aa af ae))) (by exact fun _ _=>rfl)) (sr (dv 3) (dv 4)) (by rfl) (by rfl) (by rfl)) (aj (ay 1 aM.nd (ar aO (ar aO (aR (dv 1) bz (aZ (dv 2))) (aS (aa (cR aE (aa (dv 3) ae)) ae))) (aR (dv 1) (aZ (ar aO (dv 2) af)) bz))))) aD) (aj (ax (cO (cR aE (aa (dv 1) ae)) (aa aE ae)))))))))))))))))))))),fun _ _ M Q h=>?_⟩;obtain⟨r,l,x0,c,rs,rfl,rfl,nrl,hr0,c0,c1,hl0,n0,asc,hB,k⟩:=h;have sz:1000000<=Gp:=nbL rfl;have k0:0<=c/\c<900000:=⟨c0,c1⟩;have k1:=stp k0;have k2:=stp k1;have k3:=stp k2;have k4:=stp k3;have k5:=stp k4;refine⟨_,rfl,_,rfl,_,hl0,r,_,x0,c,rfl,rfl,hr0,c0,Int.lt_trans c1 (by decide),lpS n0,lb hB,fun x1 at' a0 a1=>?_⟩;rw[G7]at a1;have hl1:(au M r (.lst [.int x1,.int (c+1)])) l=some (.lst (rs.map D.str)):=by rw[aq nrl.symm];exact hl0
 have hr1:(au M r (.lst [.int x1,.int (c+1)])) r=some (.lst [.int x1,.int (c+1)]):=ag;generalize au M r (.lst [.int x1,.int (c+1)])=M1 at hl1 hr1 ⊢;obtain⟨z,hz,ez⟩:=oh a0 a1;have az:=asc z hz;have lz:=r6 hz;have lz5:=Gy lz hB;refine⟨_,rfl,_,rfl,_,_,hl1,ez,_,rfl,by omega,_,rfl,(by rw[dB];rfl),fun w hw=>?_⟩;generalize hws:Hf z " "=ws;rw[dB]at hws;have nrw:r≠w:=aC hr1 hw;have nlw:l≠w:=aC hl1 hw;have wl:wt ws=z.length+1:=by rw[<-hws];exact qd 32 z
 have wa:∀t∈ws,Asc t:=by rw[<-hws];exact nu az
 have wn:ws≠[]:=by rw[<-hws];exact cZ z 32
 have wB:wt ws<=150000:=by rw[wl];exact lz5
 have wC:wt ws<=300000:=Gy wB (by decide);have hl2:(au M1 w (.lst (ws.map D.str))) l=some (.lst (rs.map D.str)):=by rw[aq nlw];exact hl1
 have hr2:(au M1 w (.lst (ws.map D.str))) r=some (.lst [.int x1,.int (c+1)]):=by rw[aq nrw];exact hr1
 have hw2:(au M1 w (.lst (ws.map D.str))) w=some (.lst (ws.map D.str)):=ag;generalize au M1 w (.lst (ws.map D.str))=M2 at hl2 hr2 hw2 ⊢;refine⟨_,rfl,_,rfl,_,hw2,r,_,x1,c+1,rfl,rfl,hr2,k1.1,Int.lt_trans k1.2 (by decide),lpS wn,lb wB,fun x3 pl p0 p1=>?_⟩;rw[G7]at p1;have hl3:(au M2 r (.lst [.int x3,.int (c+1+1)])) l=some (.lst (rs.map D.str)):=by rw[aq nrl.symm];exact hl2
 have hw3:(au M2 r (.lst [.int x3,.int (c+1+1)])) w=some (.lst (ws.map D.str)):=by rw[aq nrw.symm];exact hw2
 have hr3:(au M2 r (.lst [.int x3,.int (c+1+1)])) r=some (.lst [.int x3,.int (c+1+1)]):=ag;generalize au M2 r (.lst [.int x3,.int (c+1+1)])=M3 at hl3 hr3 hw3 ⊢;refine⟨_,rfl,_,rfl,_,rfl,_,_,hl3,ez,by omega,r,_,x3,c+1+1,rfl,rfl,hr3,k2.1,Int.lt_trans k2.2 (by decide),zpS z,zbS lz5,fun x4 sp s0 s1=>?_⟩;have hl4:(au M3 r (.lst [.int x4,.int (c+1+1+1)])) l=some (.lst (rs.map D.str)):=by rw[aq nrl.symm];exact hl3
 have hw4:(au M3 r (.lst [.int x4,.int (c+1+1+1)])) w=some (.lst (ws.map D.str)):=by rw[aq nrw.symm];exact hw3
 have hr4:(au M3 r (.lst [.int x4,.int (c+1+1+1)])) r=some (.lst [.int x4,.int (c+1+1+1)]):=ag;generalize au M3 r (.lst [.int x4,.int (c+1+1+1)])=M4 at hl4 hr4 hw4 ⊢;refine⟨nbL rfl,fun pA hA=>?_⟩;generalize he:nz (.Constant (.str "a") _ _::_)=ss;have ssl:ss.length=9:=by rw[<-he];rfl
 have ssa:∀t∈ss,Asc t/\t.length<=1:=pT (by rw[<-he];decide +kernel);clear he;refine⟨_,rfl,nbL rfl,fun pB hB'=>?_⟩;generalize eg:G1 " !\"#$&'()*+,-./0123456789:;<=>?@ABCDEFGHIJKLMNOPQRSTUVWXYZ[\\]^_`abcdefghijklmnopqrstuvwxyz{|}~\n"=sg at hB' ⊢;have sgl:sg.length<=100:=by rw[<-eg];exact nbL rfl
 have sga:Asc sg:=by rw[<-eg];decide +kernel
 clear eg;have nAB:pA≠pB:=aC ag hB';obtain⟨g1,g2⟩:=Fx sgl;refine ig (xs:=ss) (ys:=sgs sg) (by rw[aq nAB];exact ag) (by rw[ag,DO]) ?_ (fun pC M5 sC fC hC5=>?_)
 ·have:=wt1 ssa (Nat.le_of_eq ssl);have:=wt1 (xh sga) (n:=100) (by rw[uf];exact sgl);omega
 have ta:∀t∈ss++sgs sg,Asc t/\t.length<=1:=fun t ht=>by
  rcases GS.mp ht with h|h
  ·exact ssa t h
  ·exact xh sga t h
 have tl:(ss++sgs sg).length=9+sg.length:=by rw[HM,ssl,uf]
 generalize ss++sgs sg=ts at ta tl hC5;have sbC:SD.Sub M4 M5:=(SD.Sub.new hA .refl).trans ((SD.Sub.new hB' .refl).trans sC);have hl5:=sbC _ _ hl4;have hw5:=sbC _ _ hw4;have hr5:=sbC _ _ hr4;refine⟨_,rfl,_,rfl,by omega,r,_,x4,c+1+1+1,rfl,rfl,hr5,k3.1,Int.lt_trans k3.2 (by decide),g1,g2,fun x6 v6 v60 v61=>?_⟩;have nrC:r≠pC:=(fM hC5 hr5).symm;have hl6:(au M5 r (.lst [.int x6,.int (c+1+1+1+1)])) l=some (.lst (rs.map D.str)):=by rw[aq nrl.symm];exact hl5
 have hw6:(au M5 r (.lst [.int x6,.int (c+1+1+1+1)])) w=some (.lst (ws.map D.str)):=by rw[aq nrw.symm];exact hw5
 have hC6:(au M5 r (.lst [.int x6,.int (c+1+1+1+1)])) pC=some (.lst (ts.map D.str)):=by rw[aq nrC.symm];exact hC5
 have hr6:(au M5 r (.lst [.int x6,.int (c+1+1+1+1)])) r=some (.lst [.int x6,.int (c+1+1+1+1)]):=ag;generalize au M5 r (.lst [.int x6,.int (c+1+1+1+1)])=M6 at hl6 hw6 hC6 hr6 ⊢;obtain⟨sg',hsg,esg⟩:=oh (xs:=ts) v60 (by omega);obtain⟨sa,sl⟩:=ta sg' hsg;refine⟨_,_,hC6,esg,?_⟩;refine⟨_,rfl,r,10,x6,c+1+1+1+1,rfl,rfl,hr6,k4.1,Int.lt_trans k4.2 (by decide),by decide,cG (by decide),fun x7 way w0 w1=>?_⟩;have hl7:(au M6 r (.lst [.int x7,.int (c+1+1+1+1+1)])) l=some (.lst (rs.map D.str)):=by rw[aq nrl.symm];exact hl6
 have hw7:(au M6 r (.lst [.int x7,.int (c+1+1+1+1+1)])) w=some (.lst (ws.map D.str)):=by rw[aq nrw.symm];exact hw6
 have hr7:(au M6 r (.lst [.int x7,.int (c+1+1+1+1+1)])) r=some (.lst [.int x7,.int (c+1+1+1+1+1)]):=ag;generalize au M6 r (.lst [.int x7,.int (c+1+1+1+1+1)])=M7 at hl7 hw7 hr7 ⊢;refine⟨_,rfl,_,rfl,_,_,hl7,ez,?_⟩;(try dsimp only[SD.aK])
 clear hC6 hr6 hw6 hl6 hC5 hr5 hw5 hl5 sbC sC hl4 hr4 hw4 hl3 hr3 hw3 hl2 hr2 hw2 hl1 hr1 hr0 hl0;have hM:BentM r l w x7 (c+1+1+1+1+1) rs ws M7:=⟨hl7,hw7,hr7⟩;clear hl7 hw7 hr7;refine aT (W1 r l w at' pl sp way x7 (c+1+1+1+1+1) sg sg' rs ws z.length 1) ?_ (fun hu=>?_);rotate_left
 ·refine⟨_,rfl,_,rfl,?_⟩;refine br (fun e=>?_) (fun e=>hu _ _ ⟨z,az,FU (fun h=>e (decide_eq_true h)) w0,hM⟩);have e:way=0:=of_decide_eq_true e;obtain⟨s1,s2,s3,s4⟩:=F8 (sp:=sp) (z:=z) rfl sl lz5;refine⟨_,rfl,_,rfl,_,rfl,s1,_,rfl,s2,_,rfl,_,rfl,_,rfl,s1,s3,?_⟩;exact hu _ _ ⟨_,iO (iO (gN az) sa) (gN az),Gy s4 (Nat.le_of_eq (xj e (by decide)).2.symm),hM⟩
 clear hM;rintro δ M8 ⟨line,la,lb,hM⟩;refine aT (W1 r l w at' pl sp way x7 (c+1+1+1+1+1) sg sg' rs ws z.length 2) ?_ (fun hu=>?_);rotate_left
 ·refine⟨_,rfl,_,rfl,?_⟩;refine br (fun e=>?_) (fun e=>hu _ _ ⟨line,la,Gy lb (i8 way 1 z.length),hM⟩);have e:way=1:=of_decide_eq_true e;obtain⟨e1,e2⟩:=xj (k':=2) (n:=z.length) e (by decide);rw[e1]at lb;obtain⟨s1,s2,s3⟩:=FO (sp:=sp) lb lz5;refine⟨_,rfl,_,rfl,_,rfl,s1,_,rfl,_,rfl,_,rfl,s1,s2,?_⟩;exact hu _ _ ⟨_,iO (gN la) (gN la),by rw[e2];exact s3,hM⟩
 clear hM la lb line;rintro δ M9 ⟨line,la,lb,hM⟩;refine aT (W1 r l w at' pl sp way x7 (c+1+1+1+1+1) sg sg' rs ws z.length 3) ?_ (fun hu=>?_);rotate_left
 ·refine⟨_,rfl,_,rfl,?_⟩;refine br (fun e=>?_) (fun e=>hu _ _ ⟨line,la,Gy lb (i8 way 2 z.length),hM⟩);have e:way=2:=of_decide_eq_true e;obtain⟨e1,e2⟩:=xj (k':=3) (n:=z.length) e (by decide);exact⟨_,rfl,_,rfl,_,rfl,_,rfl,slS hM.w (fun p1 N1 s1 f1 h1=>⟨_,rfl,_,rfl,_,rfl,slN (hM.sub s1).w (fun p2 N2 s2 f2 h2=>ig (s2 _ _ h1) h2 (cw2 wC) (fun p3 N3 s3 f3 h3=>⟨p3,_,rfl,h3,cj2 wC,hu _ _ ⟨_,ca2 wa,by rw[e2];exact cl2 wl,hM.sub (s1.trans (s2.trans s3))⟩⟩))⟩)⟩
 clear hM la lb line;rintro δ M10 ⟨line,la,lb,hM⟩;refine aT (W1 r l w at' pl sp way x7 (c+1+1+1+1+1) sg sg' rs ws z.length 4) ?_ (fun hu=>?_);rotate_left
 ·refine⟨_,rfl,_,rfl,?_⟩;refine br (fun e=>?_) (fun e=>hu _ _ ⟨line,la,Gy lb (i8 way 3 z.length),hM⟩);have e:way=3:=of_decide_eq_true e;obtain⟨e1,e2⟩:=xj (k':=4) (n:=z.length) e (by decide);exact⟨_,rfl,_,rfl,_,rfl,_,rfl,slS hM.w (fun p1 N1 s1 f1 h1=>⟨_,rfl,_,rfl,_,rfl,slN (hM.sub s1).w (fun p2 N2 s2 f2 h2=>ig (s2 _ _ h1) h2 (cw2 wC) (fun p3 N3 s3 f3 h3=>⟨p3,_,rfl,h3,cj2 wC,hu _ _ ⟨_,ca2 wa,by rw[e2];exact cl2 wl,hM.sub (s1.trans (s2.trans s3))⟩⟩))⟩)⟩
 clear hM la lb line;rintro δ M11 ⟨line,la,lb,hM⟩;refine aT (W1 r l w at' pl sp way x7 (c+1+1+1+1+1) sg sg' rs ws z.length 5) ?_ (fun hu=>?_);rotate_left
 ·refine⟨_,rfl,_,rfl,?_⟩;refine br (fun e=>?_) (fun e=>hu _ _ ⟨line,la,Gy lb (i8 way 4 z.length),hM⟩);have e:way=4:=of_decide_eq_true e;obtain⟨e1,e2⟩:=xj (k':=5) (n:=z.length) e (by decide);refine⟨_,rfl,_,rfl,_,rfl,slS hM.w (fun p1 N1 s1 f1 h1=>⟨_,rfl,_,rfl,slN (hM.sub s1).w (fun p2 N2 s2 f2 h2=>ig (s2 _ _ h1) h2 (cw2 wC) (fun p3 N3 s3 f3 h3=>⟨_,rfl,_,rfl,_,rfl,slS (hM.sub (s1.trans (s2.trans s3))).w (fun p4 N4 s4 f4 h4=>ig (s4 _ _ h3) h4 (cw3 wC) (fun p5 N5 s5 f5 h5=>⟨p5,_,rfl,h5,cj3 wC,hu _ _ ⟨_,?_,by rw[e2];exact cl3 wl,hM.sub (s1.trans (s2.trans (s3.trans (s4.trans s5))))⟩⟩))⟩))⟩)⟩;rw[dB];exact fj (by decide) (ca3 wa)
 clear hM la lb line;rintro δ M12 ⟨line,la,lb,hM⟩;have lq:line.length<=450010:=Gy lb (Dn lz hB);have c5:c+1+1+1+1+1<=c+5:=c5b c;refine aT (W2 r w at' pl sp way sg sg' line ws (wt rs) c 5 5) ?_ (fun hu=>?_);rotate_left
 ·refine⟨_,rfl,_,rfl,_,rfl,slS hM.l (fun p1 N1 s1 f1 h1=>⟨_,rfl,nbL rfl,fun p2 f2=>ig (ys:=[line]) ((SD.Sub.new f2 .refl) _ _ h1) ag ?_ (fun p3 N3 s3 f3 h3=>⟨_,rfl,_,rfl,_,rfl,slN (hM.sub (s1.trans ((SD.Sub.new f2 .refl).trans s3))).l (fun p4 N4 s4 f4 h4=>ig (s4 _ _ h3) h4 ?_ (fun p5 N5 s5 f5 h5=>?_))⟩)⟩)⟩
  ·exact w1a (Gy hB (by decide)) lq
  ·exact w1b hB lq
  ·have S5:SD.Sub M12 N5:=s1.trans ((SD.Sub.new f2 .refl).trans (s3.trans (s4.trans s5)));have h45:=hM.sub (s1.trans ((SD.Sub.new f2 .refl).trans (s3.trans s4)));exact hu _ _ ⟨p5,_,none,x7,_,Fs asc la,in1 a0 lz lb,(aC h45.w f5).symm,⟨h5,(hM.sub S5).w,(hM.sub S5).r⟩,k5.1,c5⟩
 clear hM;rintro δ M13 ⟨l1,ls,o,xa,ca,lsa,lsb,nlw1,hM,ca0,ca1⟩;refine aT (W2 r w at' pl sp way sg sg' line ws (wt rs) c 6 5) ?_ (fun hu=>?_);rotate_left
 ·refine⟨_,rfl,_,rfl,?_⟩;refine br (fun e=>?_) (fun e=>hu _ _ ⟨l1,ls,o,xa,ca,lsa,Gy lsb (iQ way 5 _),nlw1,hM,ca0,Int.le_trans ca1 (Int.add_le_add_left (by decide) _)⟩);have e:way=5:=of_decide_eq_true e;obtain⟨e1,e2⟩:=AQ (k':=6) (n:=wt rs) e (by decide);rw[e1]at lsb;have lsc:wt ls<=300000:=Gy lsb (Nat.mul_le_mul_left 2 hB);refine⟨_,rfl,_,rfl,_,rfl,slS hM.l (fun p1 N1 s1 f1 h1=>⟨_,rfl,_,rfl,_,rfl,_,rfl,_,rfl,slS (hM.sub s1).l (fun p2 N2 s2 f2 h2=>ig (s2 _ _ h1) h2 ?_ (fun p3 N3 s3 f3 h3=>⟨_,rfl,_,rfl,_,rfl,slN (hM.sub (s1.trans (s2.trans s3))).l (fun p4 N4 s4 f4 h4=>ig (s4 _ _ h3) h4 ?_ (fun p5 N5 s5 f5 h5=>?_))⟩))⟩)⟩
  ·exact cw2 lsc
  ·exact cw3 lsc
  ·have S4:=s1.trans (s2.trans (s3.trans s4));have S5:=S4.trans s5;exact hu _ _ ⟨p5,_,o,xa,ca,ca3 lsa,by rw[e2];exact dbl a0 lsb,(aC (hM.sub S4).w f5).symm,⟨h5,(hM.sub S5).w,(hM.sub S5).r⟩,ca0,ca1⟩
 clear hM lsa lsb nlw1 ca0 ca1;clear ls l1 xa ca o;rintro δ M14 ⟨l1,ls,o,xa,ca,lsa,lsb,nlw1,hM,ca0,ca1⟩;refine aT (W2 r w at' pl sp way sg sg' line ws (wt rs) c 7 6) ?_ (fun hu=>?_);rotate_left
 ·refine⟨_,rfl,_,rfl,?_⟩;refine br (fun e=>?_) (fun e=>hu _ _ ⟨l1,ls,o,xa,ca,lsa,Gy lsb (iQ way 6 _),nlw1,hM,ca0,Int.le_trans ca1 (Int.add_le_add_left (by decide) _)⟩);have e:way=6:=of_decide_eq_true e;obtain⟨e1,e2⟩:=AQ (k':=7) (n:=wt rs) e (by decide);rw[e1]at lsb;have lsc:wt ls<=300000:=Gy lsb (Nat.mul_le_mul_left 2 hB);refine⟨nbL rfl,fun pS fS=>?_⟩;generalize he:nz (.Constant (.str "") _ _::_)=us;have usl:us.length=7:=by rw[<-he];rfl
  have usa:∀t∈us,Asc t/\t.length<=45:=pT (by rw[<-he];decide +kernel);have usw:wt us<=1000:=by rw[<-he];exact nbL rfl
  clear he;have hS:(au M14 pS (.lst (us.map D.str))) pS=some (.lst (us.map D.str)):=ag;have sS:SD.Sub M14 (au M14 pS (.lst (us.map D.str))):=.new fS .refl;generalize au M14 pS (.lst (us.map D.str))=NS at hS sS ⊢;have hN:=hM.sub sS;have o6l:(rA "1" 31).length=31:=by decide +kernel
  have o6a:Asc (rA "1" 31):=by decide +kernel
  have q1:=jt (n:=20) (show lnB 20 "wall 0 0 "=true by decide +kernel);have q2:=jt (n:=5) (show lnB 5 " 0"=true by decide +kernel);have q3:=jt (n:=45) (show lnB 45 "wall 0 0 1 1/0"=true by decide +kernel);have q4:=jt (n:=45) (show lnB 45 "wall 0 0 0 0"=true by decide +kernel);refine⟨_,rfl,_,rfl,by decide,by decide,nbL rfl,nbL rfl,by rw[o6l];exact nbL rfl,?_⟩;generalize rA "1" 31=o6 at o6l o6a ⊢;refine⟨by omega,by rw[len_app];omega,nbL rfl,fun pD fD=>ig (ys:=[G1 "wall 0 0 1 1/0",G1 "wall 0 0 0 0",G1 "wall 0 0 "++o6++G1 " 0"]) ((SD.Sub.new fD .refl) _ _ hS) ag ?_ (fun p2 N2 s2 f2 h2=>?_)⟩
  ·show wt us+(_+1+(_+1+((G1 "wall 0 0 "++o6++G1 " 0").length+1+0)))<=_;rw[len_app,len_app];omega
  have sN:SD.Sub M14 N2:=sS.trans ((SD.Sub.new fD .refl).trans s2)
  have tsa:∀t∈us++[G1 "wall 0 0 1 1/0",G1 "wall 0 0 0 0",G1 "wall 0 0 "++o6++G1 " 0"],Asc t/\t.length<=56:=fun t ht=>by
   rcases GS.mp ht with h|h
   ·exact⟨(usa t h).1,Gy (usa t h).2 (by decide)⟩
   ·rcases GO.mp h with rfl|h
    ·exact⟨q3.1,by omega⟩
    ·rcases GO.mp h with rfl|h
     ·exact⟨q4.1,by omega⟩
     ·rw[GX.mp h];exact⟨iO (iO q1.1 o6a) q2.1,by rw[len_app,len_app];omega⟩
  have tsl:(us++[G1 "wall 0 0 1 1/0",G1 "wall 0 0 0 0",G1 "wall 0 0 "++o6++G1 " 0"]).length=10:=by rw[HM,usl];rfl
  generalize us++[G1 "wall 0 0 1 1/0",G1 "wall 0 0 0 0",G1 "wall 0 0 "++o6++G1 " 0"]=vs at tsa tsl h2;clear hN;have hN:=hM.sub sN;have nr2:p2≠r:=fM h2 hN.r;have nrl1:l1≠r:=fM hN.l hN.r;refine⟨_,rfl,r,10,xa,ca,rfl,rfl,hN.r,ca0,by omega,by decide,cG (by decide),fun x8 v8 v80 v81=>?_⟩;obtain⟨t8,ht8,et8⟩:=oh (xs:=vs) v80 (by omega);obtain⟨t8a,t8l⟩:=tsa t8 ht8;have hl9:(au N2 r (.lst [.int x8,.int (ca+1)])) l1=some (.lst (ls.map D.str)):=by rw[aq nrl1];exact hN.l
  have hw9:(au N2 r (.lst [.int x8,.int (ca+1)])) w=some (.lst (ws.map D.str)):=by rw[aq nrw.symm];exact hN.w
  have hv9:(au N2 r (.lst [.int x8,.int (ca+1)])) p2=some (.lst (vs.map D.str)):=by rw[aq nr2];exact h2
  have hr9:(au N2 r (.lst [.int x8,.int (ca+1)])) r=some (.lst [.int x8,.int (ca+1)]):=ag;generalize au N2 r (.lst [.int x8,.int (ca+1)])=N9 at hl9 hw9 hv9 hr9 ⊢;have hM9:BentM r l1 w x8 (ca+1) ls ws N9:=⟨hl9,hw9,hr9⟩;refine⟨_,_,hv9,et8,nbL rfl,fun p4 f4=>ig (ys:=[t8]) ((SD.Sub.new f4 .refl) _ _ hl9) ag ?_ (fun p5 N5 s5 f5 h5=>?_)⟩
  ·show _+(t8.length+1+0)<=_;omega
  have S4:=SD.Sub.new (o:=.lst [.str t8]) f4 (.refl (M:=N9));have S5:=S4.trans s5;refine hu _ _ ⟨p5,_,_,x8,ca+1,fun t ht=>?_,?_,(aC (hM9.sub S4).w f5).symm,⟨h5,(hM9.sub S5).w,(hM9.sub S5).r⟩,by omega,by omega⟩
  ·rcases GS.mp ht with h|h
   ·exact lsa t h
   ·rw[GX.mp h];exact t8a
  ·rw[bY,e2];show _+(t8.length+1+0)<=_;omega
 clear hM lsa lsb nlw1 ca0 ca1;clear ls l1 xa ca o;rintro δ M15 ⟨l1,ls,o,xa,ca,lsa,lsb,nlw1,hM,ca0,ca1⟩;refine aT (W2 r w at' pl sp way sg sg' line ws (wt rs) c 8 6) ?_ (fun hu=>?_);rotate_left
 ·refine⟨_,rfl,_,rfl,?_⟩;refine br (fun e=>?_) (fun e=>hu _ _ ⟨l1,ls,o,xa,ca,lsa,Gy lsb (iQ way 7 _),nlw1,hM,ca0,Int.le_trans ca1 (Int.add_le_add_left (by decide) _)⟩);have e:way=7:=of_decide_eq_true e;obtain⟨e1,e2⟩:=AQ (k':=8) (n:=wt rs) e (by decide);rw[e1]at lsb;have lsc:wt ls<=300000:=Gy lsb (Nat.mul_le_mul_left 2 hB);refine⟨_,rfl,_,rfl,_,rfl,slS hM.l (fun p1 N1 s1 f1 h1=>⟨_,rfl,_,rfl,_,rfl,slN (hM.sub s1).l (fun p2 N2 s2 f2 h2=>ig (s2 _ _ h1) h2 ?_ (fun p3 N3 s3 f3 h3=>?_))⟩)⟩
  ·exact cw2 lsc
  ·have S4:=s1.trans s2;have S5:=S4.trans s3;refine hu _ _ ⟨p3,_,o,xa,ca,fun t ht=>?_,by rw[e2];exact Ga a0 lsb,(aC (hM.sub S4).w f3).symm,⟨h3,(hM.sub S5).w,(hM.sub S5).r⟩,ca0,ca1⟩;rcases GS.mp ht with h|h<;>exact lsa t (dE h)
 clear hM lsa lsb nlw1 ca0 ca1;clear ls l1 xa ca o;rintro δ M16 ⟨l1,ls,o,xa,ca,lsa,lsb,nlw1,hM,ca0,ca1⟩;refine aT (W3 r w at' pl sp way sg sg' line (wt rs) c 9 7) ?_ (fun hu=>?_);rotate_left
 ·refine⟨_,rfl,_,rfl,?_⟩;refine br (fun e=>?_) (fun e=>hu _ _ ⟨l1,ls,o,xa,ca,lsa,Gy lsb (iQ way 8 _),hM.l,hM.r,ca0,Int.le_trans ca1 (Int.add_le_add_left (by decide) _)⟩);have e:way=8:=of_decide_eq_true e;obtain⟨e1,e2⟩:=AQ (k':=9) (n:=wt rs) e (by decide);rw[e1]at lsb;have lsc:wt ls<=300000:=Gy lsb (Nat.mul_le_mul_left 2 hB);refine⟨nbL rfl,fun pS fS=>?_⟩;generalize he:nz (.Constant (.str "0") _ _::_)=us;have usl:us.length=8:=by rw[<-he];rfl
  have usa:∀t∈us,Asc t/\t.length<=45:=pT (by rw[<-he];decide +kernel);clear he;have hS:(au M16 pS (.lst (us.map D.str))) pS=some (.lst (us.map D.str)):=ag;have sS:SD.Sub M16 (au M16 pS (.lst (us.map D.str))):=.new fS .refl;generalize au M16 pS (.lst (us.map D.str))=NS at hS sS ⊢;have hN:=hM.sub sS;have nrS:pS≠r:=fM hS hN.r;have nrl1:l1≠r:=fM hN.l hN.r;refine⟨_,rfl,r,8,xa,ca,rfl,rfl,hN.r,ca0,by omega,by decide,cG (by decide),fun x8 v8 v80 v81=>?_⟩;obtain⟨t8,ht8,et8⟩:=oh (xs:=us) v80 (by omega);obtain⟨t8a,t8l⟩:=usa t8 ht8;have hl9:(au NS r (.lst [.int x8,.int (ca+1)])) l1=some (.lst (ls.map D.str)):=by rw[aq nrl1];exact hN.l
  have hw9:(au NS r (.lst [.int x8,.int (ca+1)])) w=some (.lst (ws.map D.str)):=by rw[aq nrw.symm];exact hN.w
  have hS9:(au NS r (.lst [.int x8,.int (ca+1)])) pS=some (.lst (us.map D.str)):=by rw[aq nrS];exact hS
  have hr9:(au NS r (.lst [.int x8,.int (ca+1)])) r=some (.lst [.int x8,.int (ca+1)]):=ag;generalize au NS r (.lst [.int x8,.int (ca+1)])=N9 at hl9 hw9 hS9 hr9 ⊢;refine⟨_,_,hS9,et8,?_⟩;refine⟨_,rfl,_,rfl,_,_,hw9,sZ p0 p1,?_⟩;generalize e8:(ws.map D.str).set pl.toNat (.str t8)=ds8;rw[set_str]at e8;subst e8;have hM9:BentM r l1 w x8 (ca+1) ls (ws.set pl.toNat t8) (au N9 w (.lst ((ws.set pl.toNat t8).map D.str))):=⟨by rw[aq nlw1];exact hl9,ag,by rw[aq nrw];exact hr9⟩;have wt9:=yQ t8 ws pl.toNat
  have wa9:∀t∈ws.set pl.toNat t8,Asc t:=fun t ht=>by
   rcases mem_set ht with h|h
   ·exact wa t h
   ·rw[h];exact t8a
  generalize ws.set pl.toNat t8=vs at hM9 wt9 wa9 ⊢;generalize au N9 w (.lst (vs.map D.str))=N10 at hM9 ⊢;refine⟨_,rfl,_,rfl,_,rfl,slS hM9.l (fun p1 N1 s1 f1 h1=>⟨_,rfl,_,rfl,w,vs,rfl,(hM9.sub s1).w,dU (by omega),nbL rfl,fun p2 f2=>ig (ys:=[Hg ⟨#[32]⟩ vs]) ((SD.Sub.new f2 .refl) _ _ h1) ag ?_ (fun p3 N3 s3 f3 h3=>⟨_,rfl,_,rfl,_,rfl,slN (hM9.sub (s1.trans ((SD.Sub.new f2 .refl).trans s3))).l (fun p4 N4 s4 f4 h4=>ig (s4 _ _ h3) h4 ?_ (fun p5 N5 s5 f5 h5=>?_))⟩)⟩)⟩
  ·have:=bV ls none (some at');have:=join_le 32 vs;show wt _+((Hg ⟨#[32]⟩ vs).length+1+0)<=_;omega
  ·have:=bV ls none (some at');have:=bV ls (some (at'+1)) none;have:=join_le 32 vs;rw[bY];show wt _+((Hg ⟨#[32]⟩ vs).length+1+0)+_<=_;omega
  ·have S4:=s1.trans ((SD.Sub.new f2 .refl).trans (s3.trans s4));have S5:=S4.trans s5;refine hu _ _ ⟨p5,_,o,x8,ca+1,fun t ht=>?_,?_,h5,(hM9.sub S5).r,by omega,by omega⟩
   ·rcases GS.mp ht with h|h
    ·rcases GS.mp h with h|h
     ·exact lsa t (dE h)
     ·rw[GX.mp h];exact fj (by decide) wa9
    ·exact lsa t (dE h)
   ·have:=gK a0 (show at'<=at'+1 by omega) ls;have:=join_le 32 vs;rw[bY,bY,e2];show wt _+((Hg ⟨#[32]⟩ vs).length+1+0)+_<=_;omega
 clear hM lsa lsb nlw1 ca0 ca1;clear ls l1 xa ca o;rintro δ M17 ⟨l1,ls,o,xa,ca,lsa,lsb,hl17,hr17,ca0,ca1⟩;rw[Aj];have:=CB way 9 (wt rs);refine⟨_,rfl,_,rfl,l1,ls,rfl,hl17,dU (by omega),_,rfl,?_,_,rfl,rfl,fun p f=>rtn ?_⟩
 ·have:=join_le 10 ls;omega
 refine k p _ _ xa ca (fj (by decide) lsa) ?_ (aC hr17 f).symm ag (by rw[aq (aC hr17 f)];exact hr17) ca0 (by omega);have:=join_le 10 ls;omega
theorem jX:FnScope ["_law_word"] ["_law_word"] (ao gr):=by walk_at "sc"
inductive Cn_law_is_whole(x:D)(M:MH)(Q:DK):Prop
 |mk (z:Str) (_:x=.str z) (_:z.cps.all (· < 128)=true) (_:z.length<=900001) (_:(∀n,Wh z n->Q (.bl true) M)) (_:((∀n,¬Wh z n)->Q (.bl false) M))
theorem gw(T:Tx K mg):Cal P w K mg base 1 "_law_is_whole" (sD1 Cn_law_is_whole):=by
 refine eJ (k:=0) T.f_law_is_whole jX fun f cdv A outer s H E hr=>⟨_,(ai (aN (dF (cV (fH (qM (jC hr.units) (jC hr.units) af (aI cx rfl T.b_len cI (aa (dv 0) ae)) af)) (c6 (aA (eC hr.units) (eB (CScope.of (xs:=["_law_sign"]) (js:=[]) rfl) rfl (xg (dv 0)) (fun _ _ _ _=>(zT (aA (jv (oi hr)) (dv 0) aE (by with_unfolding_all rfl)))) (fun _ _ _ _=>(dv 0))) (aS ae))))) (aj (ax iJ)) aD) (aj (ax (tE (bX (bj hr.units) (dv 0) aE) (iA (bX (eC hr.units) (aX (dv 0) af) aE)))))),fun _ M Q h=>?_⟩;obtain⟨z,rfl,asc,hl,k,k'⟩:=h;have sz:1000000<=Gp:=nbL rfl;have no:(∀n,¬Wh z n)->∀{M'},SD.Sub M M'->Ret Q (.bl false) M':=fun h {M'} sb=>⟨M,sb,k' h⟩;refine⟨_,rfl,by omega,trivial,_,rfl,?_⟩;refine br (fun l1=>?_) (fun l1=>?_);rotate_left
 ·exact⟨_,rfl,bS rfl (bS rfl (no (fun n h=>by have:=h.pos;exact l1 (decide_eq_true (by omega))) .refl))⟩
 have l1:1<=z.length:=by have:=of_decide_eq_true l1;omega
 refine⟨trivial,_,rfl,?_⟩;refine br (fun l2=>?_) (fun l2=>?_)
 ·refine bS rfl (no (fun n h=>?_) .refl);have:=h.len;dsimp only at l2;rw[decide_eq_true (show(z.length:Int)<=30 by omega)]at l2;cases l2
 have l2:z.length<=30:=by
  have l2:(z.length:Int)<=30:=by simpa using l2
  omega
 let nf:Nat->Option Str:=fun c=>if c∈(G1 "0123456789").cps.toList then none else some ⟨#[c]⟩
 refine⟨_,rfl,z,rfl,asc,Ag (fun i=>((z.cps.toList[i]?).bind nf).map D.str) (by show z.cps.size<=1000000;have:z.cps.size=z.length:=rfl;omega) (fun _ _ _=>trivial) ?_ (fun p hp=>?_)⟩
 ·intro i d M2 hi hd sb;have hd:(z.cps[i]?).map (fun c=>D.str ⟨#[c]⟩)=some d:=hd;cases ec:z.cps[i]? with
  |none=>rw[ec]at hd;cases hd
  |some c=>
   rw[ec]at hd
   cases hd
   have ec':z.cps.toList[i]?=some c:=by rw[Array.getElem?_toList,ec]
   refine⟨_,rfl,fun K hK=>⟨_,rfl,c,rfl,_,rfl,?_⟩,fun e he K hK=>?_⟩
   ·rw[ec',Ha]at hK;by_cases q:c∈(G1 "0123456789").cps.toList
    ·rw[decide_eq_true q];rw[show nf c=none from if_pos q]at hK;exact hK
    ·rw[decide_eq_false q];rw[show nf c=some _ from if_neg q]at hK;exact hK
   ·rw[ec',Ha]at he
    have:e=.str ⟨#[c]⟩:=by
     by_cases q:c∈(G1 "0123456789").cps.toList
     ·rw[show nf c=none from if_pos q]at he;cases he
     ·rw[show nf c=some _ from if_neg q]at he;exact(Option.some.inj he).symm
    subst this;exact⟨_,rfl,hK _ .refl⟩
 have el:(HD z.cps.size).filterMap (fun i=>((z.cps.toList[i]?).bind nf).map D.str)=(z.cps.toList.filterMap nf).map D.str:=by rw[<-yE nf z.cps.toList,List.map_filterMap];rfl
 dsimp only;rw[el]
 have okc:∀x∈z.cps.toList.filterMap nf,Iy x=true:=fun x hx=>by
  obtain⟨c,hc,e⟩:=IZ.mp hx;by_cases q:c∈(G1 "0123456789").cps.toList
  ·rw[show nf c=none from if_pos q]at e;cases e
  ·rw[show nf c=some _ from if_neg q]at e;cases e;refine rJ (cy (x:=z) asc fun d hd=>?_);have:d=c:=by simpa using hd
   rw[this];exact hc
 refine⟨nbL rfl,fun p2 hp2=>ne_nil (by rw[aq (aC ag hp2)];exact ag) ag okc ⟨_,rfl,?_⟩⟩;have fin:∀{M'} {d},SD.Sub M M'->Q d M->Ret Q d M':=fun{M' d} sb q=>⟨M,sb,q⟩;have sb2:SD.Sub M (au (au M p (.lst ((z.cps.toList.filterMap nf).map D.str))) p2 (.lst [])):=.new hp2 (.new hp .refl);refine br (fun a=>?_) (fun a=>?_)
 ·refine no (fun n h=>?_) sb2;have a:z.cps.toList.filterMap nf≠[]:=by simpa using a
  obtain⟨x,hx⟩:=List.exists_mem_of_ne_nil _ a;obtain⟨c,hc,e⟩:=IZ.mp hx;have:=h.dig hc;rw[show nf c=none from if_pos (by rw[oY];exact List.mem_range'_1.mpr (show 48<=c/\c<48+10 by omega))]at e;cases e
 have a:z.cps.toList.filterMap nf=[]:=by simpa using a
 have dig:∀c∈z.cps.toList,48<=c/\c<=57:=fun c hc=>by
  by_cases q:c∈(G1 "0123456789").cps.toList
  ·rw[oY]at q;have:=List.mem_range'_1.mp (show c∈List.range' 48 10 from q);omega
  ·have:(⟨#[c]⟩:Str)∈z.cps.toList.filterMap nf:=IZ.mpr ⟨c,hc,if_neg q⟩;rw[a]at this;cases this
 have hat:atI z.cps.toList ((0:Nat):Int)=z.cps.toList[0]?:=gi _;cases e0:z.cps.toList[0]? with
 |none=>rw[List.getElem?_eq_none_iff,<-bg]at e0;omega
 |some c0=>
  rw[e0]at hat
  (try dsimp only[SD.bM,SD.bE,SD.aK,SD.bR,SD.bP,SD.bc,SD.bo,SD.tBD,SD.bQ])
  by_cases hz:z=⟨#[48]⟩
  ·obtain⟨n,hn⟩:=tF l1 l2 dig (fun _=>hz);refine orV true true (fun K hK=>⟨_,rfl,?_⟩) (fun h=>nomatch h) (fin sb2 (k n hn));show K (.bl (decide (z=G1 "0"))) _;rw[eO,decide_eq_true hz];exact hK
  ·by_cases h0:c0=48
   ·subst h0;refine orV false false (fun K hK=>⟨_,rfl,?_⟩) (fun _ K hK=>⟨_,rfl,by omega,_,hat,?_⟩) (no (fun n h=>hz (h.head e0)) sb2)
    ·show K (.bl (decide (z=G1 "0"))) _;rw[eO,decide_eq_false hz];exact hK
    ·show K (.bl (!decide ((⟨#[48]⟩:Str)=G1 "0"))) _;rw[eO,decide_eq_true rfl];exact hK
   ·obtain⟨n,hn⟩:=tF l1 l2 dig (fun q=>absurd (Option.some.inj (e0.symm.trans q)) h0);refine orV false true (fun K hK=>⟨_,rfl,?_⟩) (fun _ K hK=>⟨_,rfl,by omega,_,hat,?_⟩) (fin sb2 (k n hn))
    ·show K (.bl (decide (z=G1 "0"))) _;rw[eO,decide_eq_false hz];exact hK
    ·show K (.bl (!decide ((⟨#[c0]⟩:Str)=G1 "0"))) _;rw[eO,decide_eq_false (fun z=>h0 (by have:=congrArg (fun x:Str=>x.cps.toList) z;simpa using this))];exact hK
theorem ck:FnScope ["_law_word","_law_parts","_law_top","_law_bottom"] ["_law_word"] (ao gA):=by walk_at "sc"
inductive Cn_law_fraction(x:D)(M:MH)(Q:DK):Prop
 |mk (z:Str) (_:x=.str z) (_:z.cps.all (· < 128)=true) (_:z.length<=900001) (_:∀M',SD.Sub M M'->Q (opF (rdq z)) M')
theorem gy(T:Tx K mg):Cal P w K mg base 2 "_law_fraction" (sD1 Cn_law_fraction):=by
 refine eJ (k:=1) T.f_law_fraction ck fun f cdv A outer s H E hr=>⟨_,(ai (ay 1 ck.nd (cO (dv 0) (aa aE ae))) (ai (ay 2 ck.nd (aX (dv 1) af)) (ai (aN (aA (bj hr.units) (aR (dv 2) bz (aZ af)) aE) (aj (ay 2 ck.nd (aR (dv 2) (aZ af) bz))) aD) (ai (aN (dF (cV (aA (iq hr.units) (aI cx rfl T.b_len cI (aa (dv 1) ae)) af) (cV (fH (cJ (ak (gw T).m hr (aa (dv 2) ae)))) (c6 (aA (bj hr.units) (aX (dv 1) af) aE))))) (aj (ax aU)) aD) (ai (ay 3 ck.nd (aX (ar aO (dv 1) (aS (aa aE ae))) af)) (ai (aN (dF (cV (fH (cJ (ak (gw T).m hr (aa (dv 3) ae)))) (cV (aA (bj hr.units) (aV dJ rfl T.b_int de (aa (dv 3) ae)) af) (c6 (dF (dq (aA (bj hr.units) (aI cx rfl T.b_len cI (aa (dv 1) ae)) af) (c9 (aA (bj hr.units) (dv 3) aE)))))))) (aj (ax aU)) aD) (ai (aN (aA (eC hr.units) (ak (gT T).m hr (aa (aV dJ rfl T.b_int de (aa (dv 2) ae)) (aa (aV dJ rfl T.b_int de (aa (dv 3) ae)) ae))) (aH (aa (aV dJ rfl T.b_int de (aa (dv 2) ae)) (aa (aV dJ rfl T.b_int de (aa (dv 3) ae)) ae)))) (aj (ax aU)) aD) (aj (ax (aH (aa (aV dJ rfl T.b_int de (aa (aX (dv 1) af) ae)) (aa (aV dJ rfl T.b_int de (aa (dv 3) ae)) ae)))))))))))),fun _ M Q h=>?_⟩;obtain⟨z,rfl,asc,hl,k⟩:=h;have sz:1000000<=Gp:=nbL rfl;obtain⟨f1,f2⟩:=cT 47 z
 obtain⟨t,rest,ew⟩:∃t rest,Hf z ⟨#[47]⟩=t::rest:=by
  cases e:Hf z ⟨#[47]⟩with
  |nil=>exact absurd e (cZ z 47)
  |cons a b=>exact⟨a,b,rfl⟩
 rw[ew]at f1 f2;obtain⟨g1,g2⟩:=f2 t GR;refine⟨_,rfl,_,rfl,by omega,_,rfl,(by rw[eN];rfl),fun p0 hp0=>?_⟩;rw[eN,ew];have sb:SD.Sub M (au M p0 (.lst ((t::rest).map D.str))):=.new hp0 .refl;have hm:au M p0 (.lst ((t::rest).map D.str)) p0=some (.lst ((t::rest).map D.str)):=ag;generalize au M p0 (.lst ((t::rest).map D.str))=M1 at sb hm;have at0:atI ((t::rest).map D.str) 0=some (.str t):=gi _;refine⟨_,rfl,_,_,hm,at0,?_⟩;(try dsimp only[SD.aK])
 have none_:rdq z=none->∀{M'},SD.Sub M M'->Ret Q .non M':=fun h {M'} s=>⟨M',.refl,by have:=k M' s;rw[h]at this;exact this⟩;refine aT (fun δ M'=>M'=M1/\∃tp,Top t tp/\tp.length<=900001/\tp.cps.all (· < 128)=true/\δ=[some (.str z),some (.ref p0),some (.str tp),none]) ?_ (fun hu=>?_);rotate_left
 ·refine⟨_,rfl,_,rfl,by omega,_,rfl,?_⟩;cases et:t.cps.toList with
  |nil=>
   have n1:t.cps.toList[0]?≠some 45:=by rw[et];simp
   refine cu (decide_eq_false fun e=>?_) (hu _ _ ⟨rfl,t,⟨fun h=>absurd h n1,fun _=>rfl⟩,by omega,cy asc g2,rfl⟩)
   have a:=congrArg (fun x:Str=>x.cps.toList) e
   rw[ko]at a
   have:(45:Nat)∈t.cps.toList:=nJ _ (by rw[a];simp)
   rw[et]at this
   cases this
  |cons c r=>
   rw[si et,ko]
   by_cases hc:c=45
   ·subst hc;refine bS (decide_eq_true rfl) ⟨_,rfl,_,rfl,by omega,?_⟩;have er:(Str.mk r.toArray).cps.toList=r:=by simp
    rw[ma (x:=t) (y:=Str.mk r.toArray) (c:=45) (by rw[et,er])];refine hu _ _ ⟨rfl,_,⟨fun _=>by rw[et,er],fun h=>absurd (by rw[et];rfl) h⟩,?_,?_,rfl⟩
    ·rw[bg,er];rw[bg,et]at g1;simp at g1;omega
    ·exact cy asc (fun d hd=>g2 d (by rw[et];rw[er]at hd;exact Gr _ hd))
   ·have n1:t.cps.toList[0]?≠some 45:=by rw[et];simpa using hc
    exact cu (decide_eq_false fun e=>hc (by have:=congrArg (fun x:Str=>x.cps.toList) e;simpa using this)) (hu _ _ ⟨rfl,t,⟨fun h=>absurd h n1,fun _=>rfl⟩,by omega,cy asc g2,rfl⟩)
 rintro δ M' ⟨rfl,tp,T0,lt,at',rfl⟩;have lr:((t::rest).map D.str).length=rest.length+1:=by simp
 have no1:(∀n,¬Wh tp n)->rdq z=none:=fun h=>jm fun q hq e=>by
  have:t=iT q.num:=by
   by_cases d:(q.den:Int)=1
   ·rw[e,dC d]at ew;exact(List.cons.inj ew).1.symm
   ·rw[e,d6 d]at ew;exact(List.cons.inj ew).1.symm
  rw[this]at T0
  exact h _ (T0.E1 hq.1)
 have no2:1<rest.length->rdq z=none:=fun h=>jm fun q hq e=>by
  by_cases d:(q.den:Int)=1
  ·rw[e,dC d]at ew;rw[<-(List.cons.inj ew).2]at h;simp at h
  ·rw[e,d6 d]at ew;rw[<-(List.cons.inj ew).2]at h;simp at h
 have no3:t=G1 "-0"->rdq z=none:=fun h=>jm fun q hq e=>by
  have:t=iT q.num:=by
   by_cases d:(q.den:Int)=1
   ·rw[e,dC d]at ew;exact(List.cons.inj ew).1.symm
   ·rw[e,d6 d]at ew;exact(List.cons.inj ew).1.symm
  exact CH _ (this.symm.trans h)
 (try dsimp only[SD.aK])
 refine aT (fun δ M2=>M2=M'/\δ=[some (.str z),some (.ref p0),some (.str tp),none]/\rest.length<=1/\(∃n,Wh tp n)/\t≠G1 "-0") ?_ (fun hu=>?_);rotate_left
 ·(try dsimp only[SD.bM,SD.bE,SD.aK,SD.bR,SD.bP,SD.bc,SD.bo,SD.tBD,SD.bQ])
  by_cases h1:1<rest.length
  ·refine orT true true (fun K hK=>⟨_,rfl,_,hm,trivial,_,rfl,?_⟩) (fun h=>nomatch h) (bS rfl (none_ (no2 h1) sb));dsimp only;rw[decide_eq_true (by rw[lr];omega)];exact hK
  ·have len1:∀{K:Bool->MH->Prop},K false M'->K ((fun i j:Int=>decide (j<i)) (((t::rest).map D.str).length:Int) 2) M':=fun{K} hK=>by dsimp only;rw[decide_eq_false (by rw[lr];omega)];exact hK
   by_cases h2:∃n,Wh tp n
   ·have wh:∀{K:Bool->MH->Prop},K false M'->(sD1 Cn_law_is_whole) [.str tp] M' fun x M1=>IsBl x M1 fun b M1=>K (!b) M1:=fun{K} hK=>⟨_,rfl,at',lt,fun _ _=>⟨_,rfl,hK⟩,fun h=>absurd h2 (by rintro⟨n,hn⟩;exact h n hn)⟩;by_cases h3:t=G1 "-0"
    ·refine orT false true (fun K hK=>⟨_,rfl,_,hm,trivial,_,rfl,len1 hK⟩) (fun _ K hK=>orT false true (fun K' hK'=>⟨_,rfl,wh hK'⟩) (fun _ K' hK'=>⟨_,rfl,_,_,hm,at0,_,rfl,?_⟩) hK) (bS rfl (none_ (no3 h3) sb));rw[decide_eq_true h3];exact hK'
    ·refine orT false false (fun K hK=>⟨_,rfl,_,hm,trivial,_,rfl,len1 hK⟩) (fun _ K hK=>orT false false (fun K' hK'=>⟨_,rfl,wh hK'⟩) (fun _ K' hK'=>⟨_,rfl,_,_,hm,at0,_,rfl,?_⟩) hK) (cu rfl (hu _ _ ⟨rfl,rfl,by omega,h2,h3⟩));rw[decide_eq_false h3];exact hK'
   ·have h2':∀n,¬Wh tp n:=fun n hn=>h2 ⟨n,hn⟩;exact orT false true (fun K hK=>⟨_,rfl,_,hm,trivial,_,rfl,len1 hK⟩) (fun _ K hK=>orT true true (fun K' hK'=>⟨_,rfl,_,rfl,at',lt,fun n hn=>absurd hn (h2' n),fun _=>⟨_,rfl,hK'⟩⟩) (fun h=>nomatch h) hK) (bS rfl (none_ (no1 h2') sb))
 rintro δ M2 ⟨rfl,rfl,r1,⟨n,hn⟩,t0⟩;obtain⟨a,ta,an⟩:=T0.iT hn t0;have n30:=hn.2
 obtain⟨bt,hb⟩:∃bt:Str,(rest=[]/\bt=G1 "1")\/rest=[bt]:=by
  match rest,r1 with
  |[],_=>exact⟨_,.inl ⟨rfl,rfl⟩⟩
  |[b],_=>exact⟨b,.inr rfl⟩
 have ab:bt.cps.all (· < 128)=true/\bt.length<=900001:=by
  rcases hb with⟨_,e⟩|e
  ·rw[e];exact⟨by decide +kernel,by decide +kernel⟩
  ·have:=f2 bt (by rw[e];simp);exact⟨cy asc this.2,by omega⟩
 have at1:atI (((t::rest).map D.str)++[D.str "1"]) 1=some (.str bt):=by
  rcases hb with⟨e1,e2⟩|e
  ·rw[e1,e2];rfl
  ·rw[e];rfl
 (try dsimp only[SD.aK])
 refine aT (fun δ M3=>SD.Sub M2 M3/\δ=[some (.str z),some (.ref p0),some (.str tp),some (.str bt)]) ?_ (fun hu=>?_);rotate_left
 ·refine⟨_,rfl,nbL rfl,fun p1 hp1=>?_⟩;exact⟨_,_,(SD.Sub.new hp1 .refl) _ _ hm,ag,(by rw[lr];show _+1<=_;omega),fun p2 hp2=>⟨_,_,ag,at1,hu _ _ ⟨.new hp2 (.new hp1 .refl),rfl⟩⟩⟩
 rintro δ M3 ⟨s3,rfl⟩;have sb3:=sb.trans s3;have hm3:=s3 _ _ hm
 have noB:rest=[bt]->(∀q:Rat,N30 q->bt=iT (q.den:Int)->¬(q.den:Int)=1->False)->rdq z=none:=fun e h=>jm fun q hq ez=>by
  rw[e]at ew;by_cases d:(q.den:Int)=1
  ·rw[ez,dC d]at ew;cases ew
  ·rw[ez,d6 d]at ew;exact h q hq (List.cons.inj (List.cons.inj ew).2).1.symm d
 (try dsimp only[SD.aK])
 refine aT (fun δ M4=>M4=M3/\δ=[some (.str z),some (.ref p0),some (.str tp),some (.str bt)]/\∃m,Wh bt m/\m≠0/\(rest=[bt]->bt≠G1 "1")) ?_ (fun hu=>?_);rotate_left
 ·(try dsimp only[SD.bM,SD.bE,SD.aK,SD.bR,SD.bP,SD.bc,SD.bo,SD.tBD,SD.bQ])
  by_cases h1:∃m,Wh bt m
  ·obtain⟨m,wb⟩:=h1;have lb:=wb.len;have wh:∀{K:Bool->MH->Prop},K false M3->(sD1 Cn_law_is_whole) [.str bt] M3 fun x M1=>IsBl x M1 fun b M1=>K (!b) M1:=fun{K} hK=>⟨_,rfl,ab.1,ab.2,fun _ _=>⟨_,rfl,hK⟩,fun h=>absurd wb (h m)⟩;by_cases h2:m=0
   ·refine orT false true (fun K hK=>⟨_,rfl,wh hK⟩) (fun _ K hK=>orT true true (fun K' hK'=>⟨_,rfl,_,wb.read,by omega,_,rfl,?_⟩) (fun h=>nomatch h) hK) (bS rfl (none_ ?_ sb3))
    ·rw[decide_eq_true (by omega)];exact hK'
    ·rcases hb with⟨_,e⟩|e
     ·rw[e]at wb;have:=dk.mp wb;omega
     ·refine noB e fun q hq eb d=>?_;have:=di wb.2 hq.2 (by rw[<-wb.1,eb,dh]);have:=q.den_pos;omega
   ·have int0:∀{K:Bool->MH->Prop},K false M3->K (decide ((m:Int)=0)) M3:=fun{K} hK=>by rw[decide_eq_false (by omega)];exact hK
    by_cases h3:rest=[bt]/\bt=G1 "1"
    ·refine orT false true (fun K hK=>⟨_,rfl,wh hK⟩) (fun _ K hK=>orT false true (fun K' hK'=>⟨_,rfl,_,wb.read,by omega,_,rfl,int0 hK'⟩) (fun _ K' hK'=>l0 true true (fun K2 hK2=>⟨_,rfl,_,hm3,_,rfl,?_⟩) (fun _ K2 hK2=>⟨_,rfl,_,rfl,?_⟩) hK') hK) (bS rfl (none_ ?_ sb3))
     ·rw[decide_eq_true (by rw[lr,h3.1];rfl)];exact hK2
     ·rw[decide_eq_true h3.2];exact hK2
     ·refine noB h3.1 fun q hq eb d=>d ?_;rw[h3.2]at wb;have m1:=dk.mp wb;have:=di (m:=q.den) (n:=1) (by decide) hq.2 (by rw[<-dh q.den,<-eb,h3.2];exact(dk.mpr rfl).1.symm);omega
    ·have go:=hu _ _ ⟨rfl,rfl,m,wb,h2,fun e q=>h3 ⟨e,q⟩⟩;by_cases h4:rest=[bt]
     ·refine orT false false (fun K hK=>⟨_,rfl,wh hK⟩) (fun _ K hK=>orT false false (fun K' hK'=>⟨_,rfl,_,wb.read,by omega,_,rfl,int0 hK'⟩) (fun _ K' hK'=>l0 true false (fun K2 hK2=>⟨_,rfl,_,hm3,_,rfl,?_⟩) (fun _ K2 hK2=>⟨_,rfl,_,rfl,?_⟩) hK') hK) (cu rfl go)
      ·rw[decide_eq_true (by rw[lr,h4];rfl)];exact hK2
      ·rw[decide_eq_false (fun q=>h3 ⟨h4,q⟩)];exact hK2
     ·refine orT false false (fun K hK=>⟨_,rfl,wh hK⟩) (fun _ K hK=>orT false false (fun K' hK'=>⟨_,rfl,_,wb.read,by omega,_,rfl,int0 hK'⟩) (fun _ K' hK'=>l0 false false (fun K2 hK2=>⟨_,rfl,_,hm3,_,rfl,?_⟩) (fun h=>nomatch h) hK') hK) (cu rfl go);have e:rest=[]:=by rcases hb with⟨e,_⟩|e;exact e;exact absurd e h4
      rw[decide_eq_false (by rw[lr,e];decide)];exact hK2
  ·have h1':∀m,¬Wh bt m:=fun m h=>h1 ⟨m,h⟩;refine orT true true (fun K hK=>⟨_,rfl,_,rfl,ab.1,ab.2,fun m h=>absurd h (h1' m),fun _=>⟨_,rfl,hK⟩⟩) (fun h=>nomatch h) (bS rfl (none_ ?_ sb3));rcases hb with⟨_,e⟩|e
   ·exact absurd (by rw[e];exact dk.mpr rfl) (h1' 1)
   ·exact noB e fun q hq eb d=>h1' q.den ⟨by rw[eb,dh],hq.2⟩
 rintro δ M4 ⟨rfl,rfl,m,wb,m0,b1⟩;have lb:=wb.len;have ln:=hn.len;have bn:Bd 8000 (n:Int):=(b30 (show((n:Nat):Int).natAbs<10^30 by omega)).mono (by decide);have bm:Bd 8000 (m:Int):=(b30 (show((m:Nat):Int).natAbs<10^30 by have:=wb.2;omega)).mono (by decide);refine⟨_,rfl,_,hn.read,by omega,_,rfl,_,wb.read,by omega,_,_,rfl,rfl,by omega,bn,bm,?_⟩;refine⟨_,rfl,_,hn.read,by omega,_,rfl,_,wb.read,by omega,nbL rfl,_,_,Pd.of rfl,Pd.of rfl,rfl,rfl,_,rfl,?_⟩;rw[gP];have la:(iT a).length<=640:=by have:=gI (k:=29) (show a.natAbs<10^(29+1) by omega);omega
 have at0:atI ((t::rest).map D.str) 0=some (.str (iT a)):=at0.trans (by rw[ta]);have ra:=Au (a:=a) (by omega);refine br (fun c=>?_) (fun c=>?_)
 ·refine none_ ?_ sb3;have c:¬((Rat.divInt (n:Int) (m:Int)).num=n/\((Rat.divInt (n:Int) (m:Int)).den:Int)=m):=by rw[Hu,decide_eq_false_iff_not]at c;exact c
  rcases hb with⟨_,e⟩|e
  ·rw[e]at wb;have m1:=dk.mp wb;subst m1;exact absurd (by rw[show Rat.divInt (n:Int) ((1:Nat):Int)=((n:Int):Rat)from FG n];simp) c
  ·rw[ub (tp:=tp) (by rw[ew,e]) ta an n30 wb m0 (b1 e),if_neg c]
 ·have c:((Rat.divInt (n:Int) (m:Int)).num=n/\((Rat.divInt (n:Int) (m:Int)).den:Int)=m):=by rw[Bool.not_eq_true,Bool.not_eq_false',decide_eq_true_iff]at c;exact c
  refine⟨_,rfl,_,_,hm3,at0,_,ra,la,_,rfl,_,wb.read,by omega,nbL rfl,?_⟩;have kk:=k M4 sb3;rcases hb with⟨e0,e⟩|e
  ·rw[e]at wb;have m1:=dk.mp wb;subst m1;have hz:z=t:=by rw[<-J4 z ⟨#[47]⟩,ew,e0];rfl
   have d1:((a:Rat).den:Int)=1:=by simp
   rw[iw (q:=(a:Rat)) ⟨by simp;omega,by simp⟩ (by rw[d9 d1,hz,ta];simp)]at kk;have kk:Q (.tup [.int (a:Rat).num,.int ((a:Rat).den:Int)]) M4:=kk;rw[d1]at kk;exact rtn (by simpa using kk)
  ·have c':=(k7 an).mp c;rw[ub (tp:=tp) (by rw[ew,e]) ta an n30 wb m0 (b1 e),if_pos c]at kk;have kk:Q (.tup [.int (Rat.divInt a m).num,.int ((Rat.divInt a m).den:Int)]) M4:=kk;rw[c'.1,c'.2]at kk;exact rtn kk
theorem bD:FnScope ["_law_line","_law_words","_law_found","_law_one","_law_two","_law_three","_law_four"] ["_law_line"] (ao g6):=by walk_at "sc"
inductive Cn_law_shut_in(x:D)(M:MH)(Q:DK):Prop
 |mk (z:Str) (_:x=.str z) (_:z.cps.all (· < 128)=true) (_:z.length<=900000) (_:∀M',SD.Sub M M'->Q (opW (rdo z)) M')
theorem mG(T:Tx K mg):Cal P w K mg base 3 "_law_shut_in" (sD1 Cn_law_shut_in):=by
 refine eJ (k:=2) T.f_law_shut_in bD fun f cdv A outer s H E hr=>⟨_,(ai (ay 1 bD.nd (cO (dv 0) (aa aE ae))) (ai (eD 2 bD.nd (CScope.of (xs:=["_law_word"]) (js:=[]) rfl) rfl (cB (aR (dv 1) (aZ af) bz)) (fun _ _ _ _=>b8) (fun _ _ _ _=>(ak (gy T).m hr (aa (dv 0) ae)))) (ai (aN (dF (cV (aA (eC hr.units) (aX (dv 1) af) aE) (cV (aA (eC hr.units) (aI cx rfl T.b_len cI (aa (dv 1) ae)) af) (c6 (aA (t4 (oi hr)) aU (dv 2) (by with_unfolding_all rfl)))))) (aj (ax aU)) aD) (ai (cM (dv 2) (w8 rfl (aw (aB 3 bD.nd) (aw (aB 4 bD.nd) (aw (aB 5 bD.nd) (aw (aB 6 bD.nd) ba)))))) (ai (aN (aA (bj hr.units) (dv 3) (dv 5)) (aj (eQ 3 5 rfl bD.nd (aa (dv 4) (aa (dv 6) ae)))) aD) (ai (aN (aA (jr hr.units) (ar aG (aX (dv 3) af) (aX (dv 5) af)) (ar aG (aX (dv 5) af) (aX (dv 3) af))) (aj (ax aU)) aD) (aj (ax (aH (aa (aH (aa (aX (dv 2) af) (aa (aX (dv 2) af) ae))) (aa (aH (aa (aX (dv 2) af) (aa (aX (dv 2) af) ae))) ae))))))))))),fun _ M Q h=>?_⟩;obtain⟨z,rfl,asc,hl,k⟩:=h;have sz:1000000<=Gp:=nbL rfl;obtain⟨f1,f2⟩:=cT 32 z
 obtain⟨wd,ws,ew⟩:∃wd ws,Hf z ⟨#[32]⟩=wd::ws:=by
  cases e:Hf z ⟨#[32]⟩with
  |nil=>exact absurd e (cZ z 32)
  |cons a b=>exact⟨a,b,rfl⟩
 have iff:=gW ew;rw[ew]at f1 f2;have lw:ws.length<=900000:=by simp at f1;omega
 refine⟨_,rfl,_,rfl,by omega,_,rfl,(by rw[dB];rfl),fun p0 hp0=>?_⟩;rw[dB,ew];have ct:cutD (Hz D.str (wd::ws)) (some 1) none=ws.map D.str:=p6 _ _;refine⟨_,rfl,_,rfl,_,ag,fun p1 hp1=>?_⟩;rw[ct];refine⟨_,ag,comp_map (fun i=>opF ((ws[i]?).bind rdq)) (by show(Hz D.str ws).length<=_;rw[G7];omega) (fun p ys hp=>?_) ?_ (fun p2 hp2=>?_)⟩
 ·show(au _ p _) p1=_;rw[aq (aC ag hp)];exact ag
 ·intro j e M3 hj he sb3;have he:(ws.map D.str)[j]?=some e:=he;rw[Gs]at he;cases ej:ws[j]? with
  |none=>rw[ej]at he;cases he
  |some x=>
   rw[ej]at he
   cases he
   obtain⟨g1,g2⟩:=f2 x (Gr _ (GL ej))
   refine⟨_,rfl,fun K2 hK2=>⟨_,rfl,x,rfl,cy asc g2,by omega,fun M' s'=>?_⟩⟩
   rw[Ha]at hK2
   exact hK2 M' s'
 have hlen:(Hz D.str ws).length=ws.length:=G7 ..
 have mp:(HD (Hz D.str ws).length).map (fun i=>opF ((ws[i]?).bind rdq))=(ws.map rdq).map opF:=by
  rw[hlen,List.map_map];refine List.ext_getElem? fun i=>?_;rw[Gs,Gs];by_cases hi:i<ws.length
  ·rw[List.getElem?_range hi,GQ hi];simp[hi]
  ·rw[Hx (by simpa using hi),Hx (by simpa using hi)];rfl
 dsimp only;rw[mp];have hm0:(au (au (au M p0 (.lst ((wd::ws).map D.str))) p1 (.lst (ws.map D.str))) p2 (.lst ((ws.map rdq).map opF))) p0=some (.lst ((wd::ws).map D.str)):=by rw[aq (aC ((SD.Sub.new hp1 .refl) _ _ ag) hp2),aq (aC ag hp1)];exact ag
 have sb0:SD.Sub M (au (au (au M p0 (.lst ((wd::ws).map D.str))) p1 (.lst (ws.map D.str))) p2 (.lst ((ws.map rdq).map opF))):=.new hp2 (.new hp1 (.new hp0 .refl));have hm2:(au (au (au M p0 (.lst ((wd::ws).map D.str))) p1 (.lst (ws.map D.str))) p2 (.lst ((ws.map rdq).map opF))) p2=some (.lst ((ws.map rdq).map opF)):=ag;generalize au (au (au M p0 (.lst ((wd::ws).map D.str))) p1 (.lst (ws.map D.str))) p2 (.lst ((ws.map rdq).map opF))=M2 at sb0 hm2 hm0;have at0:atI ((wd::ws).map D.str) 0=some (.str wd):=gi _;have l2:((wd::ws).map D.str).length=ws.length+1:=by simp
 have none_:rdo z=none->Ret Q .non M2:=fun h=>⟨M2,.refl,by have:=k M2 sb0;rw[h]at this;exact this⟩;(try dsimp only[SD.aK])
 refine aT (fun δ M'=>M'=M2/\δ=[some (.str z),some (.ref p0),some (.ref p2),none,none,none,none]/\∃U,rdr z=some U) ?_ (fun hu=>?_);rotate_left
 ·(try dsimp only[SD.bM,SD.bE,SD.aK,SD.bR,SD.bP,SD.bc,SD.bo,SD.tBD,SD.bQ])
  refine orT (!decide (wd=G1 "wall")) (!decide ((ws.length:Int)+1=5)||(ws.map rdq).any (fun o=>o.isNone)) (fun K hK=>⟨_,rfl,_,_,hm0,at0,_,rfl,hK⟩) (fun _ K hK=>?_) ?_
  ·refine orT _ _ (fun K' hK'=>⟨_,rfl,_,hm0,_,rfl,?_⟩) (fun _ K' hK'=>?_) hK
   ·rw[l2];exact hK'
   ·refine⟨_,rfl,_,_,.non,.inl (.lst hm2 (iX _)),rfl,iN _,_,rfl,?_⟩;rw[iL];exact hK'
  refine br (fun hc=>?_) (fun hc=>?_)
  ·refine none_ (r9 ?_);cases er:rdr z with
   |none=>rfl
   |some U=>
    obtain⟨e1,e2⟩:=(iff U).mp er
    have e3:ws.length=4:=by have:=congrArg List.length e2;simpa using this
    rw[e1,e2,e3]at hc
    simp at hc
  ·obtain⟨c1,c2,c3⟩:wd=G1 "wall"/\ws.length=4/\(ws.map rdq).any (fun o=>o.isNone)=false:=by simp only[Ja,not_or,Bool.not_eq_true,Bool.not_eq_false',decide_eq_true_eq]at hc;exact⟨hc.1,by have:=hc.2.1;omega,hc.2.2⟩
   obtain⟨U,eU⟩:∃U:RW,ws.map rdq=[some U.1,some U.2.1,some U.2.2.1,some U.2.2.2]:=by
    match ws,c2,c3 with
    |[x1,x2,x3,x4],_,c3=>
     cases e1:rdq x1<;>cases e2:rdq x2<;>cases e3:rdq x3<;>cases e4:rdq x4<;>simp[e1,e2,e3,e4]at c3
     rename_i a b c d
     exact⟨(a,b,c,d),by simp[e1,e2,e3,e4]⟩
   exact hu _ _ ⟨rfl,rfl,U,(iff U).mpr ⟨c1,eU⟩⟩
 rintro δ M' ⟨rfl,rfl,U,hU⟩;have eU:=((iff U).mp hU).2;rw[eU]at hm2;have hm2:M' p2=some (.lst [Ma.fr U.1,Ma.fr U.2.1,Ma.fr U.2.2.1,Ma.fr U.2.2.2]):=hm2;have N:=(lP hU).1.nq;refine⟨_,rfl,p2,_,rfl,hm2,rfl,_,_,rfl,_,_,rfl,_,_,rfl,_,_,rfl,rfl,?_⟩;(try dsimp only[SD.aK])
 refine aT (fun δ M2=>M2=M'/\∃x y o4 o6,δ=[some (.str z),some (.ref p0),some (.ref p2),some (Ma.fr x),o4,some (Ma.fr y),o6]/\Ma.Bq 100 x/\Ma.Bq 100 y/\(OwQ U↔x<y)) ?_ (fun hu=>?_);rotate_left
 ·refine⟨_,rfl,_,rfl,_,_,Pd.of rfl,Pd.of rfl,rfl,rfl,_,rfl,?_⟩;rw[Ma.lR];refine br (fun e=>?_) (fun e=>?_)
  ·have e:U.1=U.2.2.1:=of_decide_eq_true e;refine⟨_,rfl,_,rfl,_,_,rfl,hu _ _ ⟨rfl,U.2.1,U.2.2.2,_,_,rfl,N.b,N.d,?_⟩⟩;unfold OwQ Ma.ah;rw[e];exact⟨fun h=>h.elim (fun h=>absurd h (Rat.lt_irrefl)) (fun h=>h.2),fun h=>.inr ⟨rfl,h⟩⟩
  ·have e:¬U.1=U.2.2.1:=fun q=>e (decide_eq_true q);refine hu _ _ ⟨rfl,U.1,U.2.2.1,_,_,rfl,N.a,N.c,?_⟩;unfold OwQ Ma.ah;exact⟨fun h=>h.elim id (fun h=>absurd h.1 e),fun h=>.inl h⟩
 rintro δ M2 ⟨rfl,x,y,o4,o6,rfl,bx,by',ow⟩;have bm:=bx.mOk by' (by decide)
 refine⟨_,rfl,_,rfl,_,rfl,_,rfl,bm.2.1,_,rfl,_,rfl,_,rfl,_,rfl,bm.2.2.1,trivial,_,rfl,?_⟩;refine br (fun c=>?_) (fun c=>?_)
 ·refine none_ (pN hU fun q=>?_);have:=(Rat.lt_iff _ _).mp (ow.mp q);have c:=of_decide_eq_true c;omega
 ·have c:¬(y.num*(x.den:Int)<=x.num*(y.den:Int)):=fun q=>c (decide_eq_true q);have o:OwQ U:=ow.mpr ((Rat.lt_iff _ _).mpr (by omega));have kk:=k M2 sb0;rw[oO hU o]at kk;refine⟨_,rfl,_,_,hm2,rfl,_,rfl,_,_,hm2,rfl,nbL rfl,_,rfl,_,_,hm2,rfl,_,rfl,_,_,hm2,rfl,nbL rfl,nbL rfl,rtn kk⟩
theorem mO:FnScope ["_law_one","_law_other"] ["_law_one","_law_other"] (ao iP):=by walk_at "sc"
inductive Cn_law_before(x y:D)(M:MH)(Q:DK):Prop
 |mk (a b c d:Rat) (_:x=Ma.spt a b) (_:y=Ma.spt c d) (_:Ma.Bq 100 a) (_:Ma.Bq 100 b) (_:Ma.Bq 100 c) (_:Ma.Bq 100 d) (_:Q (.bl (decide (Ma.ah a b c d))) M)
theorem jh(T:Tx K mg):Cal P w K mg base 1 "_law_before" (sD2 Cn_law_before):=by
 refine bW (k:=0) T.f_law_before mO fun f cdv A outer s H E hr=>⟨_,(ai (aN (aA (nE hr.units) (av (dv 0) af) (av (dv 1) af)) (aj (ax (bX (eP hr.units) (ar aG (av (av (dv 0) af) af) (av (av (dv 1) af) af)) (ar aG (av (av (dv 1) af) af) (av (av (dv 0) af) af))))) aD) (aj (ax (bX (eP hr.units) (ar aG (av (av (dv 0) af) af) (av (av (dv 1) af) af)) (ar aG (av (av (dv 1) af) af) (av (av (dv 0) af) af)))))),fun _ _ M Q h=>?_⟩;obtain⟨a,b,c,d,rfl,rfl,ha,hb,hc,hd,k⟩:=h;have lt:∀(q r:Rat),decide (q.num*(r.den:Int)<r.num*(q.den:Int))=decide (q<r):=Ma.A8;have m1:=ha.mOk hc (by decide);have m2:=hb.mOk hd (by decide);refine⟨_,rfl,_,rfl,_,rfl,_,rfl,_,_,Pd.of rfl,Pd.of rfl,rfl,rfl,_,rfl,?_⟩;rw[Ma.lR];refine br (fun e=>?_) (fun e=>?_)
 ·have e:¬a=c:=by simpa using e
  refine⟨_,rfl,_,rfl,_,rfl,_,rfl,_,rfl,_,rfl,m1.2.1,_,rfl,_,rfl,_,rfl,_,rfl,_,rfl,_,rfl,m1.2.2.1,trivial,?_⟩;dsimp only;rw[lt,decide_eq_decide.mpr (show a<c↔Ma.ah a b c d from⟨fun h=>.inl h,fun h=>h.elim id (fun h=>absurd h.1 e)⟩)];exact rtn k
 ·have e:a=c:=by simpa using e
  subst e;refine⟨_,rfl,_,rfl,_,rfl,_,rfl,_,rfl,_,rfl,m2.2.1,_,rfl,_,rfl,_,rfl,_,rfl,_,rfl,_,rfl,m2.2.2.1,trivial,?_⟩;dsimp only;rw[lt,decide_eq_decide.mpr (show b<d↔Ma.ah a b a d from⟨fun h=>.inr ⟨rfl,h⟩,fun h=>h.elim (fun h=>absurd h Rat.lt_irrefl) (fun h=>h.2)⟩)];exact rtn k
theorem aP:FnScope ["_law_one","_law_two","_law_three","_law_gaps","_law_spot_here","_law_place","_law_a","_law_b","_law_c","_law_d","_law_e","_law_f","_law_g","_law_h","_law_found"] ["_law_one","_law_two","_law_three"] (ao jS):=by walk_at "sc"
def gpD(q r:Rat):D:=.tup [.int (q.num*(r.den:Int)-r.num*(q.den:Int)),.int ((q.den:Int)*(r.den:Int))]
inductive Cn_law_cross(u v w:D)(M:MH)(Q:DK):Prop
 |mk (x0 y0 x1 y1 x2 y2:Rat) (_:u=Ma.spt x0 y0) (_:v=Ma.spt x1 y1) (_:w=Ma.spt x2 y2) (_:Ma.Bq 100 x0) (_:Ma.Bq 100 y0) (_:Ma.Bq 100 x1) (_:Ma.Bq 100 y1) (_:Ma.Bq 100 x2) (_:Ma.Bq 100 y2) (_:∀M',SD.Sub M M'->Q (.int (Ma.sgn (Ma.cr x0 y0 x1 y1 x2 y2))) M')
theorem gF(T:Tx K mg):Cal P w K mg base 1 "_law_cross" (sD3 Cn_law_cross):=by
 refine qu (k:=0) T.f_law_cross aP fun f cdv A outer s H E hr=>⟨_,(ai (ay 3 aP.nd (aS ae)) (ai (ft HE rfl (cB (aH (aa (dv 1) (aa (dv 2) ae)))) (aB 4 aP.nd) (aj (kr HE rfl rfl T.b_range (aa af ae) (aB 5 aP.nd) (ai (cM (aH (aa (av (dv 4) (dv 5)) (aa (av (dv 0) (dv 5)) ae))) (bH rfl (aw (bH rfl (aw (aB 6 aP.nd) (aw (aB 7 aP.nd) ba))) (aw (bH rfl (aw (aB 8 aP.nd) (aw (aB 9 aP.nd) ba))) ba)))) (aj (du (bF (dv 3) (aa (aH (aa (ar cD (ar aG (dv 6) (dv 9)) (ar aG (dv 8) (dv 7))) (aa (ar aG (dv 7) (dv 9)) ae))) ae)))))))) (ai (cM (dv 3) (w8 rfl (aw (bH rfl (aw (aB 6 aP.nd) (aw (aB 7 aP.nd) ba))) (aw (bH rfl (aw (aB 8 aP.nd) (aw (aB 9 aP.nd) ba))) (aw (bH rfl (aw (aB 10 aP.nd) (aw (aB 11 aP.nd) ba))) (aw (bH rfl (aw (aB 12 aP.nd) (aw (aB 13 aP.nd) ba))) ba)))))) (ai (ay 14 aP.nd (ar cD (ar aG (ar aG (ar aG (dv 6) (dv 12)) (dv 9)) (dv 11)) (ar aG (ar aG (ar aG (dv 8) (dv 10)) (dv 7)) (dv 13)))) (aj (ax (ar cD (aV jx rfl T.b_int de (aa (bX (iq hr.units) (dv 14) af) ae)) (aV jx rfl T.b_int de (aa (bX (eP hr.units) (dv 14) af) ae))))))))),fun _ _ _ M Q h=>?_⟩;obtain⟨x0,y0,x1,y1,x2,y2,rfl,rfl,rfl,hx0,hy0,hx1,hy1,hx2,hy2,k⟩:=h;refine⟨nbL rfl,fun l hl=>?_⟩;have sb0:SD.Sub M (au M l (.lst [])):=.new hl .refl;have h0:au M l (.lst []) l=some (.lst []):=ag;generalize au M l (.lst [])=M1 at sb0 h0;(try dsimp only[SD.aK])
 refine aT (fun δ M'=>SD.Sub M M'/\M' l=some (.lst [gpD x1 x0,gpD y1 y0,gpD x2 x0,gpD y2 y0])/\∃o4 o5 o6 o7 o8 o9,δ=[some (Ma.spt x0 y0),some (Ma.spt x1 y1),some (Ma.spt x2 y2),some (.ref l),o4,o5,o6,o7,o8,o9,none,none,none,none,none]) ?_ (fun hu=>?_);rotate_left
 ·have step:∀{q r:Rat},Ma.Bq 100 q->Ma.Bq 100 r->IntMulOk q.num (r.den:Int)/\IntMulOk r.num (q.den:Int)/\IntMulOk (q.den:Int) (r.den:Int):=fun a b=>(a.mOk b (by decide)).2;refine⟨_,rfl,_,rfl,nbL rfl,[Ma.spt x1 y1,Ma.spt x2 y2],rfl,?_⟩;refine⟨fun i δ M'=>SD.Sub M M'/\M' l=some (.lst ([gpD x1 x0,gpD y1 y0,gpD x2 x0,gpD y2 y0].take (2*i)))/\∃o4 o5 o6 o7 o8 o9,δ=[some (Ma.spt x0 y0),some (Ma.spt x1 y1),some (Ma.spt x2 y2),some (.ref l),o4,o5,o6,o7,o8,o9,none,none,none,none,none],⟨sb0,h0,_,_,_,_,_,_,rfl⟩,fun _ _ _ _ _=>rfl,?_,?_⟩
  ·rintro i d δ M' hi hd ⟨sb,hM,o4,o5,o6,o7,o8,o9,rfl⟩;have hi:i<2:=hi;have hd:[Ma.spt x1 y1,Ma.spt x2 y2][i]?=some d:=hd
   obtain⟨x,y,rfl,hx,hy,e1,e2⟩:∃x y,d=Ma.spt x y/\Ma.Bq 100 x/\Ma.Bq 100 y/\[gpD x1 x0,gpD y1 y0,gpD x2 x0,gpD y2 y0].take (2*i+1)=[gpD x1 x0,gpD y1 y0,gpD x2 x0,gpD y2 y0].take (2*i)++[gpD x x0]/\[gpD x1 x0,gpD y1 y0,gpD x2 x0,gpD y2 y0].take (2*(i+1))=[gpD x1 x0,gpD y1 y0,gpD x2 x0,gpD y2 y0].take (2*i+1)++[gpD y y0]:=by
    rcases(show i=0\/i=1 by omega)with rfl|rfl
    ·cases hd;exact⟨x1,y1,rfl,hx1,hy1,rfl,rfl⟩
    ·cases hd;exact⟨x2,y2,rfl,hx2,hy2,rfl,rfl⟩
   refine⟨2,rfl,by decide,fun j δ M''=>SD.Sub M M''/\M'' l=some (.lst ([gpD x1 x0,gpD y1 y0,gpD x2 x0,gpD y2 y0].take (2*i+j)))/\∃o5 o6 o7 o8 o9,δ=[some (Ma.spt x0 y0),some (Ma.spt x1 y1),some (Ma.spt x2 y2),some (.ref l),some (Ma.spt x y),o5,o6,o7,o8,o9,none,none,none,none,none],⟨sb,hM,_,_,_,_,_,rfl⟩,?_,?_⟩
   ·rintro j δ M'' hj ⟨sb,hM,o5,o6,o7,o8,o9,rfl⟩;rcases(show j=0\/j=1 by omega)with rfl|rfl
    ·(repeat (first|refine⟨_,rfl,?_⟩|refine⟨trivial,?_⟩|refine⟨_,_,rfl,?_⟩|refine⟨rfl,?_⟩|refine⟨nbL rfl,?_⟩))
     have m:=step hx hx0;refine⟨l,_,rfl,hM,_,rfl,_,rfl,m.1,_,rfl,_,rfl,m.2.1,trivial,_,rfl,_,rfl,m.2.2,nbL rfl,_,_,rfl,hM,?_,?_⟩
     ·have:=List.length_take_le (2*i+0) [gpD x1 x0,gpD y1 y0,gpD x2 x0,gpD y2 y0];omega
     ·refine⟨fun u o e=>by rw[aq (aC e hl)];exact sb _ _ e,?_,_,_,_,_,_,rfl⟩;rw[ag,e1];rfl
    ·(repeat (first|refine⟨_,rfl,?_⟩|refine⟨trivial,?_⟩|refine⟨_,_,rfl,?_⟩|refine⟨rfl,?_⟩|refine⟨nbL rfl,?_⟩))
     have m:=step hy hy0;refine⟨l,_,rfl,hM,_,rfl,_,rfl,m.1,_,rfl,_,rfl,m.2.1,trivial,_,rfl,_,rfl,m.2.2,nbL rfl,_,_,rfl,hM,?_,?_⟩
     ·have:=List.length_take_le (2*i+1) [gpD x1 x0,gpD y1 y0,gpD x2 x0,gpD y2 y0];omega
     ·refine⟨fun u o e=>by rw[aq (aC e hl)];exact sb _ _ e,?_,_,_,_,_,_,rfl⟩;rw[ag,show 2*i+(1+1)=2*(i+1) by omega,e2];rfl
   ·rintro δ M'' ⟨sb,hM,o5,o6,o7,o8,o9,rfl⟩;exact⟨sb,hM,_,_,_,_,_,_,rfl⟩
  ·rintro δ M' ⟨sb,hM,o4,o5,o6,o7,o8,o9,rfl⟩;exact hu _ _ ⟨sb,hM,_,_,_,_,_,_,rfl⟩
 rintro δ M' ⟨sb,hM,o4,o5,o6,o7,o8,o9,rfl⟩;refine⟨_,rfl,l,_,rfl,hM,rfl,?_⟩;(repeat (first|refine⟨_,rfl,?_⟩|refine⟨trivial,?_⟩|refine⟨_,_,rfl,?_⟩|refine⟨rfl,?_⟩|refine⟨nbL rfl,?_⟩))
 have mo:∀{m:Nat} {i:Int},Bd m i->m<=1000000->Bd 1000000 i:=fun z l=>z.mono l;have q1:=hx1.gZ hx0;have q2:=hy1.gZ hy0;have q3:=hx2.gZ hx0;have q4:=hy2.gZ hy0;have e1:=hx1.2.mul hx0.2;have e2:=hy1.2.mul hy0.2;have e3:=hx2.2.mul hx0.2;have e4:=hy2.2.mul hy0.2;refine⟨cQ (mo q1 (by decide)) (mo q4 (by decide)),_,rfl,cQ (mo (q1.mul q4) (by decide)) (mo e2 (by decide)),_,rfl,cQ (mo ((q1.mul q4).mul e2) (by decide)) (mo e3 (by decide)),?_⟩;refine⟨_,rfl,_,rfl,cQ (mo q2 (by decide)) (mo q3 (by decide)),_,rfl,cQ (mo (q2.mul q3) (by decide)) (mo e1 (by decide)),_,rfl,cQ (mo ((q2.mul q3).mul e1) (by decide)) (mo e4 (by decide)),trivial,?_⟩;refine⟨_,rfl,trivial,_,rfl,trivial,trivial,?_⟩;dsimp only;have pe:∀q r:Rat,0<(q.den:Int)*(r.den:Int):=fun q r=>HX (Ma.den_pos q) (Ma.den_pos r);have le:=Ma.uI x0 y0 x1 y1 x2 y2;have lp:=HX (HX (pe x1 x0) (pe y2 y0)) (HX (pe y1 y0) (pe x2 x0));have kk:=k M' sb;rw[<-le,Ma.tV lp]at kk;refine rtn ?_;have e9:∀p r s t v w:Int,p*r*s-t*v*w=p*(r*s)-t*(v*w):=fun p r s t v w=>by rw[Int.mul_assoc p r s,Int.mul_assoc t v w]
 rw[e9];generalize (x1.num*(x0.den:Int)-x0.num*(x1.den:Int))*(y2.num*(y0.den:Int)-y0.num*(y2.den:Int))*((y1.den:Int)*(y0.den:Int)*((x2.den:Int)*(x0.den:Int)))-(y1.num*(y0.den:Int)-y0.num*(y1.den:Int))*(x2.num*(x0.den:Int)-x0.num*(x2.den:Int))*((x1.den:Int)*(x0.den:Int)*((y2.den:Int)*(y0.den:Int)))=g at kk ⊢;rcases Ht g 0 with h|h|h
 ·rw[if_neg (by omega),if_pos h]at kk;rw[if_neg (by simp;omega),if_pos (by simpa using h)];exact kk
 ·rw[if_neg (by omega),if_neg (by omega)]at kk;rw[if_neg (by simp;omega),if_neg (by simp;omega)];exact kk
 ·rw[if_pos h]at kk;rw[if_pos (by simpa using h),if_neg (by simp;omega)];exact kk
theorem cC:FnScope ["_law_one","_law_other","_law_shut","_law_beside","_law_spot_here","_law_out","_law_sides","_law_others"] ["_law_one","_law_other"] (ao lK):=by walk_at "sc"
inductive Cn_law_fits(u v:D)(M:MH)(Q:DK):Prop
 |mk (U V:RW) (_:u=wq U) (_:v=wq V) (_:NQ 100 U) (_:NQ 100 V) (_:∀M',SD.Sub M M'->Q (.bl (cw U V)) M')
theorem sX(T:Tx K mg):Cal P w K mg base 2 "_law_fits" (sD2 Cn_law_fits):=by
 refine bW (k:=1) T.f_law_fits cC fun f cdv A outer s H E hr=>⟨_,(ai (aN (aA (fo hr.units) (dv 0) (dv 1)) (aj (ax iJ)) aD) (ai (ft HE rfl (cB (aH (aa (aH (aa (dv 0) (aa (dv 1) ae))) (aa (aH (aa (dv 1) (aa (dv 0) ae))) ae)))) (bH rfl (aw (aB 2 cC.nd) (aw (aB 3 cC.nd) ba))) (aj (ft HE rfl (cB (dv 3)) (aB 4 cC.nd) (ai (ay 5 cC.nd (tE (ak (jh T).m hr (aa (dv 4) (aa (av (dv 2) af) ae))) (iA (ak (jh T).m hr (aa (av (dv 2) af) (aa (dv 4) ae)))))) (aj (aN (dF (dq (aA (me (oi hr)) (dv 4) (dv 2) (by with_unfolding_all rfl)) (dq (fH (cJ (dv 5))) (c9 (aA (fo hr.units) (ak (gF T).m hr (aa (av (dv 2) af) (aa (av (dv 2) af) (aa (dv 4) ae)))) af))))) (aj (ax iJ)) aD)))))) (ai (eD 6 cC.nd (CScope.of (xs:=["_law_spot_here"]) (js:=[0]) rfl) rfl (cB (dv 1)) (fun _ _ _ _=>b8) (fun _ _ _ _=>(ak (gF T).m hr (aa (av (dv 1) af) (aa (av (dv 1) af) (aa (dv 0) ae)))))) (ai (eD 7 cC.nd (CScope.of (xs:=["_law_spot_here"]) (js:=[1]) rfl) rfl (cB (dv 0)) (fun _ _ _ _=>b8) (fun _ _ _ _=>(ak (gF T).m hr (aa (av (dv 1) af) (aa (av (dv 1) af) (aa (dv 0) ae)))))) (aj (ax (tE (bX (jr hr.units) (ar aG (av (dv 6) af) (av (dv 6) af)) af) (iA (bX (jr hr.units) (ar aG (av (dv 7) af) (av (dv 7) af)) af))))))))),fun _ _ M Q h=>?_⟩;obtain⟨U,V,rfl,rfl,HU,HV,k⟩:=h;refine⟨_,rfl,_,rfl,_,_,Pd.of rfl,Pd.of rfl,rfl,rfl,_,rfl,?_⟩;have ew:=yp U V;unfold fZ at ew;rw[ew];refine br (fun h=>rtn (by have k:=k M .refl;rw[C4 h]at k;exact k)) (fun h=>?_);have hne:eqQ U V=false:=eq_false_of_ne_true h;dsimp only[SD.bc];refine aT (fun δ M'=>SD.Sub M M'/\(∃o2 o3 o4 o5,δ=[some (wq U),some (wq V),o2,o3,o4,o5,none,none])/\(inQ U V.1 V.2.1=false/\inQ U V.2.2.1 V.2.2.2=false)/\(inQ V U.1 U.2.1=false/\inQ V U.2.2.1 U.2.2.2=false)) ?_ (fun hu=>?_);rotate_left
 ·refine⟨_,rfl,_,rfl,nbL rfl,_,rfl,_,rfl,nbL rfl,nbL rfl,[.tup [wq U,wq V],.tup [wq V,wq U]],rfl,?_⟩;refine⟨fun i δ M'=>SD.Sub M M'/\(∃o2 o3 o4 o5,δ=[some (wq U),some (wq V),o2,o3,o4,o5,none,none])/\(0<i->inQ U V.1 V.2.1=false/\inQ U V.2.2.1 V.2.2.2=false)/\(1<i->inQ V U.1 U.2.1=false/\inQ V U.2.2.1 U.2.2.2=false),⟨.refl,⟨_,_,_,_,rfl⟩,fun z=>absurd z (by decide),fun z=>absurd z (by decide)⟩,fun _ _ _ _ _=>rfl,?_,?_⟩
  ·rintro i d δ M' hi hd ⟨sb,⟨o2,o3,o4,o5,rfl⟩,p1,p2⟩;have hi:i<2:=hi;have hd:[D.tup [wq U,wq V],.tup [wq V,wq U]][i]?=some d:=hd
   have pick:∃A B,d=.tup [wq A,wq B]/\NQ 100 A/\NQ 100 B/\(inQ A B.1 B.2.1=true->cw U V=false)/\(inQ A B.2.2.1 B.2.2.2=true->cw U V=false)/\((inQ A B.1 B.2.1=false/\inQ A B.2.2.1 B.2.2.2=false)->(0<i+1->inQ U V.1 V.2.1=false/\inQ U V.2.2.1 V.2.2.2=false)/\(1<i+1->inQ V U.1 U.2.1=false/\inQ V U.2.2.1 U.2.2.2=false)):=by
    rcases(show i=0\/i=1 by omega)with rfl|rfl
    ·cases hd;exact⟨U,V,rfl,HU,HV,CN,Dm,fun z=>⟨fun _=>z,fun y=>absurd y (by decide)⟩⟩
    ·cases hd;exact⟨V,U,rfl,HV,HU,C0,C9,fun z=>⟨fun _=>p1 (by decide),fun _=>z⟩⟩
   obtain⟨A,B,rfl,HA,HB,f1,f2,nxt⟩:=pick;refine⟨_,rfl,rfl,_,_,rfl,_,_,rfl,rfl,?_⟩;refine⟨_,rfl,[Ma.spt B.1 B.2.1,Ma.spt B.2.2.1 B.2.2.2],rfl,?_⟩;refine⟨fun j δ M''=>SD.Sub M M''/\(∃o4 o5,δ=[some (wq U),some (wq V),some (wq A),some (wq B),o4,o5,none,none])/\(0<j->inQ A B.1 B.2.1=false)/\(1<j->inQ A B.2.2.1 B.2.2.2=false),⟨sb,⟨_,_,rfl⟩,fun z=>absurd z (by decide),fun z=>absurd z (by decide)⟩,fun _ _ _ _ _=>rfl,?_,?_⟩
   ·rintro j d δ M'' hj hd ⟨sb,⟨o4,o5,rfl⟩,q1,q2⟩;have hj:j<2:=hj;have hd:[Ma.spt B.1 B.2.1,Ma.spt B.2.2.1 B.2.2.2][j]?=some d:=hd
    have pk:∃x y,d=Ma.spt x y/\Ma.Bq 100 x/\Ma.Bq 100 y/\(inQ A x y=true->cw U V=false)/\(inQ A x y=false->(0<j+1->inQ A B.1 B.2.1=false)/\(1<j+1->inQ A B.2.2.1 B.2.2.2=false)):=by
     rcases(show j=0\/j=1 by omega)with rfl|rfl
     ·cases hd;exact⟨_,_,rfl,HB.a,HB.b,f1,fun z=>⟨fun _=>z,fun y=>absurd y (by decide)⟩⟩
     ·cases hd;exact⟨_,_,rfl,HB.c,HB.d,f2,fun z=>⟨fun _=>q1 (by decide),fun _=>z⟩⟩
    obtain⟨x,y,rfl,bx,by',ff,nx2⟩:=pk;(try dsimp only[SD.bM,SD.bE,SD.aK,SD.bR,SD.bP,SD.bc,SD.bo,SD.tBD,SD.bQ])
    refine orV (decide (Ma.ah x y A.1 A.2.1)) (decide (Ma.ah A.2.2.1 A.2.2.2 x y)) (fun K hK=>⟨_,rfl,_,rfl,_,rfl,_,_,_,_,rfl,rfl,bx,by',HA.a,HA.b,hK⟩) (fun _ K hK=>⟨_,rfl,_,rfl,_,rfl,_,_,_,_,rfl,rfl,HA.c,HA.d,bx,by',hK⟩) ?_;have ie:=De A x y;have gb:∀{M1},SD.Sub M M1->inQ A x y=false->_:=fun{M1} s1 c=>(⟨s1,⟨_,_,rfl⟩,nx2 c⟩:SD.Sub M M1/\(∃o4 o5,[some (wq U),some (wq V),some (wq A),some (wq B),some (Ma.spt x y),some (D.bl (decide (Ma.ah x y A.1 A.2.1)||decide (Ma.ah A.2.2.1 A.2.2.2 x y))),none,none]=[some (wq U),some (wq V),some (wq A),some (wq B),o4,o5,none,none])/\(0<j+1->inQ A B.1 B.2.1=false)/\(1<j+1->inQ A B.2.2.1 B.2.2.2=false));refine⟨_,rfl,_,rfl,zN _ _ ⟨_,rfl,?_⟩⟩;refine br (fun c1=>?_) (fun c1=>?_)
    ·refine⟨_,rfl,_,rfl,?_⟩;refine br (fun c2=>?_) (fun c2=>?_)
     ·refine⟨_,rfl,_,rfl,_,rfl,_,rfl,_,rfl,_,_,_,_,_,_,rfl,rfl,rfl,HA.a,HA.b,HA.c,HA.d,bx,by',fun M1 s1=>⟨_,rfl,?_⟩⟩;refine br (fun c3=>?_) (fun c3=>?_)
      ·refine rtn ?_;have:=k M1 (sb.trans s1);rw[ff (by rw[ie,c1,c2];exact c3)]at this;exact this
      ·exact gb (sb.trans s1) (by rw[ie,c1,c2];exact eq_false_of_ne_true c3)
     ·exact cu rfl (gb sb (by rw[ie,eq_false_of_ne_true c2,Bool.false_and,Bool.and_false]))
    ·exact cu rfl (gb sb (by rw[ie,eq_false_of_ne_true c1,Bool.false_and]))
   ·rintro δ M'' ⟨sb,⟨o4,o5,rfl⟩,q1,q2⟩;exact⟨sb,⟨_,_,_,_,rfl⟩,nxt ⟨q1 (show 0<2 by decide),q2 (show 1<2 by decide)⟩⟩
  ·rintro δ M' ⟨sb,⟨o2,o3,o4,o5,rfl⟩,p1,p2⟩;exact hu _ _ ⟨sb,⟨_,_,_,_,rfl⟩,p1 (show 0<2 by decide),p2 (show 1<2 by decide)⟩
 rintro δ M' ⟨sb,⟨o2,o3,o4,o5,rfl⟩,⟨e1,e2⟩,⟨e3,e4⟩⟩;refine⟨_,rfl,[Ma.spt V.1 V.2.1,Ma.spt V.2.2.1 V.2.2.2],rfl,comp_map (fun j=>if j=0 then .int (Ma.sgn (crQ U V.1 V.2.1))else .int (Ma.sgn (crQ U V.2.2.1 V.2.2.2))) (nbL rfl) (fun _ _ _=>rfl) ?_ (fun p hp=>?_)⟩
 ·intro j e' M2 hj he' _;have hj:j<2:=hj;have he':[Ma.spt V.1 V.2.1,Ma.spt V.2.2.1 V.2.2.2][j]?=some e':=he';rcases(show j=0\/j=1 by omega)with rfl|rfl
  ·cases he';exact⟨_,rfl,fun K2 hK2=>⟨_,rfl,_,rfl,_,rfl,_,rfl,_,rfl,_,_,_,_,_,_,rfl,rfl,rfl,HU.a,HU.b,HU.c,HU.d,HV.a,HV.b,fun M' s'=>hK2 M' s'⟩⟩
  ·cases he';exact⟨_,rfl,fun K2 hK2=>⟨_,rfl,_,rfl,_,rfl,_,rfl,_,rfl,_,_,_,_,_,_,rfl,rfl,rfl,HU.a,HU.b,HU.c,HU.d,HV.c,HV.d,fun M' s'=>hK2 M' s'⟩⟩
 refine⟨_,rfl,[Ma.spt U.1 U.2.1,Ma.spt U.2.2.1 U.2.2.2],rfl,comp_map (fun j=>if j=0 then .int (Ma.sgn (crQ V U.1 U.2.1))else .int (Ma.sgn (crQ V U.2.2.1 U.2.2.2))) (nbL rfl) (fun _ _ _=>rfl) ?_ (fun p2 hp2=>?_)⟩
 ·intro j e' M2 hj he' _;have hj:j<2:=hj;have he':[Ma.spt U.1 U.2.1,Ma.spt U.2.2.1 U.2.2.2][j]?=some e':=he';rcases(show j=0\/j=1 by omega)with rfl|rfl
  ·cases he';exact⟨_,rfl,fun K2 hK2=>⟨_,rfl,_,rfl,_,rfl,_,rfl,_,rfl,_,_,_,_,_,_,rfl,rfl,rfl,HV.a,HV.b,HV.c,HV.d,HU.a,HU.b,fun M' s'=>hK2 M' s'⟩⟩
  ·cases he';exact⟨_,rfl,fun K2 hK2=>⟨_,rfl,_,rfl,_,rfl,_,rfl,_,rfl,_,_,_,_,_,_,rfl,rfl,rfl,HV.a,HV.b,HV.c,HV.d,HU.c,HU.d,fun M' s'=>hK2 M' s'⟩⟩
 have n12:p≠p2:=aC ag hp2;have c1:(au (au M' p (.lst [.int (Ma.sgn (crQ U V.1 V.2.1)),.int (Ma.sgn (crQ U V.2.2.1 V.2.2.2))])) p2 (.lst [.int (Ma.sgn (crQ V U.1 U.2.1)),.int (Ma.sgn (crQ V U.2.2.1 U.2.2.2))])) p=some (.lst [.int (Ma.sgn (crQ U V.1 V.2.1)),.int (Ma.sgn (crQ U V.2.2.1 V.2.2.2))]):=by rw[aq n12,ag]
 (try dsimp only[SD.bM,SD.bE,SD.aK,SD.bR,SD.bP,SD.bc,SD.bo,SD.tBD,SD.bQ])
 refine orV (decide (0<=Ma.sgn (crQ U V.1 V.2.1)*Ma.sgn (crQ U V.2.2.1 V.2.2.2))) (decide (0<=Ma.sgn (crQ V U.1 U.2.1)*Ma.sgn (crQ V U.2.2.1 U.2.2.2))) (fun K hK=>⟨_,rfl,_,_,c1,rfl,_,rfl,_,_,c1,rfl,bN (rF _),trivial,hK⟩) (fun _ K hK=>⟨_,rfl,_,_,ag,rfl,_,rfl,_,_,ag,rfl,bN (rF _),trivial,hK⟩) ?_;refine rtn ?_;rw[<-zi hne e1 e2 e3 e4];exact k _ (sb.trans (.new hp2 (.new hp .refl)))
theorem cA:FnScope ["_law_lines","_law_shuts","_law_spots","_law_number_here","_law_line","_law_words","_law_shut","_law_spot_here"] ["_law_lines"] (ao nA):=by walk_at "sc"
inductive Cn_law_due(x:D)(M:MH)(Q:DK):Prop
 |mk (a:Addr) (rs:List Str) (_:x=.ref a) (_:M a=some (.lst (rs.map D.str))) (_:(∀r∈rs,r.cps.all (· < 128)=true/\r.length<=900000)) (_:rs.length<=900000) (_:(∀us ps,stQ rs rs.length=some (us,ps)->∀M' p,SD.Sub M M'->M' p=some (.lst (ps.map spq))->Q (qV us p) M')) (_:(∀n us ps,n<rs.length->stQ rs n=some (us,ps)->stQ rs (n+1)=none->∀M',SD.Sub M M'->Q (.tup [.str "no text",.int (n:Int)]) M'))
theorem vd(T:Tx K mg):Cal P w K mg base 4 "_law_due" (sD1 Cn_law_due):=by
 refine eJ (k:=3) T.f_law_due cA fun f cdv A outer s H E hr=>⟨_,(ai (ay 1 cA.nd (aS ae)) (ai (ay 2 cA.nd (aS ae)) (ai (ft HE rfl (km rfl T.b_enumerate (aa (dv 0) ae)) (bH rfl (aw (aB 3 cA.nd) (aw (aB 4 cA.nd) ba))) (ai (ay 5 cA.nd (cO (dv 4) (aa aE ae))) (ai (ay 6 cA.nd (ak (mG T).m hr (aa (dv 4) ae))) (ai (eD 7 cA.nd (CScope.of (xs:=["_law_word"]) (js:=[]) rfl) rfl (cB (wK (dv 5) (aZ af) bz)) (fun _ _ _ _=>b8) (fun _ _ _ _=>(ak (gy T).m hr (aa (dv 0) ae)))) (aj (aN (dF (dq (aA (bj hr.units) (aX (dv 5) af) aE) (dq (aA (bj hr.units) (aI cx rfl T.b_len cI (aa (dv 7) ae)) af) (c9 (aA (jv (oi hr)) aU (dv 7) (by with_unfolding_all rfl)))))) (aj (du (bF (dv 2) (aa (aV iV rfl T.b_tuple iZ (aa (dv 7) ae)) ae)))) (aj (aN (dF (cV (aA eM (dv 6) aU) (cV (aA (eC hr.units) (dv 2) (aS ae)) (c6 (aA (bj hr.units) (aI cx rfl T.b_len cI (aa (dv 1) ae)) af))))) (aj (ax (aH (aa aE (aa (dv 3) ae))))) (aj (aN (fH (cJ (aI (yW rfl) rfl T.b_all xI (aa (eB (CScope.of (xs:=["_law_other"]) (js:=[6]) rfl) rfl (cB (dv 1)) (fun _ _ _ _=>b8) (fun _ _ _ _=>(ak (sX T).m hr (aa (dv 1) (aa (dv 0) ae))))) ae)))) (aj (ax (aH (aa aE (aa (dv 3) ae))))) (aj (du (bF (dv 1) (aa (dv 6) ae)))))))))))))) (aj (ax (aH (aa aE (aa (aH (aa (aV iV rfl T.b_tuple iZ (aa (dv 1) ae)) (aa (dv 2) ae))) ae)))))))),fun _ M Q h=>?_⟩;obtain⟨a,rs,rfl,ha,hr,hrl,k1,k2⟩:=h;refine⟨nbL rfl,fun l hl=>⟨nbL rfl,fun p1 hp1=>?_⟩⟩;have nal:a≠l:=aC ha hl;have nlp:l≠p1:=aC ag hp1;have S0:SD.Sub M (au (au M l (.lst [])) p1 (.lst [])):=.new hp1 (.new hl .refl);have fr:∀{u:Addr} {o:MO},M u=some o->u≠l/\u≠p1:=fun{u o} e=>⟨aC e hl,aC ((SD.Sub.new hl .refl) _ _ e) hp1⟩;refine⟨_,rfl,a,_,rfl,S0 _ _ ha,?_⟩;refine⟨fun i δ M'=>(∃o3 o4 o5 o6 o7,δ=[some (.ref a),some (.ref l),some (.ref p1),o3,o4,o5,o6,o7])/\∃vs qs,stQ rs i=some (vs,qs)/\M' l=some (.lst (vs.map wq))/\M' p1=some (.lst (qs.map spq))/\SD.Sub M M',⟨⟨_,_,_,_,_,rfl⟩,[],[],rfl,by rw[aq nlp,ag];rfl,by rw[ag];rfl,S0⟩,fun i δ M' _ z=>by obtain⟨_,_,_,_,_,_,sb⟩:=z;exact sb _ _ ha,?_,?_⟩
 ·rintro i d δ M' hi hd ⟨⟨o3,o4,o5,o6,o7,rfl⟩,vs,qs,g,h0,h1,sb⟩;have hd:((rs.map D.str)[i]?).map (fun d=>D.tup [.int (i:Int),d])=some d:=hd;rw[Gs]at hd;cases ew:rs[i]? with
  |none=>rw[ew]at hd;cases hd
  |some w=>
   rw[ew]at hd
   cases hd
   have hil:=(GN.mp ew).1
   have ok:=oN g
   have nx:=kH g ew
   obtain⟨wa,wl⟩:=hr w (GL ew)
   have ret:stq vs qs w=none->∀{M3},SD.Sub M M3->Ret Q (.tup [.str "no text",.int (i:Int)]) M3:=fun hn {M3} s3=>rtn (k2 i vs qs hil g (by rw[nx,hn]) M3 s3)
   obtain⟨f1,f2⟩:=cT 32 w
   obtain⟨wd,ws,es⟩:∃wd ws,Hf w ⟨#[32]⟩=wd::ws:=by
    cases e:Hf w ⟨#[32]⟩with
    |nil=>exact absurd e (cZ w 32)
    |cons a b=>exact⟨a,b,rfl⟩
   have iff:=mR es
   rw[es]at f1 f2
   have lw:ws.length<=900000:=by simp at f1;omega
   refine⟨_,rfl,rfl,_,_,rfl,_,_,rfl,rfl,?_⟩
   refine⟨_,rfl,_,rfl,by omega,_,rfl,(by rw[dB];rfl),fun pw fw=>?_⟩
   rw[dB,es]
   have hw2:(au M' pw (.lst ((wd::ws).map D.str))) pw=some (.lst ((wd::ws).map D.str)):=ag
   have sw:SD.Sub M' (au M' pw (.lst ((wd::ws).map D.str))):=.new fw .refl
   generalize au M' pw (.lst ((wd::ws).map D.str))=M1 at hw2 sw ⊢
   refine⟨_,rfl,w,rfl,wa,wl,fun M2 s2=>?_⟩
   replace hw2:=s2 _ _ hw2
   replace sw:=sw.trans s2
   refine⟨_,rfl,_,rfl,_,hw2,fun p3 hp3=>?_⟩
   have ct:cutD (Hz D.str (wd::ws)) (some 1) none=ws.map D.str:=p6 _ _
   rw[ct]
   refine⟨_,ag,comp_map (fun i=>opF ((ws[i]?).bind rdq)) (by show(Hz D.str ws).length<=_;rw[G7];omega) (fun p ys hp=>?_) ?_ (fun p2 hp2=>?_)⟩
   ·show(au _ p _) p3=_;rw[aq (aC ag hp)];exact ag
   ·intro j e M3 hj he sb3;have he:(ws.map D.str)[j]?=some e:=he;rw[Gs]at he;cases ej:ws[j]? with
    |none=>rw[ej]at he;cases he
    |some x=>
     rw[ej]at he
     cases he
     obtain⟨g1,g2⟩:=f2 x (Gr _ (GL ej))
     refine⟨_,rfl,fun K2 hK2=>⟨_,rfl,x,rfl,cy wa g2,by omega,fun M' s'=>?_⟩⟩
     rw[Ha]at hK2
     exact hK2 M' s'
   have hlen:(Hz D.str ws).length=ws.length:=G7 ..
   have mp:(HD (Hz D.str ws).length).map (fun i=>opF ((ws[i]?).bind rdq))=(ws.map rdq).map opF:=by
    rw[hlen,List.map_map];refine List.ext_getElem? fun i=>?_;rw[Gs,Gs];by_cases hi:i<ws.length
    ·rw[List.getElem?_range hi,GQ hi];simp[hi]
    ·rw[Hx (by simpa using hi),Hx (by simpa using hi)];rfl
   dsimp only
   rw[mp]
   have s4:SD.Sub M2 (au (au M2 p3 (.lst (ws.map D.str))) p2 (.lst ((ws.map rdq).map opF))):=.new hp2 (.new hp3 .refl)
   have hm2:(au (au M2 p3 (.lst (ws.map D.str))) p2 (.lst ((ws.map rdq).map opF))) p2=some (.lst ((ws.map rdq).map opF)):=ag
   generalize au (au M2 p3 (.lst (ws.map D.str))) p2 (.lst ((ws.map rdq).map opF))=M4 at s4 hm2 ⊢
   have hm0:=s4 _ _ hw2
   replace sw:=sw.trans s4
   replace h0:=sw _ _ h0
   replace h1:=sw _ _ h1
   replace sb:=sb.trans sw
   clear hw2 s4 s2 fw hp3 hp2
   have at0:atI ((wd::ws).map D.str) 0=some (.str wd):=gi _
   have l2:((ws.map rdq).map opF).length=ws.length:=by simp
   (try dsimp only[SD.bM,SD.bE,SD.aK,SD.bR,SD.bP,SD.bc,SD.bo,SD.tBD,SD.bQ])
   refine l0 (decide (wd=G1 "ask")) (decide ((ws.length:Int)=2)&&!(ws.map rdq).any (fun o=>o.isNone)) (fun K hK=>⟨_,rfl,_,_,hm0,at0,_,rfl,hK⟩) (fun _ K hK=>?_) ?_
   ·refine l0 _ _ (fun K' hK'=>⟨_,rfl,_,hm2,_,rfl,?_⟩) (fun _ K' hK'=>?_) hK
    ·rw[l2];exact hK'
    ·refine⟨_,rfl,_,_,.non,.inl (.lst hm2 (iX _)),rfl,iN _,_,rfl,?_⟩;rw[iL];exact hK'
   refine br (fun hc=>?_) (fun hc=>?_)
   ·simp only[GG,decide_eq_true_eq,Hu]at hc;obtain⟨c1,c2,c3⟩:=hc;obtain⟨ls,ll,el⟩:=uN (.inl rfl) (by rw[G7];omega) c3
    obtain⟨s,rfl⟩:∃s,ls=[s]:=by
     match ls,ll with
     |[s],_=>exact⟨s,rfl⟩
    have er:=(iff s).mpr ⟨c1,el⟩;rw[j9 er]at nx;rw[el]at hm2;refine⟨_,rfl,p1,_,rfl,h1,_,rfl,_,hm2,_,_,rfl,h1,by rw[G7];have:=ok.sum;omega,?_⟩;refine⟨⟨_,_,_,_,_,rfl⟩,vs,qs++[s],nx,by rw[aq nlp];exact h0,by rw[ag,HJ];rfl,fun u o e=>?_⟩;rw[aq (fr e).2];exact sb _ _ e
   have er:rda w=none:=by
    cases e:rda w with
    |none=>rfl
    |some s=>
     obtain⟨e1,e2⟩:=(iff s).mp e
     have e3:ws.length=2:=by have:=congrArg List.length e2;simpa using this
     rw[e1,e2,e3]at hc
     simp at hc
   cases ro:rdo w with
   |none=>
    refine⟨_,rfl,_,rfl,_,rfl,bS rfl (bS rfl ⟨_,rfl,nbL rfl,ret ?_ sb⟩)⟩
    by_cases q0:qs=[]
    ·rw[q0,d5 er,kb,ro];rfl
    ·exact gk er q0
   |some W=>
    have NW:=(lP (BR ro).1).1.nq
    refine⟨_,rfl,_,rfl,_,rfl,cu rfl ?_⟩
    refine⟨_,rfl,nbL rfl,fun pe fe=>CO ((SD.Sub.new fe .refl) _ _ h1) ag ⟨_,rfl,?_⟩⟩
    have se:SD.Sub M4 (au M4 pe (.lst [])):=.new fe .refl
    generalize au M4 pe (.lst [])=M5 at se ⊢
    replace h0:=se _ _ h0
    replace h1:=se _ _ h1
    replace sb:=sb.trans se
    refine br (fun c3=>?_) (fun c3=>?_)
    ·exact bS rfl ⟨_,rfl,nbL rfl,ret (gk er (by simpa using c3)) sb⟩
    have q0:qs=[]:=by simpa using c3
    subst q0
    refine⟨_,rfl,_,h0,_,rfl,?_⟩
    have lt:(vs.map wq).length=vs.length:=G7 ..
    refine br (fun c4=>?_) (fun c4=>?_)
    ·have c4:vs.length=40:=by have:=of_decide_eq_true c4;rw[lt]at this;omega
     exact⟨_,rfl,nbL rfl,ret (by rw[d5 er,kb,ro,Ha,if_neg (fun q=>q.1 c4)];rfl) sb⟩
    have c4:vs.length≠40:=fun q=>c4 (decide_eq_true (by rw[lt];omega))
    refine⟨_,rfl,_,h0,comp_map (fun j=>.bl ((vs[j]?).elim false (cw W))) (by show(vs.map wq).length<=_;rw[lt];have:=ok.few;omega) (fun p ys hp=>?_) ?_ (fun p hp=>?_)⟩
    ·show(au _ p _) l=_;rw[aq (aC h0 hp)];exact h0
    ·intro j e M3 hj he sb3;have he:(vs.map wq)[j]?=some e:=he;rw[Gs]at he;cases ej:vs[j]? with
     |none=>rw[ej]at he;cases he
     |some U=>
      rw[ej]at he
      cases he
      refine⟨_,rfl,fun K2 hK2=>⟨_,rfl,_,rfl,W,U,rfl,rfl,NW,(ok.mem U (GL ej)).1,fun M' s'=>?_⟩⟩
      exact hK2 M' s'
    have mp:(HD (vs.map wq).length).map (fun j=>D.bl ((vs[j]?).elim false (cw W)))=(vs.map (cw W)).map D.bl:=by
     rw[lt,List.map_map];refine List.ext_getElem? fun j=>?_;rw[Gs,Gs];by_cases hj:j<vs.length
     ·rw[List.getElem?_range hj];show some (D.bl ((vs[j]?).elim false (cw W)))=_;rw[GQ hj];rfl
     ·rw[Hx (by simpa using hj),Hx (by simpa using hj)];rfl
    have s3:∀{o},SD.Sub M5 (au M5 p o):=fun{o}=>.new hp .refl
    refine⟨vs.map (cw W),(by rw[ag];exact congrArg (fun x=>some (MO.lst x)) mp),_,rfl,?_⟩
    refine br (fun c5=>?_) (fun c5=>?_)
    ·refine⟨_,rfl,nbL rfl,ret ?_ (sb.trans s3)⟩;rw[d5 er,kb,ro,Ha,if_neg]
     ·rfl
     rintro⟨_,q⟩;unfold fcQ at q;rw[List.findIdx?_eq_none_iff]at q;have:(vs.map (cw W)).all id=true:=by rw[List.all_map,HS];intro x hx;simpa using q x hx
     rw[this]at c5;cases c5
    ·have all:(vs.map (cw W)).all id=true:=by simpa using c5
     have fn:fcQ W vs=none:=by
      unfold fcQ
      rw[List.findIdx?_eq_none_iff]
      intro x hx
      rw[List.all_map,HS]at all
      have:=all x hx
      simpa using this
     have nx:stQ rs (i+1)=some (vs++[W],[]):=by rw[nx,d5 er,kb,ro,Ha,if_pos ⟨c4,fn⟩];rfl
     have h3:=s3 (o:=.lst ((HD (vs.map wq).length).map (fun j=>D.bl ((vs[j]?).elim false (cw W))))) _ _ h0;have h4:=s3 (o:=.lst ((HD (vs.map wq).length).map (fun j=>D.bl ((vs[j]?).elim false (cw W))))) _ _ h1;refine⟨_,rfl,l,_,rfl,h3,_,rfl,_,_,rfl,h3,(by rw[lt];have:=ok.few;omega),?_⟩;refine⟨⟨_,_,_,_,_,rfl⟩,vs++[W],[],nx,by rw[ag,HJ];rfl,by rw[aq nlp.symm];exact h4,fun u o e=>?_⟩;rw[aq (fr e).1];exact s3 _ _ (sb _ _ e)
 ·rintro δ M' ⟨⟨o3,o4,o5,o6,o7,rfl⟩,vs,qs,g,h0,h1,sb⟩;have g:stQ rs (rs.map D.str).length=some (vs,qs):=g;rw[G7]at g;exact⟨_,rfl,_,h0,_,rfl,nbL rfl,nbL rfl,rtn (k1 vs qs g _ p1 sb h1)⟩
theorem sW:FnScope ["text"] ["text"] (ao m6):=by walk_at "sc"
inductive Cn_rows_of(v:D)(M:MH)(Q:DK):Prop
 |mk (z:Str) (_:v=.str z) (_:z.length<=1000000) (_:∀p,M p=none->Q (.ref p) (au M p (.lst ((bT z).map D.str))))
theorem nF(T:Tx K mg):Cal P w K mg base 1 "rows_of" (sD1 Cn_rows_of):=by
 refine eJ (k:=0) T.f_rows_of sW fun f cdv A outer s H E hr=>⟨_,(aj (ax (ir (aA (bj hr.units) (dv 0) aE) (aS ae) (cO (dv 0) (aa aE ae))))),fun _ M Q h=>?_⟩;obtain⟨z,rfl,hl,k⟩:=h;refine⟨_,rfl,_,rfl,br (fun h=>?_) (fun h=>?_)⟩
 ·have e:z=Ih:=by rw[jA]at h;simpa using h
  refine⟨nbL rfl,fun p hp=>rtn ?_⟩;have:=k p hp;unfold bT at this;rw[if_pos e]at this;exact this
 ·have e:¬z=Ih:=by rw[jA]at h;simpa using h
  refine⟨_,rfl,_,rfl,hl,_,rfl,(by rw[Aj];rfl),fun p hp=>?_⟩;rw[Aj];have:=k p hp;unfold bT at this;rw[if_neg e]at this;exact rtn this
theorem lV:FnScope ["text"] ["text"] (ao gY):=by walk_at "sc"
inductive Cn_read_number(x:D)(M:MH)(Q:DK):Prop
 |mk (z:Str) (_:x=.str z) (_:z.cps.all (· < 128)=true) (_:z.length<=900001) (_:(∀n,Wh z n->Q (.int (n:Int)) M)) (_:((∀n,¬Wh z n)->Q .non M))
theorem eX(T:Tx K mg):Cal P w K mg base 1 "read_number" (sD1 Cn_read_number):=by
 refine eJ (k:=0) T.f_read_number lV fun f cdv A outer s H E hr=>⟨_,(ai (aN (dF (cV (fH (qM (jC hr.units) (jC hr.units) af (aI cx rfl T.b_len cI (aa (dv 0) ae)) (qN rfl T.g_MOST_FIGURES))) (c6 (cJ (aI (Dd rfl) rfl T.b_any C5 (aa (eB (CScope.of (xs:=["sign"]) (js:=[]) rfl) rfl (xg (dv 0)) (fun _ _ _ _=>b8) (fun _ _ _ _=>(bX (jv (oi hr)) (dv 0) aE (by with_unfolding_all rfl)))) ae)))))) (aj (ax aU)) aD) (ai (aN (dF (dq (aA (bj hr.units) (aX (dv 0) af) aE) (c9 (aA (eC hr.units) (dv 0) aE)))) (aj (ax aU)) aD) (aj (ax (aV dJ rfl T.b_int de (aa (dv 0) ae)))))),fun _ M Q h=>?_⟩;obtain⟨z,rfl,asc,hl,k,k'⟩:=h;have sz:1000000<=Gp:=nbL rfl;have no:(∀n,¬Wh z n)->∀{M'},SD.Sub M M'->Ret Q .non M':=fun h {M'} sb=>⟨M,sb,k' h⟩;refine⟨_,rfl,by omega,trivial,_,rfl,?_⟩;refine br (fun l1=>?_) (fun l1=>?_);rotate_left
 ·exact⟨_,rfl,bS rfl (bS rfl (no (fun n h=>by have:=h.pos;exact l1 (decide_eq_true (by omega))) .refl))⟩
 have l1:1<=z.length:=by have:=of_decide_eq_true l1;omega
 refine⟨trivial,_,rfl,?_⟩;refine br (fun l2=>?_) (fun l2=>?_)
 ·refine bS rfl (no (fun n h=>?_) .refl);have:=h.len;dsimp only at l2;rw[decide_eq_true (show(z.length:Int)<=30 by omega)]at l2;cases l2
 have l2:z.length<=30:=by
  have l2:(z.length:Int)<=30:=by simpa using l2
  omega
 refine⟨_,rfl,z,rfl,asc,comp_map (fun i=>.bl (!decide (z.cps.toList.getD i 0∈(G1 "0123456789").cps.toList))) (by show z.cps.size<=1000000;have:z.cps.size=z.length:=rfl;omega) (fun _ _ _=>trivial) ?_ (fun p hp=>?_)⟩
 ·intro i d M2 hi hd sb;have hd:(z.cps[i]?).map (fun c=>D.str ⟨#[c]⟩)=some d:=hd;cases ec:z.cps[i]? with
  |none=>rw[ec]at hd;cases hd
  |some c=>
   rw[ec]at hd
   cases hd
   have ec':z.cps.toList.getD i 0=c:=by rw[List.getD_eq_getElem?_getD,Array.getElem?_toList,ec];rfl
   refine⟨_,rfl,fun K2 hK2=>⟨_,rfl,c,rfl,?_⟩⟩
   rw[ec']at hK2
   exact hK2 _ .refl
 refine⟨(HD z.cps.size).map (fun i=>!decide (z.cps.toList.getD i 0∈(G1 "0123456789").cps.toList)),(by rw[ag,List.map_map];rfl),_,rfl,?_⟩;have fin:∀{M'} {d},SD.Sub M M'->Q d M->Ret Q d M':=fun{M' d} sb q=>⟨M,sb,q⟩;refine br (fun a=>?_) (fun a=>?_)
 ·refine no (fun n h=>?_) (.new hp .refl);rw[List.any_map,List.any_eq_true]at a;obtain⟨i,hi,hb⟩:=a;have hi:i<z.cps.size:=List.mem_range.mp hi;have:=h.dig (c:=z.cps.toList.getD i 0) (by rw[List.getD_eq_getElem?_getD,GQ (by simpa using hi)];exact List.getElem_mem _);have hb:¬z.cps.toList.getD i 0∈(G1 "0123456789").cps.toList:=by simpa using hb
  exact hb (by rw[oY];exact List.mem_range'_1.mpr (show 48<=_/\_<48+10 by omega))
 have dig:∀c∈z.cps.toList,48<=c/\c<=57:=fun c hc=>by
  obtain⟨i,hi,e⟩:=List.getElem_of_mem hc
  have a:=fun q=>a (List.any_eq_true.mpr q)
  by_cases q:c∈(G1 "0123456789").cps.toList
  ·rw[oY]at q;have:=List.mem_range'_1.mp (show c∈List.range' 48 10 from q);omega
  ·exact absurd ⟨true,Ig.mpr ⟨i,List.mem_range.mpr (by simpa using hi),by rw[List.getD_eq_getElem?_getD,GQ hi,e];simpa using q⟩,rfl⟩ a
 have hat:atI z.cps.toList ((0:Nat):Int)=z.cps.toList[0]?:=gi _;cases e0:z.cps.toList[0]? with
 |none=>rw[List.getElem?_eq_none_iff,<-bg]at e0;omega
 |some c0=>
  rw[e0]at hat
  (try dsimp only[SD.bM,SD.bE,SD.aK,SD.bR,SD.bP,SD.bc,SD.bo,SD.tBD,SD.bQ])
  by_cases h0:c0=48
  ·subst h0;by_cases hz:z=⟨#[48]⟩
   ·obtain⟨n,hn⟩:=tF l1 l2 dig (fun _=>hz);refine l0 true false (fun K hK=>⟨_,rfl,by omega,_,hat,_,rfl,?_⟩) (fun _ K hK=>⟨_,rfl,_,rfl,?_⟩) ?_
    ·rw[eO,decide_eq_true rfl];exact hK
    ·rw[eO,decide_eq_true hz];exact hK
    ·exact cu rfl ⟨_,rfl,_,hn.read,by omega,fin (.new hp .refl) (k n hn)⟩
   ·refine l0 true true (fun K hK=>⟨_,rfl,by omega,_,hat,_,rfl,?_⟩) (fun _ K hK=>⟨_,rfl,_,rfl,?_⟩) ?_
    ·rw[eO,decide_eq_true rfl];exact hK
    ·rw[eO,decide_eq_false hz];exact hK
    ·exact bS rfl (no (fun n h=>hz (h.head e0)) (.new hp .refl))
  ·obtain⟨n,hn⟩:=tF l1 l2 dig (fun q=>absurd (Option.some.inj (e0.symm.trans q)) h0);refine l0 false false (fun K hK=>⟨_,rfl,by omega,_,hat,_,rfl,?_⟩) (fun h=>nomatch h) ?_
   ·rw[eO,decide_eq_false (fun z=>h0 (by have:=congrArg (fun x:Str=>x.cps.toList) z;simpa using this))];exact hK
   ·exact cu rfl ⟨_,rfl,_,hn.read,by omega,fin (.new hp .refl) (k n hn)⟩
theorem jK:FnScope ["text","number"] ["text"] (ao l6):=by walk_at "sc"
inductive Cn_read_top(x:D)(M:MH)(Q:DK):Prop
 |mk (z:Str) (_:x=.str z) (_:z.cps.all (· < 128)=true) (_:z.length<=900001) (_:(∀a,z=iT a->a.natAbs<10^30->Q (.int a) M)) (_:((∀a,z=iT a->¬a.natAbs<10^30)->Q .non M))
theorem rZ(T:Tx K mg):Cal P w K mg base 2 "read_top" (sD1 Cn_read_top):=by
 refine eJ (k:=1) T.f_read_top jK fun f cdv A outer s H E hr=>⟨_,(ai (aN (fH (cJ (sE (dv 0) (aa aE ae)))) (aj (ax (ak (eX T).m hr (aa (dv 0) ae)))) aD) (ai (ay 1 jK.nd (ak (eX T).m hr (aa (vX (dv 0) af) ae))) (aj (ax (ir (dF (cV (aA eM (dv 1) aU) (c6 (aA (bj hr.units) (dv 1) af)))) aU (ql ji (dv 1))))))),fun _ M Q h=>?_⟩;obtain⟨z,rfl,asc,hl,k,k'⟩:=h;have sz:1000000<=Gp:=nbL rfl;by_cases e:z.cps.toList[0]?=some 45
 ·obtain⟨r,er⟩:∃r,z.cps.toList=45::r:=by
   cases ez:z.cps.toList with
   |nil=>rw[ez]at e;cases e
   |cons c r=>rw[ez]at e;exact⟨r,by have h:c=45:=(by simpa using e);rw[h]⟩
  have hd:(Str.mk r.toArray).cps.toList=r:=by simp
  have es:=ma (x:=z) (y:=Str.mk r.toArray) (c:=45) (by rw[er,hd]);have hs:IH z ⟨#[45]⟩=true:=vK er;refine⟨_,rfl,_,rfl,_,rfl,_,rfl,cu (by rw[ko,hs];rfl) ?_⟩;refine⟨_,rfl,_,rfl,by omega,_,rfl,?_⟩;rw[es]
  have asc':(Str.mk r.toArray).cps.all (· < 128)=true:=by
   rw[Ip]at asc ⊢;intro c hc
   exact asc c (by have:c∈z.cps.toList:=by rw[er];exact Gr _ (by simpa using hc)
                   simpa using this)
  have hl':(Str.mk r.toArray).length<=900001:=by rw[bg,hd];rw[bg,er]at hl;simp at hl;omega
  have neg:∀a,z=iT a->∃m:Nat,a=-(m:Int)/\0<m/\r=dgs m:=fun a ha=>by
   obtain⟨m,⟨e1,e2⟩|⟨e1,n0,e2⟩⟩:=df a
   ·rw[<-ha,er]at e2;have:=dN (show 45∈dgs m by rw[<-e2];simp);omega
   ·rw[<-ha,er]at e2;exact⟨m,e1,n0,(List.cons.inj e2).2⟩
  refine⟨_,rfl,asc',hl',fun n hn=>?_,fun hn=>?_⟩
  ·(try dsimp only[SD.bM,SD.bE,SD.aK,SD.bR,SD.bP,SD.bc,SD.bo,SD.tBD,SD.bQ])
   by_cases n0:n=0
   ·subst n0;refine orT false true (fun K hK=>⟨_,rfl,_,rfl,_,rfl,hK⟩) (fun _ K hK=>⟨_,rfl,_,rfl,?_⟩) ?_
    ·rw[decide_eq_true (by rfl)];exact hK
    ·refine bS rfl (rtn (k' fun a ha hb=>?_));obtain⟨m,e1,m0,e2⟩:=neg a ha;have:=hn.one (m:=m) ⟨by rw[hd,e2],by omega⟩;omega
   ·refine orT false false (fun K hK=>⟨_,rfl,_,rfl,_,rfl,hK⟩) (fun _ K hK=>⟨_,rfl,_,rfl,?_⟩) ?_
    ·rw[decide_eq_false (by omega)];exact hK
    ·refine cu rfl ⟨_,rfl,rtn (k _ (bC ?_) ?_)⟩
     ·have:=hn.1;rw[hd]at this;rw[er,this];obtain⟨j,rfl⟩:∃j,n=j+1:=⟨n-1,by omega⟩;exact(rn j).symm
     ·have:=hn.2;omega
  ·(try dsimp only[SD.bM,SD.bE,SD.aK,SD.bR,SD.bP,SD.bc,SD.bo,SD.tBD,SD.bQ])
   refine orT true true (fun K hK=>⟨_,rfl,_,rfl,_,rfl,hK⟩) (fun h=>nomatch h) ?_;refine bS rfl (rtn (k' fun a ha hb=>?_));obtain⟨m,e1,m0,e2⟩:=neg a ha;exact hn m ⟨by rw[hd,e2],by omega⟩
 ·have hs:IH z ⟨#[45]⟩=false:=yD e;refine⟨_,rfl,_,rfl,_,rfl,_,rfl,bS (by rw[ko,hs];rfl) ?_⟩;refine⟨_,rfl,_,rfl,asc,hl,fun n hn=>rtn (k _ (bC (by rw[hn.1,dh])) (by have:=hn.2;omega)),fun hn=>rtn (k' fun a ha hb=>?_)⟩;obtain⟨m,⟨e1,e2⟩|⟨e1,n0,e2⟩⟩:=df a
  ·exact hn m ⟨by rw[ha,e2],by omega⟩
  ·exact e (by rw[ha,e2];rfl)
theorem dG:FnScope ["one","other"] ["one","other"] (ao ee):=by walk_at "sc"
inductive Cn_greatest_divisor(x y:D)(M:MH)(Q:DK):Prop
 |mk (a b:Nat) (_:x=.int (a:Int)) (_:y=.int (b:Int)) (_:Q (.int ((Nat.gcd a b:Nat):Int)) M)
theorem g8(T:Tx K mg):Cal P w K mg base 1 "greatest_divisor" (sD2 Cn_greatest_divisor):=by
 refine bW (k:=0) T.f_greatest_divisor dG fun f cdv A outer s H E hr=>⟨_,(ai (qF HE (aA (nE hr.units) (dv 1) af) (aj (eQ 0 1 rfl dG.nd (aa (dv 1) (aa (ar jw (dv 0) (dv 1)) ae))))) (aj (ax (dv 0)))),fun _ _ M Q h=>?_⟩;obtain⟨a,b,rfl,rfl,q⟩:=h;refine⟨fun m δ M'=>M'=M/\∃x y:Nat,δ=[some (.int x),some (.int y)]/\Nat.gcd x y=Nat.gcd a b/\m=y,⟨_,rfl,_,_,rfl,rfl,rfl⟩,?_⟩;rintro m δ M' ⟨rfl,x,y,rfl,hxy,hm⟩;refine⟨_,rfl,_,rfl,?_⟩;refine br (fun h=>?_) (fun h=>?_)
 ·have hy:(y:Int)≠0:=by simpa using h
  refine⟨_,rfl,_,rfl,_,rfl,hy,_,_,rfl,?_⟩;have hy':0<y:=by omega
  refine⟨x%y,by rw[hm];exact Nat.mod_lt _ hy',rfl,y,x%y,?_,?_,rfl⟩
  ·rw[<-Ma.tI];rfl
  ·rw[<-hxy,Nat.gcd_comm x y,Nat.gcd_rec y x,Nat.gcd_comm]
 ·have hy:y=0:=by simpa using h
  subst hy;rw[Nat.gcd_zero_right]at hxy;subst hxy;exact⟨_,rfl,rtn q⟩
theorem gv:FnScope ["top","bottom","divisor"] ["top","bottom"] (ao mi):=by walk_at "sc"
inductive Cn_fraction(x y:D)(M:MH)(Q:DK):Prop
 |mk (t:_) (b:_) (_:x=.int t) (_:y=.int b) (_:b≠0) (_:Bd 8000 t) (_:Bd 8000 b) (_:Q (Ma.fr (Rat.divInt t b)) M)
theorem cg(T:Tx K mg):Cal P w K mg base 2 "fraction" (sD2 Cn_fraction):=by
 refine bW (k:=1) T.f_fraction gv fun f cdv A outer s H E hr=>⟨_,(ai (aN (aA (fo hr.units) (dv 1) af) (aj qx) aD) (ai (ay 2 gv.nd (ak (g8 T).m hr (aa (aI oB rfl T.b_abs ot (aa (dv 0) ae)) (aa (aI oB rfl T.b_abs ot (aa (dv 1) ae)) ae)))) (ai (aN (aA (eP hr.units) (dv 1) af) (aj (ay 2 gv.nd (ql ji (dv 2)))) aD) (aj (ax (aH (aa (ar n6 (dv 0) (dv 2)) (aa (ar n6 (dv 1) (dv 2)) ae)))))))),fun _ _ M Q h=>?_⟩;obtain⟨t,b,rfl,rfl,hb,ht,hbb,q⟩:=h;have hg:=Ma.uk (t:=t) hb;have hgd:Bd 8000 ((Nat.gcd t.natAbs b.natAbs:Nat):Int):=hbb.of_le (by simpa using Nat.gcd_le_right t.natAbs (show 0<b.natAbs by omega));refine⟨_,rfl,_,rfl,cu (decide_eq_false hb) ?_⟩;refine⟨_,rfl,_,rfl,t.natAbs,b.natAbs,rfl,rfl,?_⟩;refine⟨_,rfl,trivial,_,rfl,?_⟩;refine br (fun h=>?_) (fun h=>?_)
 ·have hneg:b<0:=by simpa using h
  obtain⟨e1,e2⟩:=Ma.tY (t:=t) hneg;refine⟨_,rfl,_,rfl,_,rfl,⟨by omega,hgd.neg⟩,_,rfl,_,rfl,⟨by omega,hgd.neg⟩,nbL rfl,?_⟩;dsimp only;rw[e1,e2];exact rtn q
 ·have hpos:0<b:=by
   have:¬b<0:=by simpa using h
   omega
  obtain⟨e1,e2⟩:=Ma.uG (t:=t) hpos;refine⟨_,rfl,_,rfl,⟨by omega,hgd⟩,_,rfl,_,rfl,⟨by omega,hgd⟩,nbL rfl,?_⟩;dsimp only;rw[e1,e2];exact rtn q
theorem bG:FnScope ["text","top_text","stroke","bottom_text","top","bottom"] ["text"] (ao fV):=by walk_at "sc"
inductive Cn_read_fraction(x:D)(M:MH)(Q:DK):Prop
 |mk (z:Str) (_:x=.str z) (_:z.cps.all (· < 128)=true) (_:z.length<=900001) (_:(∀q,N30 q->z=sQ q->Q (Ma.fr q) M)) (_:((∀q,N30 q->z≠sQ q)->Q .non M))
theorem jY(T:Tx K mg):Cal P w K mg base 3 "read_fraction" (sD1 Cn_read_fraction):=by
 refine eJ (k:=2) T.f_read_fraction bG fun f cdv A outer s H E hr=>⟨_,(ai (cM (vk (dv 0) (aa aE ae)) (bH rfl (aw (aB 1 bG.nd) (aw (aB 2 bG.nd) (aw (aB 3 bG.nd) ba))))) (ai (ay 4 bG.nd (ak (rZ T).m hr (aa (dv 1) ae))) (ai (aN (dF (cV (aA eM (dv 4) aU) (c6 (aA (bj hr.units) (dv 2) aE)))) (aj (ax (ir (aA eM (dv 4) aU) aU (aH (aa (dv 4) (aa af ae)))))) aD) (ai (ay 5 bG.nd (ak (eX T).m hr (aa (dv 3) ae))) (ai (aN (dF (cV (aA eM (dv 5) aU) (cV (aA (eP hr.units) (dv 5) af) (c6 (aA (eC hr.units) (ak (cg T).m hr (aa (dv 4) (aa (dv 5) ae))) (aH (aa (dv 4) (aa (dv 5) ae)))))))) (aj (ax aU)) aD) (aj (ax (aH (aa (dv 4) (aa (dv 5) ae)))))))))),fun _ M Q h=>?_⟩;obtain⟨z,rfl,asc,hl,k,k'⟩:=h;have sz:1000000<=Gp:=nbL rfl;by_cases e:47∈z.cps.toList
 ·obtain⟨a,b,ez,ha⟩:=lZ e;have ea:(Str.mk a.toArray).cps.toList=a:=by simp
  have eb:(Str.mk b.toArray).cps.toList=b:=by simp
  have ep:HG z ⟨#[47]⟩=(Str.mk a.toArray,⟨#[47]⟩,Str.mk b.toArray):=uW (by rw[ea];exact ha) (by rw[ea,eb,ez]);have ll:a.length+b.length+1<=900001:=by rw[bg,ez]at hl;simp at hl;omega
  refine⟨_,rfl,_,rfl,by omega,_,rfl,(by rw[eN];rfl),?_⟩;rw[eN,ep];refine⟨_,rfl,rfl,_,_,rfl,_,_,rfl,_,_,rfl,rfl,?_⟩;refine⟨_,rfl,_,rfl,cy asc (by rw[ea,ez];intro c hc;simp[hc]),by rw[bg,ea];omega,fun t ht t30=>?_,fun ht=>?_⟩
  ·(try dsimp only[SD.aK])
   refine aT (fun δ M'=>M'=M/\δ=[some (.str z),some (.str (Str.mk a.toArray)),some (.str ⟨#[47]⟩),some (.str (Str.mk b.toArray)),some (.int t),none]) ?_ (fun hu=>?_);rotate_left
   ·(try dsimp only[SD.bM,SD.bE,SD.aK,SD.bR,SD.bP,SD.bc,SD.bo,SD.tBD,SD.bQ])
    refine orT false false (fun K hK=>⟨_,rfl,_,rfl,_,rfl,hK⟩) (fun _ K hK=>⟨_,rfl,_,rfl,?_⟩) ?_
    ·rw[jA,decide_eq_false (by intro z;have:=congrArg (fun x:Str=>x.cps.toList) z;simp[Ih]at this)];exact hK
    ·exact cu rfl (hu _ _ ⟨rfl,rfl⟩)
   rintro δ M' ⟨rfl,rfl⟩;have ta:a=(iT t).cps.toList:=by rw[<-ht,ea]
   refine⟨_,rfl,_,rfl,cy asc (by rw[eb,ez];intro c hc;simp[hc]),by rw[bg,eb];omega,fun n hn=>?_,fun hn=>?_⟩
   ·have nb:b=dgs n:=by rw[<-hn.1,eb]
    have un:∀q,N30 q->z=sQ q->q.num=t/\(q.den:Int)=n/\¬(q.den:Int)=1:=fun q hq h=>by
     rw[h]at ez
     obtain⟨d1,q1,q2⟩:=lF ez ha
     refine⟨pI hq.1 t30 (bC (by rw[<-q1,ta])),?_,d1⟩
     rw[dh,nb]at q2
     have:=di hn.2 hq.2 q2
     omega
    (try dsimp only[SD.bM,SD.bE,SD.aK,SD.bR,SD.bP,SD.bc,SD.bo,SD.tBD,SD.bQ])
    by_cases n2:n<2
    ·refine orT false true (fun K hK=>⟨_,rfl,_,rfl,_,rfl,hK⟩) (fun _ K hK=>?_) ?_
     ·refine orT true true (fun K' hK'=>⟨_,rfl,trivial,_,rfl,?_⟩) (fun h=>nomatch h) hK;dsimp only;rw[decide_eq_true (by omega)];exact hK'
     ·refine bS rfl (rtn (k' fun q hq h=>?_));obtain⟨_,u2,u3⟩:=un q hq h;have:=q.den_pos;omega
    ·have b1:Bd 8000 t:=(b30 t30).mono (by decide);have b2:Bd 8000 (n:Int):=(b30 (show((n:Nat):Int).natAbs<10^30 by have:=hn.2;omega)).mono (by decide);by_cases qe:(Rat.divInt t n).num=t/\((Rat.divInt t n).den:Int)=n
     ·refine orT false false (fun K hK=>⟨_,rfl,_,rfl,_,rfl,hK⟩) (fun _ K hK=>orT false false (fun K' hK'=>⟨_,rfl,trivial,_,rfl,by dsimp only;rw[decide_eq_false (by omega)];exact hK'⟩) (fun _ K' hK'=>⟨_,rfl,_,rfl,_,_,rfl,rfl,by omega,b1,b2,_,rfl,_,rfl,nbL rfl,_,_,Pd.of rfl,Pd.of rfl,rfl,rfl,_,rfl,by rw[gP,decide_eq_true qe];exact hK'⟩) hK) ?_;refine cu rfl ⟨_,rfl,_,rfl,nbL rfl,rtn ?_⟩
      have:=k (Rat.divInt t n) ⟨by rw[qe.1];exact t30,by have:=hn.2;have:=qe.2;omega⟩ (bC (by
       rw[iK (by omega),bO,bO,qe.1,qe.2,dh,<-ta,<-nb,ez];simp))
      unfold Ma.fr at this;rw[qe.1,qe.2]at this;exact this
     ·refine orT false true (fun K hK=>⟨_,rfl,_,rfl,_,rfl,hK⟩) (fun _ K hK=>orT false true (fun K' hK'=>⟨_,rfl,trivial,_,rfl,by dsimp only;rw[decide_eq_false (by omega)];exact hK'⟩) (fun _ K' hK'=>⟨_,rfl,_,rfl,_,_,rfl,rfl,by omega,b1,b2,_,rfl,_,rfl,nbL rfl,_,_,Pd.of rfl,Pd.of rfl,rfl,rfl,_,rfl,by rw[gP,decide_eq_false qe];exact hK'⟩) hK) ?_;refine bS rfl (rtn (k' fun q hq h=>qe ?_));obtain⟨u1,u2,u3⟩:=un q hq h;have:Rat.divInt t n=q:=by rw[<-u1,<-u2,Ho]
      rw[this];exact⟨u1,u2⟩
   ·(try dsimp only[SD.bM,SD.bE,SD.aK,SD.bR,SD.bP,SD.bc,SD.bo,SD.tBD,SD.bQ])
    refine orT true true (fun K hK=>⟨_,rfl,_,rfl,_,rfl,hK⟩) (fun h=>nomatch h) ?_;refine bS rfl (rtn (k' fun q hq h=>?_));rw[h]at ez;obtain⟨d1,q1,q2⟩:=lF ez ha;exact hn q.den ⟨by rw[eb,q2,dh],hq.2⟩
  ·(try dsimp only[SD.bM,SD.bE,SD.aK,SD.bR,SD.bP,SD.bc,SD.bo,SD.tBD,SD.bQ])
   refine orT true true (fun K hK=>⟨_,rfl,_,rfl,_,rfl,hK⟩) (fun h=>nomatch h) ?_;refine bS rfl ⟨_,rfl,_,rfl,_,rfl,bS rfl (rtn (k' fun q hq h=>?_))⟩;rw[h]at ez;obtain⟨d1,q1,q2⟩:=lF ez ha;exact ht q.num (bC (by rw[ea,q1])) hq.1
 ·refine⟨_,rfl,_,rfl,by omega,_,rfl,(by rw[eN];rfl),?_⟩;rw[eN,vD e];refine⟨_,rfl,rfl,_,_,rfl,_,_,rfl,_,_,rfl,rfl,?_⟩;refine⟨_,rfl,_,rfl,asc,hl,fun t ht t30=>?_,fun ht=>?_⟩
  ·(try dsimp only[SD.bM,SD.bE,SD.aK,SD.bR,SD.bP,SD.bc,SD.bo,SD.tBD,SD.bQ])
   refine orT false true (fun K hK=>⟨_,rfl,_,rfl,_,rfl,hK⟩) (fun _ K hK=>⟨_,rfl,_,rfl,?_⟩) ?_
   ·rw[jA,decide_eq_true rfl];exact hK
   ·refine bS rfl ⟨_,rfl,_,rfl,_,rfl,cu rfl ⟨_,rfl,nbL rfl,rtn ?_⟩⟩;have h1:((t:Rat).den:Int)=1:=by simp
    have:=k (t:Rat) ⟨by simpa using t30,by simp⟩ (by rw[d9 h1];exact ht);unfold Ma.fr at this;rw[h1]at this;simpa using this
  ·(try dsimp only[SD.bM,SD.bE,SD.aK,SD.bR,SD.bP,SD.bc,SD.bo,SD.tBD,SD.bQ])
   refine orT true true (fun K hK=>⟨_,rfl,_,rfl,_,rfl,hK⟩) (fun h=>nomatch h) ?_;refine bS rfl ⟨_,rfl,_,rfl,_,rfl,bS rfl (rtn (k' fun q hq h=>?_))⟩;rw[h]at e ht;exact ht q.num (d9 (xS e)) hq.1
theorem dw:FnScope ["word","many","row","first","words","parts"] ["word","many","row"] (ao iG):=by walk_at "sc"
inductive Cn_read_spots(w m r:D)(M:MH)(Q:DK):Prop
 |mk (wd0 z:Str) (n:Nat) (_:w=.str wd0) (_:m=.int (n:Int)) (_:r=.str z) (_:(n=1\/n=2)) (_:z.cps.all (· < 128)=true) (_:z.length<=900000) (_:(∀l:List (Rat×Rat),l.length=n->RdS wd0 z l->∀M' p,SD.Sub M M'->M p=none->M' p=some (.lst (l.map spq))->Q (.ref p) M')) (_:((∀l:List (Rat×Rat),l.length=n->¬RdS wd0 z l)->∀M',SD.Sub M M'->Q .non M'))
theorem fu(T:Tx K mg):Cal P w K mg base 4 "read_spots" (sD3 Cn_read_spots):=by
 refine qu (k:=3) T.f_read_spots dw fun f cdv A outer s H E hr=>⟨_,(ai (cM (cO (dv 2) (aa aE ae)) (zy rfl (aw (aB 3 dw.nd) (xc (aB 4 dw.nd))))) (ai (ay 5 dw.nd (eB (CScope.of (xs:=["part"]) (js:=[]) rfl) rfl (cB (dv 4)) (fun _ _ _ _=>b8) (fun _ _ _ _=>(ak (jY T).m hr (aa (dv 0) ae))))) (ai (aN (dF (cV (aA (eC hr.units) (dv 3) (dv 0)) (cV (aA (eC hr.units) (aI cx rfl T.b_len cI (aa (dv 5) ae)) (ar aG af (dv 1))) (c6 (aA (t4 (oi hr)) aU (dv 5) (by with_unfolding_all rfl)))))) (aj (ax aU)) aD) (aj (ax (eB (CScope.of (xs:=["at"]) (js:=[5]) rfl) rfl (ng rfl T.b_range (aa (dv 1) ae)) (fun _ _ _ _=>b8) (fun _ _ _ _=>(aH (aa (aX (dv 1) (ar aG af (dv 0))) (aa (aX (dv 1) (ar aO (ar aG af (dv 0)) af)) ae)))))))))),fun _ _ _ M Q h=>?_⟩;obtain⟨wd0,z,n,rfl,rfl,rfl,hn,asc,hl,k,k'⟩:=h;have sz:1000000<=Gp:=nbL rfl;obtain⟨f1,f2⟩:=cT 32 z
 obtain⟨wd,ws,ew⟩:∃wd ws,Hf z ⟨#[32]⟩=wd::ws:=by
  cases e:Hf z ⟨#[32]⟩with
  |nil=>exact absurd e (cZ z 32)
  |cons a b=>exact⟨a,b,rfl⟩
 rw[ew]at f1 f2;have lw:ws.length<=900000:=by simp at f1;omega
 refine⟨_,rfl,_,rfl,by omega,_,rfl,(by rw[dB];rfl),fun p0 hp0=>?_⟩;rw[dB,ew];refine⟨p0,_,_,rfl,ag,by rw[G7];omega,fun p1 hp1=>⟨_,_,rfl,_,_,rfl,rfl,?_⟩⟩;refine⟨_,rfl,_,ag,comp_map (fun i=>opF ((ws[i]?).bind rdq)) (by show(Hz D.str ws).length<=_;rw[G7];omega) (fun p ys hp=>?_) ?_ (fun p2 hp2=>?_)⟩
 ·show(au _ p _) p1=_;rw[aq (aC ag hp)];exact ag
 ·intro j e M3 hj he sb3;have he:(ws.map D.str)[j]?=some e:=he;rw[Gs]at he;cases ej:ws[j]? with
  |none=>rw[ej]at he;cases he
  |some x=>
   rw[ej]at he
   cases he
   obtain⟨g1,g2⟩:=f2 x (Gr _ (GL ej))
   refine⟨_,rfl,fun K2 hK2=>?_⟩
   have y:=hK2 M3 .refl
   refine⟨_,rfl,x,rfl,cy asc g2,by omega,fun q hq h=>?_,fun h=>?_⟩
   ·rw[Ha,iw hq h]at y;exact y
   ·rw[Ha,jm h]at y;exact y
 have hlen:(Hz D.str ws).length=ws.length:=G7 ..
 have mp:(HD (Hz D.str ws).length).map (fun i=>opF ((ws[i]?).bind rdq))=(ws.map rdq).map opF:=by
  rw[hlen,List.map_map];refine List.ext_getElem? fun i=>?_;rw[Gs,Gs];by_cases hi:i<ws.length
  ·rw[List.getElem?_range hi,GQ hi];simp[hi]
  ·rw[Hx (by simpa using hi),Hx (by simpa using hi)];rfl
 dsimp only;rw[mp];have sb0:SD.Sub M (au (au (au M p0 (.lst ((wd::ws).map D.str))) p1 (.lst (ws.map D.str))) p2 (.lst ((ws.map rdq).map opF))):=.new hp2 (.new hp1 (.new hp0 .refl));have hm2:(au (au (au M p0 (.lst ((wd::ws).map D.str))) p1 (.lst (ws.map D.str))) p2 (.lst ((ws.map rdq).map opF))) p2=some (.lst ((ws.map rdq).map opF)):=ag;generalize au (au (au M p0 (.lst ((wd::ws).map D.str))) p1 (.lst (ws.map D.str))) p2 (.lst ((ws.map rdq).map opF))=M2 at sb0 hm2;have l2:((ws.map rdq).map opF).length=ws.length:=by simp
 (try dsimp only[SD.bM,SD.bE,SD.aK,SD.bR,SD.bP,SD.bc,SD.bo,SD.tBD,SD.bQ])
 refine orT (!decide (wd=wd0)) (!decide ((ws.length:Int)=2*(n:Int))||(ws.map rdq).any (fun o=>o.isNone)) (fun K hK=>⟨_,rfl,_,rfl,_,rfl,hK⟩) (fun _ K hK=>?_) ?_
 ·refine orT _ _ (fun K' hK'=>⟨_,rfl,_,hm2,_,rfl,bN (cG (by decide)),_,rfl,?_⟩) (fun _ K' hK'=>?_) hK
  ·rw[l2];exact hK'
  ·refine⟨_,rfl,_,_,.non,.inl (.lst hm2 (iX _)),rfl,iN _,_,rfl,?_⟩;rw[iL];exact hK'
 refine br (fun hc=>?_) (fun hc=>?_)
 ·refine⟨M2,.refl,k' (fun l hl9 h9=>?_) _ sb0⟩;obtain⟨vs,e1,e2⟩:=h9;rw[ew]at e1;obtain⟨e3,e4⟩:=List.cons.inj e1;subst e3 e4;have e5:ws.length=2*n:=by have:=congrArg List.length e2;rw[G7,G7,qO,hl9]at this;exact this
  rw[e2,nU,decide_eq_true rfl,decide_eq_true (by omega)]at hc;cases hc
 obtain⟨c1,c2,c3⟩:wd=wd0/\ws.length=2*n/\(ws.map rdq).any (fun o=>o.isNone)=false:=by simp only[Ja,not_or,Bool.not_eq_true,Bool.not_eq_false',decide_eq_true_eq]at hc;exact⟨hc.1,by have:=hc.2.1;omega,hc.2.2⟩
 obtain⟨l,ll,el⟩:=uN hn (by rw[G7];exact c2) c3;have er:RdS wd0 z l:=⟨ws,by rw[ew,c1],el⟩;rw[el]at hm2;refine⟨_,rfl,n,rfl,by omega,comp_map (fun i=>((l.map spq)[i]?).getD .non) (by show n<=_;omega) (fun _ _ _=>trivial) ?_ (fun p3 hp3=>?_)⟩
 ·intro j e M3 hj he sb3;have hj:j<n:=hj;cases he;refine⟨_,rfl,fun K2 hK2=>?_⟩;have z9:=hK2 M3 .refl;have hm:=sb3 _ _ hm2;obtain⟨g1,g2⟩:=qK l j;have ej:l[j]?=some l[j]:=GQ (by omega);rw[ej]at g1 g2
  have a1:atI (((flat l).map some).map opF) (2*(j:Int))=some (Ma.fr l[j].1):=by
   have:=fL (xs:=((flat l).map some).map opF) (j:=2*j) (v:=Ma.fr l[j].1) (by rw[Gs,Gs,g1];rfl)
   rw[<-this];congr 1
  have a2:atI (((flat l).map some).map opF) (2*(j:Int)+1)=some (Ma.fr l[j].2):=by
   have:=fL (xs:=((flat l).map some).map opF) (j:=2*j+1) (v:=Ma.fr l[j].2) (by rw[Gs,Gs,g2];rfl)
   rw[<-this];congr 1
  rw[Gs,ej]at z9;exact⟨_,rfl,_,rfl,bN (cG (by decide)),_,_,hm,a1,_,rfl,_,rfl,bN (cG (by decide)),_,_,hm,a2,nbL rfl,z9⟩
 have e9:=SD.range_getD (l.map spq);rw[G7,ll]at e9;refine rtn (k l ll er _ p3 (.new hp3 sb0) (wA hp3 sb0) ?_);rw[ag];exact congrArg (fun x=>some (MO.lst x)) e9
theorem rm:FnScope ["one","other"] ["one","other"] (ao nB):=by walk_at "sc"
inductive Cn_is_less(x y:D)(M:MH)(Q:DK):Prop
 |mk (q r:Rat) (_:x=Ma.fr q) (_:y=Ma.fr r) (_:Ma.Bq 100000 q) (_:Ma.Bq 100000 r) (_:Q (.bl (decide (q<r))) M)
theorem nR(T:Tx K mg):Cal P w K mg base 1 "is_less" (sD2 Cn_is_less):=by refine bW (k:=0) T.f_is_less rm fun f cdv A outer s H E hr=>⟨_,(aj (ax (bX (eP hr.units) (ar aG (av (dv 0) af) (av (dv 1) af)) (ar aG (av (dv 1) af) (av (dv 0) af))))),fun _ _ M Q h=>?_⟩;obtain⟨q,r,rfl,rfl,h1,h2,k⟩:=h;refine⟨_,rfl,_,rfl,_,rfl,_,rfl,cQ (h1.1.mono (by decide)) (h2.2.mono (by decide)),?_⟩;refine⟨_,rfl,_,rfl,_,rfl,_,rfl,cQ (h2.1.mono (by decide)) (h1.2.mono (by decide)),trivial,?_⟩;dsimp only;rw[Ma.A8];exact rtn k
theorem qb:FnScope ["one","other"] ["one","other"] (ao lL):=by walk_at "sc"
inductive Cn_is_ahead(x y:D)(M:MH)(Q:DK):Prop
 |mk (a b c d:Rat) (_:x=Ma.spt a b) (_:y=Ma.spt c d) (_:Ma.Bq 100000 a) (_:Ma.Bq 100000 b) (_:Ma.Bq 100000 c) (_:Ma.Bq 100000 d) (_:Q (.bl (decide (a<c\/a=c/\b<d))) M)
theorem d4(T:Tx K mg):Cal P w K mg base 2 "is_ahead" (sD2 Cn_is_ahead):=by
 refine bW (k:=1) T.f_is_ahead qb fun f cdv A outer s H E hr=>⟨_,(ai (aN (aA (fo hr.units) (av (dv 0) af) (av (dv 1) af)) (aj (ax (ak (nR T).m hr (aa (av (dv 0) af) (aa (av (dv 1) af) ae))))) aD) (aj (ax (ak (nR T).m hr (aa (av (dv 0) af) (aa (av (dv 1) af) ae)))))),fun _ _ M Q h=>?_⟩;obtain⟨a,b,c,d,rfl,rfl,h1,h2,h3,h4,k⟩:=h;refine⟨_,rfl,_,rfl,_,rfl,_,rfl,_,_,Pd.of rfl,Pd.of rfl,rfl,rfl,?_⟩;rw[Ma.lR];refine⟨_,rfl,?_⟩;refine br (fun h=>?_) (fun h=>?_)
 ·have e:a=c:=by simpa using h
  subst e;refine⟨_,rfl,_,rfl,_,rfl,_,rfl,b,d,rfl,rfl,h2,h4,?_⟩
  have z:(a<a\/a=a/\b<d)↔b<d:=by
   have:=Rat.lt_irrefl (a:=a)
   simp[this]
  rw[decide_eq_decide.mpr z]at k;exact rtn k
 ·have e:¬a=c:=by simpa using h
  refine⟨_,rfl,_,rfl,_,rfl,_,rfl,a,c,rfl,rfl,h1,h3,?_⟩;have z:(a<c\/a=c/\b<d)↔a<c:=by simp[e]
  rw[decide_eq_decide.mpr z]at k;exact rtn k
theorem CW:FnScope ["one","other"] ["one","other"] (ao A4):=by walk_at "sc"
inductive Cn_gap(x y:D)(M:MH)(Q:DK):Prop
 |mk (t1 b1 t2 b2:Int) (_:x=.tup [.int t1,.int b1]) (_:y=.tup [.int t2,.int b2]) (_:Bd 1000000 t1) (_:Bd 1000000 b1) (_:Bd 1000000 t2) (_:Bd 1000000 b2) (_:Q (.tup [.int (t1*b2-t2*b1),.int (b1*b2)]) M)
theorem qf(T:Tx K mg):Cal P w K mg base 1 "gap" (sD2 Cn_gap):=by refine bW (k:=0) T.f_gap CW fun f cdv A outer s H E hr=>⟨_,(aj (ax (aH (aa (ar cD (ar aG (av (dv 0) af) (av (dv 1) af)) (ar aG (av (dv 1) af) (av (dv 0) af))) (aa (ar aG (av (dv 0) af) (av (dv 1) af)) ae))))),fun _ _ M Q h=>?_⟩;obtain⟨t1,b1,t2,b2,rfl,rfl,h1,h2,h3,h4,k⟩:=h;refine⟨_,rfl,_,rfl,_,rfl,_,rfl,cQ h1 h4,_,rfl,_,rfl,_,rfl,_,rfl,cQ h3 h2,trivial,?_⟩;exact⟨_,rfl,_,rfl,_,rfl,_,rfl,cQ h2 h4,nbL rfl,rtn k⟩
theorem dP:FnScope ["wall","spot","a","b","c","d","x","y","across","up","along","high"] ["wall","spot"] (ao ya):=by walk_at "sc"
inductive Cn_lean(u v:D)(M:MH)(Q:DK):Prop
 |mk (n:Nat) (a b c d x y:Rat) (_:u=Ma.wll a b c d) (_:v=Ma.spt x y) (_:Ma.Bq n a) (_:Ma.Bq n b) (_:Ma.Bq n c) (_:Ma.Bq n d) (_:Ma.Bq n x) (_:Ma.Bq n y) (_:n<=20000) (_:∀t e:Int,0<e->Rat.divInt t e=Ma.cr a b c d x y->Bd (8*n+3) t->Bd (8*n+3) e->Q (.tup [.int t,.int e]) M)
theorem sL(T:Tx K mg):Cal P w K mg base 2 "lean" (sD2 Cn_lean):=by
 refine bW (k:=1) T.f_lean dP fun f cdv A outer s H E hr=>⟨_,(ai (cM (dv 0) (bH rfl (aw (bH rfl (aw (aB 2 dP.nd) (aw (aB 3 dP.nd) ba))) (aw (bH rfl (aw (aB 4 dP.nd) (aw (aB 5 dP.nd) ba))) ba)))) (ai (cM (dv 1) (bH rfl (aw (aB 6 dP.nd) (aw (aB 7 dP.nd) ba)))) (ai (eQ 8 9 rfl dP.nd (aa (ak (qf T).m hr (aa (dv 4) (aa (dv 2) ae))) (aa (ak (qf T).m hr (aa (dv 5) (aa (dv 3) ae))) ae))) (ai (eQ 10 11 rfl dP.nd (aa (ak (qf T).m hr (aa (dv 6) (aa (dv 2) ae))) (aa (ak (qf T).m hr (aa (dv 7) (aa (dv 3) ae))) ae))) (aj (ax (ak (qf T).m hr (aa (aH (aa (ar aG (av (dv 8) af) (av (dv 11) af)) (aa (ar aG (av (dv 8) af) (av (dv 11) af)) ae))) (aa (aH (aa (ar aG (av (dv 9) af) (av (dv 10) af)) (aa (ar aG (av (dv 9) af) (av (dv 10) af)) ae))) ae))))))))),fun _ _ M Q h=>?_⟩;obtain⟨n,a,b,c,d,x,y,rfl,rfl,ha,hb,hc,hd,hx,hy,hn,k⟩:=h;have mo:∀{m:Nat} {i:Int},Bd m i->m<=1000000->Bd 1000000 i:=fun z l=>z.mono l;have q1:=hc.gZ ha;have q2:=hd.gZ hb;have q3:=hx.gZ ha;have q4:=hy.gZ hb;have e1:=hc.2.mul ha.2;have e2:=hd.2.mul hb.2;have e3:=hx.2.mul ha.2;have e4:=hy.2.mul hb.2;refine⟨_,rfl,_,rfl,rfl,_,_,rfl,⟨_,rfl,rfl,_,_,rfl,_,_,rfl,rfl,?_⟩⟩;refine⟨_,_,rfl,⟨_,rfl,rfl,_,_,rfl,_,_,rfl,rfl,?_⟩⟩;refine⟨rfl,_,rfl,_,rfl,rfl,_,_,rfl,_,_,rfl,rfl,?_⟩;refine⟨_,rfl,_,rfl,_,_,_,_,rfl,rfl,mo hc.1 (by omega),mo hc.2 (by omega),mo ha.1 (by omega),mo ha.2 (by omega),?_⟩;refine⟨_,rfl,_,rfl,_,_,_,_,rfl,rfl,mo hd.1 (by omega),mo hd.2 (by omega),mo hb.1 (by omega),mo hb.2 (by omega),?_⟩;refine⟨_,_,rfl,?_⟩;refine⟨_,rfl,_,rfl,_,_,_,_,rfl,rfl,mo hx.1 (by omega),mo hx.2 (by omega),mo ha.1 (by omega),mo ha.2 (by omega),?_⟩;refine⟨_,rfl,_,rfl,_,_,_,_,rfl,rfl,mo hy.1 (by omega),mo hy.2 (by omega),mo hb.1 (by omega),mo hb.2 (by omega),?_⟩;refine⟨_,_,rfl,?_⟩;refine⟨_,rfl,_,rfl,_,rfl,_,rfl,cQ (mo q1 (by omega)) (mo q4 (by omega)),?_⟩;refine⟨_,rfl,_,rfl,_,rfl,_,rfl,cQ (mo e1 (by omega)) (mo e4 (by omega)),nbL rfl,?_⟩;refine⟨_,rfl,_,rfl,_,rfl,_,rfl,cQ (mo q2 (by omega)) (mo q3 (by omega)),?_⟩;refine⟨_,rfl,_,rfl,_,rfl,_,rfl,cQ (mo e2 (by omega)) (mo e3 (by omega)),nbL rfl,?_⟩;refine⟨_,_,_,_,rfl,rfl,mo (q1.mul q4) (by omega),mo (e1.mul e4) (by omega),mo (q2.mul q3) (by omega),mo (e2.mul e3) (by omega),?_⟩;have pe:∀q r:Rat,0<(q.den:Int)*(r.den:Int):=fun q r=>HX (Ma.den_pos q) (Ma.den_pos r);refine rtn (k _ _ (HX (HX (pe c a) (pe y b)) (HX (pe d b) (pe x a))) (Ma.uI a b c d x y) ?_ ?_)
 ·exact((((q1.mul q4).mul (e2.mul e3)).mono (show _<=8*n+2 by omega)).sub (((q2.mul q3).mul (e1.mul e4)).mono (show _<=8*n+2 by omega)))
 ·exact((e1.mul e4).mul (e2.mul e3)).mono (by omega)
theorem mq:FnScope ["wall","spot","top"] ["wall","spot"] (ao m9):=by walk_at "sc"
inductive Cn_side_of(u v:D)(M:MH)(Q:DK):Prop
 |mk (n:Nat) (a b c d x y:Rat) (_:u=Ma.wll a b c d) (_:v=Ma.spt x y) (_:Ma.Bq n a) (_:Ma.Bq n b) (_:Ma.Bq n c) (_:Ma.Bq n d) (_:Ma.Bq n x) (_:Ma.Bq n y) (_:n<=1900) (_:Q (.int (Ma.sgn (Ma.cr a b c d x y))) M)
theorem gO(T:Tx K mg):Cal P w K mg base 3 "side_of" (sD2 Cn_side_of):=by
 refine bW (k:=2) T.f_side_of mq fun f cdv A outer s H E hr=>⟨_,(ai (ay 2 mq.nd (av (ak (sL T).m hr (aa (dv 0) (aa (dv 1) ae))) af)) (ai (aN (aA (iq hr.units) (dv 2) af) (aj (ax af)) aD) (ai (aN (aA (eP hr.units) (dv 2) af) (aj (ax (ql ji af))) aD) (aj (ax af))))),fun _ _ M Q h=>?_⟩;obtain⟨n,a,b,c,d,x,y,rfl,rfl,ha,hb,hc,hd,hx,hy,hn,k⟩:=h;refine⟨_,rfl,_,rfl,n,a,b,c,d,x,y,rfl,rfl,ha,hb,hc,hd,hx,hy,by omega,fun t e he hte _ _=>⟨_,rfl,?_⟩⟩;rw[<-hte,Ma.tV he]at k;refine⟨_,rfl,trivial,_,rfl,?_⟩;refine br (fun h=>?_) (fun h=>?_)
 ·rw[if_pos (by simpa using h)]at k;exact rtn k
 rw[if_neg (by simpa using h)]at k;refine⟨_,rfl,trivial,_,rfl,?_⟩;refine br (fun h=>?_) (fun h=>?_)
 ·rw[if_pos (by simpa using h)]at k;exact rtn k
 ·rw[if_neg (by simpa using h)]at k;exact rtn k
theorem qw:FnScope ["one","other"] ["one","other"] (ao mj):=by walk_at "sc"
inductive Cn_later_of(x y:D)(M:MH)(Q:DK):Prop
 |mk (a b e f:Rat) (_:x=Ma.spt a b) (_:y=Ma.spt e f) (_:Ma.Bq 100000 a) (_:Ma.Bq 100000 b) (_:Ma.Bq 100000 e) (_:Ma.Bq 100000 f) (_:∀s:Rat×Rat,s=(if Ma.ah e f a b then(a,b)else(e,f))->Q (Ma.spt s.1 s.2) M)
theorem sD(T:Tx K mg):Cal P w K mg base 3 "later_of" (sD2 Cn_later_of):=by
 refine bW (k:=2) T.f_later_of qw fun f cdv A outer s H E hr=>⟨_,(aj (ax (ir (cJ (ak (d4 T).m hr (aa (dv 1) (aa (dv 0) ae)))) (dv 0) (dv 1)))),fun _ _ M Q h=>?_⟩;obtain⟨a,b,e,f,rfl,rfl,h1,h2,h3,h4,k⟩:=h;refine⟨_,rfl,_,rfl,e,f,a,b,rfl,rfl,h3,h4,h1,h2,_,rfl,?_⟩;refine br (fun h=>?_) (fun h=>?_)
 ·have z:Ma.ah e f a b:=by simpa[Ma.ah]using h
  have:=k (a,b) (by rw[if_pos z]);exact⟨_,rfl,rtn this⟩
 ·have z:¬Ma.ah e f a b:=by simpa[Ma.ah]using h
  have:=k (e,f) (by rw[if_neg z]);exact⟨_,rfl,rtn this⟩
theorem mE:FnScope ["one","other"] ["one","other"] (ao iD):=by walk_at "sc"
inductive Cn_earlier_of(x y:D)(M:MH)(Q:DK):Prop
 |mk (c d g h:Rat) (_:x=Ma.spt c d) (_:y=Ma.spt g h) (_:Ma.Bq 100000 c) (_:Ma.Bq 100000 d) (_:Ma.Bq 100000 g) (_:Ma.Bq 100000 h) (_:∀s:Rat×Rat,s=(if Ma.ah c d g h then(c,d)else(g,h))->Q (Ma.spt s.1 s.2) M)
theorem pF(T:Tx K mg):Cal P w K mg base 3 "earlier_of" (sD2 Cn_earlier_of):=by
 refine bW (k:=2) T.f_earlier_of mE fun f cdv A outer s H E hr=>⟨_,(aj (ax (ir (cJ (ak (d4 T).m hr (aa (dv 0) (aa (dv 1) ae)))) (dv 0) (dv 1)))),fun _ _ M Q h=>?_⟩;obtain⟨c,d,g,h',rfl,rfl,h1,h2,h3,h4,k⟩:=h;refine⟨_,rfl,_,rfl,c,d,g,h',rfl,rfl,h1,h2,h3,h4,_,rfl,?_⟩;refine br (fun h=>?_) (fun h=>?_)
 ·have z:Ma.ah c d g h':=by simpa[Ma.ah]using h
  have:=k (c,d) (by rw[if_pos z]);exact⟨_,rfl,rtn this⟩
 ·have z:¬Ma.ah c d g h':=by simpa[Ma.ah]using h
  have:=k (g,h') (by rw[if_neg z]);exact⟨_,rfl,rtn this⟩
theorem gu:FnScope ["spot","x","y"] ["spot"] (ao lH):=by walk_at "sc"
inductive Cn_own_spot(x:D)(M:MH)(Q:DK):Prop
 |mk (a b:Rat) (_:x=Ma.spt a b) (_:Ma.Bq 8000 a) (_:Ma.Bq 8000 b) (_:Q (Ma.spt a b) M)
theorem ia(T:Tx K mg):Cal P w K mg base 3 "own_spot" (sD1 Cn_own_spot):=by refine eJ (k:=2) T.f_own_spot gu fun f cdv A outer s H E hr=>⟨_,(ai (cM (dv 0) (bH rfl (aw (aB 1 gu.nd) (aw (aB 2 gu.nd) ba)))) (aj (ax (aH (aa (ak (cg T).m hr (aa (av (dv 1) af) (aa (av (dv 1) af) ae))) (aa (ak (cg T).m hr (aa (av (dv 2) af) (aa (av (dv 2) af) ae))) ae)))))),fun _ M Q h=>?_⟩;obtain⟨a,b,rfl,h1,h2,k⟩:=h;refine⟨_,rfl,_,rfl,rfl,_,_,rfl,_,_,rfl,rfl,?_⟩;refine⟨_,rfl,_,rfl,_,rfl,_,rfl,a.num,(a.den:Int),rfl,rfl,Ma.eR a,h1.1,h1.2,?_⟩;refine⟨_,rfl,_,rfl,_,rfl,_,rfl,b.num,(b.den:Int),rfl,rfl,Ma.eR b,h2.1,h2.2,nbL rfl,?_⟩;rw[Ho,Ho];exact rtn k
theorem qa:FnScope ["wall"] ["wall"] (ao ly):=by walk_at "sc"
inductive Cn_own_wall(x:D)(M:MH)(Q:DK):Prop
 |mk (a b c d:Rat) (_:x=Ma.wll a b c d) (_:Ma.Bq 8000 a) (_:Ma.Bq 8000 b) (_:Ma.Bq 8000 c) (_:Ma.Bq 8000 d) (_:Q (Ma.wll a b c d) M)
theorem sf(T:Tx K mg):Cal P w K mg base 4 "own_wall" (sD1 Cn_own_wall):=by refine eJ (k:=3) T.f_own_wall qa fun f cdv A outer s H E hr=>⟨_,(aj (ax (aH (aa (ak (ia T).m hr (aa (av (dv 0) af) ae)) (aa (ak (ia T).m hr (aa (av (dv 0) af) ae)) ae))))),fun _ M Q h=>?_⟩;obtain⟨a,b,c,d,rfl,h1,h2,h3,h4,k⟩:=h;exact⟨_,rfl,_,rfl,a,b,rfl,h1,h2,_,rfl,_,rfl,c,d,rfl,h3,h4,nbL rfl,rtn k⟩
theorem cL:FnScope ["one","other","start","end"] ["one","other"] (ao eF):=by walk_at "sc"
inductive Cn_meeting_in_line(u v:D)(M:MH)(Q:DK):Prop
 |mk (a b c d e f g h:Rat) (_:u=Ma.wll a b c d) (_:v=Ma.wll e f g h) (_:Ma.Bq 100 a) (_:Ma.Bq 100 b) (_:Ma.Bq 100 c) (_:Ma.Bq 100 d) (_:Ma.Bq 100 e) (_:Ma.Bq 100 f) (_:Ma.Bq 100 g) (_:Ma.Bq 100 h) (_:Q (AS a b c d e f g h) M)
theorem iR(T:Tx K mg):Cal P w K mg base 5 "meeting_in_line" (sD2 Cn_meeting_in_line):=by
 refine bW (k:=4) T.f_meeting_in_line cL fun f cdv A outer s H E hr=>⟨_,(ai (ay 2 cL.nd (ak (sD T).m hr (aa (av (dv 0) af) (aa (av (dv 1) af) ae)))) (ai (ay 3 cL.nd (ak (pF T).m hr (aa (av (dv 0) af) (aa (av (dv 1) af) ae)))) (ai (aN (cJ (ak (d4 T).m hr (aa (dv 2) (aa (dv 3) ae)))) (aj (ax (aH (aa aE (aa (ak (sf T).m hr (aa (aH (aa (dv 2) (aa (dv 3) ae))) ae)) ae))))) aD) (ai (aN (cJ (ak (d4 T).m hr (aa (dv 3) (aa (dv 2) ae)))) (aj (ax aU)) aD) (aj (ax (aH (aa aE (aa (ak (ia T).m hr (aa (dv 2) ae)) ae))))))))),fun _ _ M Q h=>?_⟩;obtain⟨a,b,c,d,e,f,g,h',rfl,rfl,h1,h2,h3,h4,h5,h6,h7,h8,k⟩:=h;have mo:∀{n:Nat} {q:Rat},Ma.Bq 100 q->100<=n->Ma.Bq n q:=fun z l=>z.mono l;refine⟨_,rfl,_,rfl,_,rfl,_,rfl,a,b,e,f,rfl,rfl,mo h1 (by decide),mo h2 (by decide),mo h5 (by decide),mo h6 (by decide),fun s hs=>?_⟩;refine⟨_,rfl,_,rfl,_,rfl,_,rfl,c,d,g,h',rfl,rfl,mo h3 (by decide),mo h4 (by decide),mo h7 (by decide),mo h8 (by decide),fun n hn=>?_⟩
 have bs:Ma.Bq 100 s.1/\Ma.Bq 100 s.2:=by
  rw[hs];split
  ·exact⟨h1,h2⟩
  ·exact⟨h5,h6⟩
 have bn:Ma.Bq 100 n.1/\Ma.Bq 100 n.2:=by
  rw[hn];split
  ·exact⟨h3,h4⟩
  ·exact⟨h7,h8⟩
 unfold AS at k;rw[<-hs,<-hn]at k;dsimp only at k;obtain⟨s1,s2⟩:=s;obtain⟨n1,n2⟩:=n;dsimp only at bs bn k;refine⟨_,rfl,_,rfl,s1,s2,n1,n2,rfl,rfl,mo bs.1 (by decide),mo bs.2 (by decide),mo bn.1 (by decide),mo bn.2 (by decide),_,rfl,?_⟩;refine br (fun z=>?_) (fun z=>?_)
 ·have z:Ma.ah s1 s2 n1 n2:=by simpa[Ma.ah]using z
  rw[if_pos z]at k;exact⟨_,rfl,_,rfl,nbL rfl,s1,s2,n1,n2,rfl,mo bs.1 (by decide),mo bs.2 (by decide),mo bn.1 (by decide),mo bn.2 (by decide),nbL rfl,rtn k⟩
 have z:¬Ma.ah s1 s2 n1 n2:=by simpa[Ma.ah]using z
 rw[if_neg z]at k;refine⟨_,rfl,_,rfl,n1,n2,s1,s2,rfl,rfl,mo bn.1 (by decide),mo bn.2 (by decide),mo bs.1 (by decide),mo bs.2 (by decide),_,rfl,?_⟩;refine br (fun y=>?_) (fun y=>?_)
 ·have y:Ma.ah n1 n2 s1 s2:=by simpa[Ma.ah]using y
  rw[if_pos y]at k;exact rtn k
 ·have y:¬Ma.ah n1 n2 s1 s2:=by simpa[Ma.ah]using y
  rw[if_neg y]at k;exact⟨_,rfl,s1,s2,rfl,mo bs.1 (by decide),mo bs.2 (by decide),nbL rfl,rtn k⟩
theorem AA:FnScope ["one","other"] ["one","other"] (ao xo):=by walk_at "sc"
inductive Cn_over(x y:D)(M:MH)(Q:DK):Prop
 |mk (n:Nat) (q r:Rat) (_:x=Ma.fr q) (_:y=Ma.fr r) (_:Ma.Bq n q) (_:Ma.Bq n r) (_:2*n+1<=8000) (_:r≠0) (_:Q (Ma.fr (q/r)) M)
theorem Cg(T:Tx K mg):Cal P w K mg base 3 "over" (sD2 Cn_over):=by refine bW (k:=2) T.f_over AA fun f cdv A outer s H E hr=>⟨_,(aj (ax (ak (cg T).m hr (aa (ar aG (av (dv 0) af) (av (dv 1) af)) (aa (ar aG (av (dv 0) af) (av (dv 1) af)) ae))))),fun _ _ M Q h=>?_⟩;obtain⟨n,q,r,rfl,rfl,h1,h2,hn,h0,k⟩:=h;obtain⟨m1,m2,m3,m4⟩:=h1.mOk h2 (by omega);have hr0:r.num≠0:=fun z=>h0 (Rat.num_eq_zero.mp z);refine⟨_,rfl,_,rfl,_,rfl,_,rfl,m2,_,rfl,_,rfl,_,rfl,_,rfl,cQ (h1.2.mono (by omega)) (h2.1.mono (by omega)),?_⟩;refine⟨_,_,rfl,rfl,Int.mul_ne_zero (Ma.eR q) hr0,((h1.1.mul h2.2).mono (by omega)),((h1.2.mul h2.1).mono (by omega)),?_⟩;rw[Ma.div_eq];exact rtn k
theorem zO:FnScope ["one","other"] ["one","other"] (ao xJ):=by walk_at "sc"
inductive Cn_less(x y:D)(M:MH)(Q:DK):Prop
 |mk (n:Nat) (q r:Rat) (_:x=Ma.fr q) (_:y=Ma.fr r) (_:Ma.Bq n q) (_:Ma.Bq n r) (_:2*n+1<=8000) (_:Q (Ma.fr (q-r)) M)
theorem yx(T:Tx K mg):Cal P w K mg base 3 "less" (sD2 Cn_less):=by refine bW (k:=2) T.f_less zO fun f cdv A outer s H E hr=>⟨_,(aj (ax (ak (cg T).m hr (aa (ar cD (ar aG (av (dv 0) af) (av (dv 1) af)) (ar aG (av (dv 1) af) (av (dv 0) af))) (aa (ar aG (av (dv 0) af) (av (dv 1) af)) ae))))),fun _ _ M Q h=>?_⟩;obtain⟨n,q,r,rfl,rfl,h1,h2,hn,k⟩:=h;obtain⟨m1,m2,m3,m4⟩:=h1.mOk h2 (by omega);refine⟨_,rfl,_,rfl,_,rfl,_,rfl,m2,_,rfl,_,rfl,_,rfl,_,rfl,m3,trivial,_,rfl,_,rfl,_,rfl,_,rfl,m4,?_⟩;refine⟨_,_,rfl,rfl,Ma.jf q r,(h1.gZ h2).mono hn,(h1.tU h2).mono hn,?_⟩;rw[Ma.sub_eq];exact rtn k
theorem Ac:FnScope ["one","other"] ["one","other"] (ao xA):=by walk_at "sc"
inductive Cn_plus(x y:D)(M:MH)(Q:DK):Prop
 |mk (n:Nat) (q r:Rat) (_:x=Ma.fr q) (_:y=Ma.fr r) (_:Ma.Bq n q) (_:Ma.Bq n r) (_:2*n+1<=8000) (_:Q (Ma.fr (q+r)) M)
theorem Dx(T:Tx K mg):Cal P w K mg base 3 "plus" (sD2 Cn_plus):=by refine bW (k:=2) T.f_plus Ac fun f cdv A outer s H E hr=>⟨_,(aj (ax (ak (cg T).m hr (aa (ar cb (ar aG (av (dv 0) af) (av (dv 1) af)) (ar aG (av (dv 1) af) (av (dv 0) af))) (aa (ar aG (av (dv 0) af) (av (dv 1) af)) ae))))),fun _ _ M Q h=>?_⟩;obtain⟨n,q,r,rfl,rfl,h1,h2,hn,k⟩:=h;obtain⟨m1,m2,m3,m4⟩:=h1.mOk h2 (by omega);refine⟨_,rfl,_,rfl,_,rfl,_,rfl,m2,_,rfl,_,rfl,_,rfl,_,rfl,m3,_,rfl,_,rfl,_,rfl,_,rfl,m4,?_⟩;refine⟨_,_,rfl,rfl,Ma.jf q r,(h1.EG h2).mono hn,(h1.tU h2).mono hn,?_⟩;rw[Ma.add_eq];exact rtn k
theorem xU:FnScope ["one","other"] ["one","other"] (ao uj):=by walk_at "sc"
inductive Cn_times(x y:D)(M:MH)(Q:DK):Prop
 |mk (n:Nat) (q r:Rat) (_:x=Ma.fr q) (_:y=Ma.fr r) (_:Ma.Bq n q) (_:Ma.Bq n r) (_:2*n+1<=8000) (_:Q (Ma.fr (q*r)) M)
theorem zb(T:Tx K mg):Cal P w K mg base 3 "times" (sD2 Cn_times):=by refine bW (k:=2) T.f_times xU fun f cdv A outer s H E hr=>⟨_,(aj (ax (ak (cg T).m hr (aa (ar aG (av (dv 0) af) (av (dv 1) af)) (aa (ar aG (av (dv 0) af) (av (dv 1) af)) ae))))),fun _ _ M Q h=>?_⟩;obtain⟨n,q,r,rfl,rfl,h1,h2,hn,k⟩:=h;obtain⟨m1,m2,m3,m4⟩:=h1.mOk h2 (by omega);refine⟨_,rfl,_,rfl,_,rfl,_,rfl,m1,_,rfl,_,rfl,_,rfl,_,rfl,m4,?_⟩;refine⟨_,_,rfl,rfl,Ma.jf q r,(h1.ED h2).mono hn,(h1.tU h2).mono hn,?_⟩;rw[Ma.mul_eq];exact rtn k
theorem i9:FnScope ["start","end","share"] ["start","end","share"] (ao fh):=by walk_at "sc"
inductive Cn_number_between(x y z:D)(M:MH)(Q:DK):Prop
 |mk (p q s:Rat) (_:x=Ma.fr p) (_:y=Ma.fr q) (_:z=Ma.fr s) (_:Ma.Bq 100 p) (_:Ma.Bq 100 q) (_:Ma.Bq 3215 s) (_:Q (Ma.fr (btw p q s)) M)
theorem eY(T:Tx K mg):Cal P w K mg base 4 "number_between" (sD3 Cn_number_between):=by
 refine qu (k:=3) T.f_number_between i9 fun f cdv A outer s H E hr=>⟨_,(aj (ax (ak (Dx T).m hr (aa (dv 0) (aa (ak (zb T).m hr (aa (dv 2) (aa (ak (yx T).m hr (aa (dv 1) (aa (dv 0) ae))) ae))) ae))))),fun _ _ _ M Q h=>?_⟩;obtain⟨p,q,s,rfl,rfl,rfl,h1,h2,h3,k⟩:=h;refine⟨_,rfl,_,rfl,_,rfl,_,rfl,100,q,p,rfl,rfl,h2,h1,by decide,?_⟩;refine⟨3215,s,q-p,rfl,rfl,h3,(h2.sub h1).mono (by decide),by decide,?_⟩;have b3:Ma.Bq 3416 (s*(q-p)):=by rw[<-Ma.mul_eq];exact .divInt (Ma.jf _ _) ((h3.1.mul (h2.sub h1).1).mono (by decide)) ((h3.2.mul (h2.sub h1).2).mono (by decide))
 exact⟨3416,p,s*(q-p),rfl,rfl,h1.mono (by decide),b3,by decide,rtn k⟩
theorem aY:FnScope ["one","other","start","end","top","bottom","from_start","share"] ["one","other"] (ao fW):=by walk_at "sc"
inductive Cn_crossing_spot(u v:D)(M:MH)(Q:DK):Prop
 |mk (a b c d e f g h:Rat) (_:u=Ma.wll a b c d) (_:v=Ma.wll e f g h) (_:Ma.Bq 100 a) (_:Ma.Bq 100 b) (_:Ma.Bq 100 c) (_:Ma.Bq 100 d) (_:Ma.Bq 100 e) (_:Ma.Bq 100 f) (_:Ma.Bq 100 g) (_:Ma.Bq 100 h) (_:Ma.cr a b c d e f-Ma.cr a b c d g h≠0) (_:Q (Ma.spt (btw e g (Ma.cr a b c d e f/(Ma.cr a b c d e f-Ma.cr a b c d g h))) (btw f h (Ma.cr a b c d e f/(Ma.cr a b c d e f-Ma.cr a b c d g h)))) M)
theorem jW(T:Tx K mg):Cal P w K mg base 5 "crossing_spot" (sD2 Cn_crossing_spot):=by
 refine bW (k:=4) T.f_crossing_spot aY fun f cdv A outer s H E hr=>⟨_,(ai (cM (dv 1) (bH rfl (aw (aB 2 aY.nd) (aw (aB 3 aY.nd) ba)))) (ai (cM (ak (sL T).m hr (aa (dv 0) (aa (dv 2) ae))) (bH rfl (aw (aB 4 aY.nd) (aw (aB 5 aY.nd) ba)))) (ai (ay 6 aY.nd (ak (cg T).m hr (aa (dv 4) (aa (dv 5) ae)))) (ai (cM (ak (sL T).m hr (aa (dv 0) (aa (dv 3) ae))) (bH rfl (aw (aB 4 aY.nd) (aw (aB 5 aY.nd) ba)))) (ai (ay 7 aY.nd (ak (Cg T).m hr (aa (dv 6) (aa (ak (yx T).m hr (aa (dv 6) (aa (ak (cg T).m hr (aa (dv 4) (aa (dv 5) ae))) ae))) ae)))) (aj (ax (aH (aa (ak (eY T).m hr (aa (av (dv 2) af) (aa (av (dv 3) af) (aa (dv 7) ae)))) (aa (ak (eY T).m hr (aa (av (dv 2) af) (aa (av (dv 3) af) (aa (dv 7) ae)))) ae)))))))))),fun _ _ M Q h=>?_⟩;obtain⟨a,b,c,d,e,f,g,h',rfl,rfl,h1,h2,h3,h4,h5,h6,h7,h8,h0,k⟩:=h;refine⟨_,rfl,_,rfl,rfl,_,_,rfl,_,_,rfl,rfl,?_⟩;refine⟨_,rfl,_,rfl,100,a,b,c,d,e,f,rfl,rfl,h1,h2,h3,h4,h5,h6,by decide,fun t1 e1 he1 q1 bt1 be1=>?_⟩;refine⟨_,rfl,rfl,_,_,rfl,_,_,rfl,rfl,?_⟩;refine⟨_,rfl,_,rfl,t1,e1,rfl,rfl,by omega,bt1.mono (by decide),be1.mono (by decide),?_⟩;refine⟨_,rfl,_,rfl,100,a,b,c,d,g,h',rfl,rfl,h1,h2,h3,h4,h7,h8,by decide,fun t2 e2 he2 q2 bt2 be2=>?_⟩;refine⟨_,rfl,rfl,_,_,rfl,_,_,rfl,rfl,?_⟩;have b1:Ma.Bq 803 (Ma.cr a b c d e f):=by rw[<-q1];exact .divInt (by omega) bt1 be1
 have b2:Ma.Bq 803 (Ma.cr a b c d g h'):=by rw[<-q2];exact .divInt (by omega) bt2 be2
 rw[q1];refine⟨_,rfl,_,rfl,_,rfl,_,rfl,t2,e2,rfl,rfl,by omega,bt2.mono (by decide),be2.mono (by decide),?_⟩;rw[q2];refine⟨803,_,_,rfl,rfl,b1,b2,by decide,?_⟩;refine⟨1607,_,_,rfl,rfl,b1.mono (by decide),b1.sub b2,by decide,h0,?_⟩
 have bs:Ma.Bq 3215 (Ma.cr a b c d e f/(Ma.cr a b c d e f-Ma.cr a b c d g h')):=by
  rw[<-Ma.div_eq]
  have hz:(Ma.cr a b c d e f-Ma.cr a b c d g h').num≠0:=fun z=>h0 (Rat.num_eq_zero.mp z)
  have y1:=b1.mono (show 803<=1607 by decide)
  have y2:=b1.sub b2
  exact .divInt (Int.mul_ne_zero (Ma.eR _) hz) ((y1.1.mul y2.2).mono (by decide)) ((y1.2.mul y2.1).mono (by decide))
 generalize Ma.cr a b c d e f/(Ma.cr a b c d e f-Ma.cr a b c d g h')=sh at bs k;refine⟨_,rfl,_,rfl,_,rfl,_,rfl,_,rfl,e,g,sh,rfl,rfl,rfl,h5,h7,bs,?_⟩;exact⟨_,rfl,_,rfl,_,rfl,_,rfl,_,rfl,f,h',sh,rfl,rfl,rfl,h6,h8,bs,nbL rfl,rtn k⟩
theorem kO:FnScope ["one","other","first_side","second_side"] ["one","other"] (ao nG):=by walk_at "sc"
inductive Cn_meeting(u v:D)(M:MH)(Q:DK):Prop
 |mk (a b c d e f g h:Rat) (_:u=Ma.wll a b c d) (_:v=Ma.wll e f g h) (_:Ma.Bq 100 a) (_:Ma.Bq 100 b) (_:Ma.Bq 100 c) (_:Ma.Bq 100 d) (_:Ma.Bq 100 e) (_:Ma.Bq 100 f) (_:Ma.Bq 100 g) (_:Ma.Bq 100 h) (_:Q (lh a b c d e f g h) M)
theorem vO(T:Tx K mg):Cal P w K mg base 6 "meeting" (sD2 Cn_meeting):=by
 refine bW (k:=5) T.f_meeting kO fun f cdv A outer s H E hr=>⟨_,(ai (eQ 2 3 rfl kO.nd (aa (ak (gO T).m hr (aa (dv 0) (aa (av (dv 1) af) ae))) (aa (ak (gO T).m hr (aa (dv 0) (aa (av (dv 1) af) ae))) ae))) (ai (aN (dF (dq (aA (fo hr.units) (dv 2) af) (c9 (aA (fo hr.units) (dv 3) af)))) (aj (ax (ak (iR T).m hr (aa (dv 0) (aa (dv 1) ae))))) aD) (ai (aN (dF (cV (aA (iq hr.units) (ar aG (dv 2) (dv 3)) af) (c6 (aA (iq hr.units) (ar aG (ak (gO T).m hr (aa (dv 1) (aa (av (dv 0) af) ae))) (ak (gO T).m hr (aa (dv 1) (aa (av (dv 0) af) ae)))) af)))) (aj (ax aU)) aD) (aj (ax (aH (aa aE (aa (ak (jW T).m hr (aa (dv 0) (aa (dv 1) ae))) ae)))))))),fun _ _ M Q h=>?_⟩;obtain⟨a,b,c,d,e,f,g,h',rfl,rfl,h1,h2,h3,h4,h5,h6,h7,h8,k⟩:=h;unfold lh at k;refine⟨_,rfl,_,rfl,_,rfl,100,a,b,c,d,e,f,rfl,rfl,h1,h2,h3,h4,h5,h6,by decide,?_⟩;refine⟨_,rfl,_,rfl,_,rfl,100,a,b,c,d,g,h',rfl,rfl,h1,h2,h3,h4,h7,h8,by decide,?_⟩;refine⟨_,_,rfl,?_⟩;have sb:∀z:Rat,Bd 64 (Ma.sgn z):=rF;(try dsimp only[SD.aK])
 (try dsimp only[SD.bM,SD.bE,SD.aK,SD.bR,SD.bP,SD.bc,SD.bo,SD.tBD,SD.bQ])
 refine l0 (decide (Ma.sgn (Ma.cr a b c d e f)=0)) (decide (Ma.sgn (Ma.cr a b c d g h')=0)) (fun K hK=>⟨_,rfl,_,rfl,hK⟩) (fun _ K hK=>⟨_,rfl,_,rfl,hK⟩) ?_;rw[<-Bool.decide_and];refine br (fun z=>?_) (fun z=>?_)
 ·have z:Ma.sgn (Ma.cr a b c d e f)=0/\Ma.sgn (Ma.cr a b c d g h')=0:=by simpa using z
  rw[if_pos z]at k;exact⟨_,rfl,_,rfl,a,b,c,d,e,f,g,h',rfl,rfl,h1,h2,h3,h4,h5,h6,h7,h8,rtn k⟩
 have z:¬(Ma.sgn (Ma.cr a b c d e f)=0/\Ma.sgn (Ma.cr a b c d g h')=0):=by simpa using z
 rw[if_neg z]at k;refine orT (decide (0<Ma.sgn (Ma.cr a b c d e f)*Ma.sgn (Ma.cr a b c d g h'))) (decide (0<Ma.sgn (Ma.cr e f g h' a b)*Ma.sgn (Ma.cr e f g h' c d))) (fun K hK=>⟨_,rfl,_,rfl,bN (sb _),trivial,_,rfl,hK⟩) (fun _ K hK=>⟨_,rfl,_,rfl,_,rfl,100,e,f,g,h',a,b,rfl,rfl,h5,h6,h7,h8,h1,h2,by decide,_,rfl,_,rfl,_,rfl,100,e,f,g,h',c,d,rfl,rfl,h5,h6,h7,h8,h3,h4,by decide,bN (sb _),trivial,_,rfl,hK⟩) ?_;rw[<-Bool.decide_or];refine br (fun y=>?_) (fun y=>?_)
 ·rw[if_pos (by simpa using y)]at k;exact rtn k
 ·have y:¬(0<Ma.sgn (Ma.cr a b c d e f)*Ma.sgn (Ma.cr a b c d g h')\/0<Ma.sgn (Ma.cr e f g h' a b)*Ma.sgn (Ma.cr e f g h' c d)):=by simpa using y
  rw[if_neg y]at k;refine⟨_,rfl,_,rfl,a,b,c,d,e,f,g,h',rfl,rfl,h1,h2,h3,h4,h5,h6,h7,h8,?_,nbL rfl,rtn k⟩;intro hz;have hz:Ma.cr a b c d e f=Ma.cr a b c d g h':=by grind
  rw[hz]at y z;have:Ma.sgn (Ma.cr a b c d g h')≠0:=fun q=>z ⟨q,q⟩;have hs:=ny (Ma.cr a b c d g h');rcases hs with q|q|q
  ·rw[q]at y;exact y (.inl (by decide))
  ·rw[q]at y;exact y (.inl (by decide))
  ·exact this q
theorem dH:FnScope ["one","other","met"] ["one","other"] (ao d8):=by walk_at "sc"
inductive Cn_meet_as_in_plots(u v:D)(M:MH)(Q:DK):Prop
 |mk (U V:RW) (_:u=wq U) (_:v=wq V) (_:NQ 100 U) (_:NQ 100 V) (_:OwQ U) (_:OwQ V) (_:Q (.bl (cw U V)) M)
theorem iB(T:Tx K mg):Cal P w K mg base 7 "meet_as_in_plots" (sD2 Cn_meet_as_in_plots):=by
 refine bW (k:=6) T.f_meet_as_in_plots dH fun f cdv A outer s H E hr=>⟨_,(ai (ay 2 dH.nd (ak (vO T).m hr (aa (dv 0) (aa (dv 1) ae)))) (ai (aN (aA eM (dv 2) aU) (aj (ax iJ)) aD) (aj (ax (lG (bX (fo hr.units) (av (dv 2) af) aE) (lG (bX (t4 (oi hr)) (av (dv 2) af) (dv 0) (by with_unfolding_all rfl)) (iA (bX (t4 (oi hr)) (av (dv 2) af) (dv 1) (by with_unfolding_all rfl))))))))),fun _ _ M Q h=>?_⟩;obtain⟨U,V,rfl,rfl,HU,HV,oU,oV,k⟩:=h;refine⟨_,rfl,_,rfl,_,_,_,_,_,_,_,_,rfl,rfl,HU.a,HU.b,HU.c,HU.d,HV.a,HV.b,HV.c,HV.d,?_⟩;have m:=C3 oU oV;unfold mtQ at m;generalize lh U.1 U.2.1 U.2.2.1 U.2.2.2 V.1 V.2.1 V.2.2.1 V.2.2.2=d at m;have okS:∀{x:Str},Iy x=true->Ia (.str x)=true:=fun{x} h=>Bool.and_eq_true_iff.mpr ⟨by rw[IF];exact h,decide_eq_true (nbL rfl)⟩;cases m with
 |non h=>
  rw[h]at k
  exact⟨_,rfl,_,rfl,_,rfl,bS rfl (rtn k)⟩
 |str h=>
  rw[h]at k
  refine⟨_,rfl,_,rfl,_,rfl,cu rfl ?_⟩
  (try dsimp only[SD.bM,SD.bE,SD.aK,SD.bR,SD.bP,SD.bc,SD.bo,SD.tBD,SD.bQ])
  refine uX false true (fun K hK=>?_) (fun z=>absurd z G5) (rtn k)
  exact⟨_,rfl,_,rfl,_,_,.str _,.str _,okS sU,okS om,hK⟩
 |spot h=>
  rename_i x y
  refine⟨_,rfl,_,rfl,_,rfl,cu rfl ?_⟩
  (try dsimp only[SD.bM,SD.bE,SD.aK,SD.bR,SD.bP,SD.bc,SD.bo,SD.tBD,SD.bQ])
  refine uX true (oz U x y&&oz V x y) (fun K hK=>?_) (fun _ K hK=>?_) (rtn (by rw[Bool.true_and,<-h];exact k))
  ·refine⟨_,rfl,_,rfl,_,_,.str _,.str _,okS om,okS om,?_⟩;rw[uc];exact hK
  ·exact uX _ _ (fun K hK=>⟨_,rfl,_,rfl,_,rfl,um _ _ hK⟩) (fun _ K hK=>⟨_,rfl,_,rfl,_,rfl,um _ _ hK⟩) hK
theorem dm:FnScope ["walls","wall","number","other"] ["walls","wall"] (ao fY):=by walk_at "sc"
inductive Cn_first_crossed(u v:D)(M:MH)(Q:DK):Prop
 |mk (a:Addr) (us:List RW) (W:RW) (_:u=.ref a) (_:v=wq W) (_:M a=some (.lst (us.map wq))) (_:NQ 100 W) (_:OwQ W) (_:(∀U∈us,NQ 100 U/\OwQ U)) (_:Q (opD (fcQ W us)) M)
theorem jZ(T:Tx K mg):Cal P w K mg base 8 "first_crossed" (sD2 Cn_first_crossed):=by
 refine bW (k:=7) T.f_first_crossed dm fun f cdv A outer s H E hr=>⟨_,(ai (ft HE rfl (km rfl T.b_enumerate (aa (dv 0) ae)) (bH rfl (aw (aB 2 dm.nd) (aw (aB 3 dm.nd) ba))) (aj (aN (fH (cJ (ak (iB T).m hr (aa (dv 1) (aa (dv 3) ae))))) (aj (ax (dv 2))) aD))) (aj (ax aU))),fun _ _ M Q h=>?_⟩;obtain⟨a,us,W,rfl,rfl,ha,HW,oW,hU,k⟩:=h;refine⟨_,rfl,a,_,rfl,ha,?_⟩;refine⟨fun i δ M'=>M'=M/\(∃o2 o3,δ=[some (.ref a),some (wq W),o2,o3])/\∀j U',j<i->us[j]?=some U'->cw W U'=true,⟨rfl,⟨_,_,rfl⟩,fun j U' h=>by omega⟩,fun i δ M' _ z=>by obtain⟨rfl,_⟩:=z;exact ha,?_,?_⟩
 ·rintro i d δ M' hi hd ⟨rfl,⟨o2,o3,rfl⟩,kp⟩;have hd:((us.map wq)[i]?).map (fun d=>D.tup [.int (i:Int),d])=some d:=hd;rw[Gs]at hd;cases eu:us[i]? with
  |none=>rw[eu]at hd;cases hd
  |some U=>
   rw[eu]at hd
   cases hd
   obtain⟨q,oU⟩:=hU U (GL eu)
   refine⟨_,rfl,rfl,_,_,rfl,_,_,rfl,rfl,?_⟩
   refine⟨_,rfl,_,rfl,W,U,rfl,rfl,HW,q,oW,oU,_,rfl,?_⟩
   cases hf:cw W U with
   |true=>
    refine cu rfl ⟨rfl,⟨_,_,rfl⟩,fun j U' hj e=>?_⟩
    by_cases z:j=i
    ·subst z;rw[eu]at e;cases e;exact hf
    ·exact kp j U' (by omega) e
   |false=>
    refine bS rfl ⟨_,rfl,rtn ?_⟩
    rw[x9 eu hf kp]at k
    exact k
 ·rintro δ M' ⟨rfl,⟨o2,o3,rfl⟩,kp⟩;rw[yA fun j U' e=>kp j U' (by have:=(GN.mp e).1;show j<(us.map wq).length;simp;omega) e]at k;exact rtn k
theorem fT:FnScope ["row","walls","spots","wall"] ["row","walls"] (ao jN):=by walk_at "sc"
inductive Cn_read_wall(x y:D)(M:MH)(Q:DK):Prop
 |mk (z:Str) (a:Addr) (us:List RW) (_:x=.str z) (_:y=.ref a) (_:M a=some (.lst (us.map wq))) (_:z.cps.all (· < 128)=true) (_:z.length<=900000) (_:(∀U∈us,NQ 100 U/\OwQ U)) (_:us.length<=40) (_:∀M',SD.Sub M M'->Q (opW (rdw us z)) M')
theorem jT(T:Tx K mg):Cal P w K mg base 9 "read_wall" (sD2 Cn_read_wall):=by
 refine bW (k:=8) T.f_read_wall fT fun f cdv A outer s H E hr=>⟨_,(ai (ay 2 fT.nd (ak (fu T).m hr (aa aE (aa af (aa (dv 0) ae))))) (ai (aN (dF (cV (aA eM (dv 2) aU) (c6 (fH (cJ (ak (d4 T).m hr (aa (aX (dv 2) af) (aa (aX (dv 2) af) ae)))))))) (aj (ax aU)) aD) (ai (ay 3 fT.nd (aH (aa (aX (dv 2) af) (aa (aX (dv 2) af) ae)))) (ai (aN (dF (cV (aA (bj hr.units) (aI cx rfl T.b_len cI (aa (dv 1) ae)) (qN rfl T.g_MOST_WALLS)) (c6 (aA yC (ak (jZ T).m hr (aa (dv 1) (aa (dv 3) ae))) aU)))) (aj (ax aU)) aD) (aj (ax (dv 3))))))),fun _ _ M Q h=>?_⟩;obtain⟨z,a,us,rfl,rfl,ha,asc,hl,hU,hl2,k⟩:=h;refine⟨_,rfl,_,z,2,rfl,rfl,rfl,.inr rfl,asc,hl,fun l9 hl9 h9 M1 p sb hp h1=>?_,fun h9 M1 sb=>?_⟩;rotate_left
 ·have hW:=sY h9;(try dsimp only[SD.bM,SD.bE,SD.aK,SD.bR,SD.bP,SD.bc,SD.bo,SD.tBD,SD.bQ])
  refine orT true true (fun K hK=>⟨_,rfl,_,rfl,_,rfl,hK⟩) (fun h=>nomatch h) ?_;refine bS rfl ⟨M1,.refl,?_⟩;have:=k M1 sb;rw[ou hW]at this;exact this
 obtain⟨W,hW,eW⟩:=xQ hl9 h9;rw[eW]at h1;have N:=(lP hW).1.nq;have kn:∀M',SD.Sub M M'->¬(OwQ W/\us.length≠40/\fcQ W us=none)->Q .non M':=fun M' s c=>by have:=k M' s;rw[pf hW c]at this;exact this
 (try dsimp only[SD.aK])
 by_cases ow:OwQ W;rotate_left
 ·(try dsimp only[SD.bM,SD.bE,SD.aK,SD.bR,SD.bP,SD.bc,SD.bo,SD.tBD,SD.bQ])
  refine orT false true (fun K hK=>⟨_,rfl,_,rfl,_,rfl,hK⟩) (fun _ K hK=>?_) ?_
  ·refine⟨_,rfl,_,_,h1,rfl,_,rfl,_,_,h1,rfl,_,_,_,_,rfl,rfl,N.a.mono (by decide),N.b.mono (by decide),N.c.mono (by decide),N.d.mono (by decide),_,rfl,?_⟩;rw[decide_eq_false (show ¬(_\/_/\_)from ow)];exact hK
  ·exact bS rfl ⟨M1,.refl,kn M1 sb fun h=>ow h.1⟩
 refine aT (fun δ M'=>M'=M1/\δ=[some (.str z),some (.ref a),some (.ref p),none]) ?_ (fun hu=>?_);rotate_left
 ·(try dsimp only[SD.bM,SD.bE,SD.aK,SD.bR,SD.bP,SD.bc,SD.bo,SD.tBD,SD.bQ])
  refine orT false false (fun K hK=>⟨_,rfl,_,rfl,_,rfl,hK⟩) (fun _ K hK=>?_) ?_
  ·refine⟨_,rfl,_,_,h1,rfl,_,rfl,_,_,h1,rfl,_,_,_,_,rfl,rfl,N.a.mono (by decide),N.b.mono (by decide),N.c.mono (by decide),N.d.mono (by decide),_,rfl,?_⟩;rw[decide_eq_true (show _\/_/\_ from ow)];exact hK
  ·exact cu rfl (hu _ _ ⟨rfl,rfl⟩)
 rintro δ M' ⟨rfl,rfl⟩;refine⟨_,rfl,_,_,h1,rfl,_,rfl,_,_,h1,rfl,nbL rfl,?_⟩;(try dsimp only[SD.bM,SD.bE,SD.aK,SD.bR,SD.bP,SD.bc,SD.bo,SD.tBD,SD.bQ])
 refine orT (decide ((us.length:Int)=40)) (fcQ W us).isSome (fun K hK=>⟨_,rfl,_,sb _ _ ha,_,rfl,?_⟩) (fun _ K hK=>?_) ?_
 ·rw[G7];exact hK
 ·refine⟨_,rfl,_,rfl,a,us,W,rfl,rfl,sb _ _ ha,N,ow,hU,?_⟩;cases e:fcQ W us with
  |none=>rw[e]at hK;exact⟨_,rfl,_,rfl,hK⟩
  |some j=>rw[e]at hK;exact⟨_,rfl,_,rfl,hK⟩
 refine br (fun hc=>?_) (fun hc=>?_)
 ·refine⟨M',.refl,kn M' sb fun h=>?_⟩;rw[h.2.2,decide_eq_false (show ¬(us.length:Int)=40 by have:=h.2.1;omega)]at hc;simp at hc
 ·refine⟨_,rfl,?_⟩;have:=k M' sb;rw[tx hW ⟨ow,(by intro e;rw[e]at hc;simp at hc),(by cases e:fcQ W us with|none=>rfl|some j=>rw[e]at hc;simp at hc)⟩]at this;exact rtn this
theorem aL:FnScope ["text","walls","spots","at","row","asked","wall"] ["text"] (ao fm):=by walk_at "sc"
inductive Cn_read_questions(x:D)(M:MH)(Q:DK):Prop
 |mk (z:Str) (us:List RW) (ps:List (Rat×Rat)) (hh0:x=.str z) (hh1:z.cps.all (· < 128)=true) (hh2:z.length<=900000) (hh3:(∀r∈bT z,r.length<=900000)) (hh4:stQ (bT z) (bT z).length=some (us,ps)) (hh5:∀M' p,SD.Sub M M'->M' p=some (.lst (ps.map spq))->Q (.tup [.tup (us.map wq),.ref p]) M'):Cn_read_questions x M Q
def cz:SpD:=fun ds M Q=>match ds with
 |[x]=>Cn_read_questions x M Q
 |_=>False
theorem je:∀ds M Q,cz ds M Q->ds.length=1:=fun ds M Q h=>by
 unfold cz at h;split at h
 ·rfl
 ·exact h.elim
theorem jo(T:Tx K mg):Cal P w K mg base 10 "read_questions" cz:=by
 refine vn (k:=9) T.f_read_questions aL (fun _ _ _ _ _ _ us hl=>by obtain⟨_,rfl⟩:=SD.y6 hl;rfl) je fun f cdv A outer s H E hr=>⟨_,(ai (eQ 1 2 rfl aL.nd (aa (aS ae) (aa (aS ae) ae))) (ai (ft HE rfl (km rfl T.b_enumerate (aa (ak (nF T).m hr (aa (dv 0) ae)) ae)) (bH rfl (aw (aB 3 aL.nd) (aw (aB 4 aL.nd) ba))) (ai (ay 5 aL.nd (ak (fu T).m hr (aa aE (aa af (aa (dv 4) ae))))) (ai (ay 6 aL.nd (ir (tP (dv 2)) aU (ak (jT T).m hr (aa (dv 4) (aa (dv 1) ae))))) (ai (aN (dF (dq (aA eM (dv 5) aU) (c9 (aA eM (dv 6) aU)))) (aj qx) aD) (aj (aN (aA eM (dv 5) aU) (aj (du (bF (dv 1) (aa (dv 6) ae)))) (aj (du (bF (dv 2) (aa (aX (dv 5) af) ae)))))))))) (aj (ax (aH (aa (aV iV rfl T.b_tuple iZ (aa (dv 1) ae)) (aa (dv 2) ae))))))),fun ds M Q h=>?r⟩
 case r=>
  unfold cz at h
  split at h
  case h_2=>exact h.elim
  obtain⟨z,us,ps,rfl,asc,hl,hr,fin,k⟩:=h
  have hl:z.length<=1000000:=by omega
  refine⟨nbL rfl,fun p0 hp0=>⟨nbL rfl,fun p1 hp1=>⟨_,_,rfl,?_⟩⟩⟩
  have n01:p0≠p1:=aC ag hp1
  refine⟨_,rfl,z,rfl,hl,fun p hp=>?_⟩
  have n0p:p0≠p:=fun z=>by subst z;rw[aq n01,ag]at hp;cases hp
  have n1p:p1≠p:=aC ag hp
  refine⟨p,_,rfl,ag,?_⟩
  have rl:=(cU z).1
  have ra:=(cU z).2
  generalize bT z=rs at *
  refine⟨fun i δ M'=>(∃o3 o4 o5 o6,δ=[some (.str z),some (.ref p0),some (.ref p1),o3,o4,o5,o6])/\∃vs qs,stQ rs i=some (vs,qs)/\M' p0=some (.lst (vs.map wq))/\M' p1=some (.lst (qs.map spq))/\M' p=some (.lst (rs.map D.str))/\SD.Sub M M',⟨⟨_,_,_,_,rfl⟩,[],[],rfl,by rw[aq n0p,aq n01,ag];rfl,by rw[aq n1p,ag];rfl,ag,.new hp (.new hp1 (.new hp0 .refl))⟩,fun i δ M' _ z=>by obtain⟨_,_,_,_,_,_,h,_⟩:=z;exact h,?_,?_⟩
  ·rintro i d δ M' hi hd ⟨⟨o3,o4,o5,o6,rfl⟩,vs,qs,g,h0,h1,h2,sb⟩;have hd:((rs.map D.str)[i]?).map (fun d=>D.tup [.int (i:Int),d])=some d:=hd;rw[Gs]at hd;cases ew:rs[i]? with
   |none=>rw[ew]at hd;cases hd
   |some w=>
    rw[ew]at hd
    cases hd
    have hil:=(GN.mp ew).1
    have ok:=oN g
    have nx:=kH g ew
    have wasc:=cy asc (ra w (GL ew)).2
    have wl:=hr w (GL ew)
    refine⟨_,rfl,rfl,_,_,rfl,_,_,rfl,rfl,?_⟩
    refine⟨_,rfl,_,w,1,rfl,rfl,rfl,.inl rfl,wasc,wl,fun l9 hl9 h9 M2 pa sb2 hpa ha=>?_,fun h9 M2 sb2=>?_⟩
    ·obtain⟨s,es,rfl⟩:=tZ hl9 h9;rw[j9 es]at nx;(try dsimp only[SD.aK])
     refine aT (fun δ M3=>(∃o3 o4,δ=[some (.str z),some (.ref p0),some (.ref p1),o3,o4,some (.ref pa),some .non])/\SD.Sub M2 M3) ?_ (fun hu=>?_);rotate_left
     ·refine⟨_,rfl,p1,_,rfl,sb2 _ _ h1,?_⟩;refine br (fun _=>hu _ _ ⟨⟨_,_,rfl⟩,.refl⟩) (fun _=>?_);refine⟨_,rfl,_,rfl,w,p0,vs,rfl,rfl,sb2 _ _ h0,wasc,wl,(fun U hU=>⟨(ok.mem U hU).1,(ok.mem U hU).2.1⟩),ok.few,fun M3 sb3=>?_⟩;rw[ou (by cases e:rdr w with|none=>rfl|some U=>rw[uB e]at es;cases es)];exact hu _ _ ⟨⟨_,_,rfl⟩,sb3⟩
     rintro δ M3 ⟨⟨o3,o4,rfl⟩,sb3⟩;have ha:=sb3 _ _ ha;have sb3:=sb2.trans sb3;refine⟨_,rfl,_,rfl,_,rfl,cu rfl (cu rfl ?_)⟩;refine⟨_,rfl,_,rfl,_,rfl,cu rfl ?_⟩;refine⟨_,rfl,p1,_,rfl,sb3 _ _ h1,_,rfl,_,_,ha,rfl,_,_,rfl,sb3 _ _ h1,(by rw[G7];have:=ok.sum;omega),?_⟩;refine⟨⟨_,_,_,_,rfl⟩,vs,qs++[s],nx,by rw[aq n01];exact sb3 _ _ h0,by rw[ag,HJ];rfl,by rw[aq n1p.symm];exact sb3 _ _ h2,fun u o e=>?_⟩;rw[aq (aC (show(au M p0 (.lst [])) u=some o by rw[aq (aC e hp0)];exact e) hp1)];exact sb3 _ _ (sb _ _ e)
    ·have er:=nC h9;by_cases q0:qs=[]
     ·subst q0;rw[d5 er]at nx;refine⟨_,rfl,p1,_,rfl,sb2 _ _ h1,cu rfl ?_⟩;refine⟨_,rfl,_,rfl,w,p0,vs,rfl,rfl,sb2 _ _ h0,wasc,wl,(fun U hU=>⟨(ok.mem U hU).1,(ok.mem U hU).2.1⟩),ok.few,fun M3 sb3=>?_⟩;have sb3:=sb2.trans sb3;cases ww:rdw vs w with
      |some W=>
       rw[ww]at nx
       refine⟨_,rfl,_,rfl,_,rfl,bS rfl ⟨_,rfl,_,rfl,_,rfl,cu rfl ?_⟩⟩
       refine⟨_,rfl,_,rfl,_,rfl,bS rfl ?_⟩
       refine⟨_,rfl,p0,_,rfl,sb3 _ _ h0,_,rfl,_,_,rfl,sb3 _ _ h0,(by rw[G7];have:=ok.few;omega),?_⟩
       refine⟨⟨_,_,_,_,rfl⟩,vs++[W],[],nx,by rw[ag,HJ];rfl,by rw[aq n01.symm];exact sb3 _ _ h1,by rw[aq n0p.symm];exact sb3 _ _ h2,fun u o e=>?_⟩
       rw[aq (aC e hp0)];exact sb3 _ _ (sb _ _ e)
      |none=>
       rw[ww]at nx
       obtain⟨_,_,g9⟩:=fK fin (i+1) hil
       rw[nx]at g9
       cases g9
     ·rw[gk er q0]at nx;obtain⟨_,_,g9⟩:=fK fin (i+1) hil;rw[nx]at g9;cases g9
  ·rintro δ M' ⟨⟨o3,o4,o5,o6,rfl⟩,vs,qs,g,h0,h1,h2,sb⟩;have g:stQ rs (rs.map D.str).length=some (vs,qs):=g;rw[G7,fin]at g;cases g;exact⟨_,rfl,_,h0,_,rfl,nbL rfl,rtn (k _ p1 sb h1)⟩
def cj(K:cc):rE:=fun ds M R=>match ds with
 |[x]=>∃(z:Str) (n:Nat) (us:List RW) (ps:List (Rat×Rat)),x=.str z/\z.cps.all (· < 128)=true/\z.length<=900000/\(∀r∈bT z,r.length<=900000)/\n<(bT z).length/\stQ (bT z) n=some (us,ps)/\stQ (bT z) (n+1)=none/\
  ∀M' dx,SD.Sub M M'->M' dx=some (yS [("row",.int (n:Int))])->R (cl K "NoText") (some dx) M'
 |_=>False
theorem ik(K:cc):∀ds M Q,cj K ds M Q->ds.length=1:=fun ds M Q h=>by
 unfold cj at h;split at h
 ·rfl
 ·exact h.elim
theorem jH(T:Tx K mg):mZ P w K mg base 10 "read_questions" (cj K):=by
 refine D5 (k:=9) (N:=["text","walls","spots","at","row","asked","wall"]) (ps:=["text"]) T.f_read_questions aL (fun _ _ _ _ _ _ us hl=>match us,hl with|[_],_=>rfl) (ik K) fun f cdv A outer s H E R hr hE=>⟨_,(ai (eQ 1 2 rfl aL.nd (aa (aS ae) (aa (aS ae) ae)))
  (ai (ft BU rfl (km rfl T.b_enumerate (aa (ak (nF T).m hr (aa (dv 0) ae)) ae)) (bH rfl (aw (aB 3 aL.nd) (aw (aB 4 aL.nd) ba))) (ai (ay 5 aL.nd (ak (fu T).m hr (aa aE (aa af (aa (dv 4) ae)))))
  (ai (ay 6 aL.nd (ir (tP (dv 2)) aU (ak (jT T).m hr (aa (dv 4) (aa (dv 1) ae)))))
  (ai (aN (dF (dq (aA eM (dv 5) aU) (c9 (aA eM (dv 6) aU)))) (aj (vA hE ((vf T).mono (by decide)) hr (aa (dv 3) ae))) aD)
  (aj (aN (aA eM (dv 5) aU) (aj (du (bF (dv 1) (aa (dv 6) ae)))) (aj (du (bF (dv 2) (aa (aX (dv 5) af) ae))))))))))
  vM)),fun ds M h=>?r⟩
 case r=>
  unfold cj at h
  split at h
  case h_2=>exact h.elim
  obtain⟨z,n,us,ps,rfl,asc,hl,hr,hn,gn,gn1,k⟩:=h
  have hl:z.length<=1000000:=by omega
  refine⟨nbL rfl,fun p0 hp0=>⟨nbL rfl,fun p1 hp1=>⟨_,_,rfl,?_⟩⟩⟩
  have n01:p0≠p1:=aC ag hp1
  refine⟨_,rfl,z,rfl,hl,fun p hp=>?_⟩
  have n0p:p0≠p:=fun z=>by subst z;rw[aq n01,ag]at hp;cases hp
  have n1p:p1≠p:=aC ag hp
  refine⟨p,_,rfl,ag,?_⟩
  have rl:=(cU z).1
  have ra:=(cU z).2
  generalize bT z=rs at *
  refine⟨fun i δ M'=>i<=n/\(∃o3 o4 o5 o6,δ=[some (.str z),some (.ref p0),some (.ref p1),o3,o4,o5,o6])/\∃vs qs,stQ rs i=some (vs,qs)/\M' p0=some (.lst (vs.map wq))/\M' p1=some (.lst (qs.map spq))/\M' p=some (.lst (rs.map D.str))/\SD.Sub M M',⟨IU _,⟨_,_,_,_,rfl⟩,[],[],rfl,by rw[aq n0p,aq n01,ag];rfl,by rw[aq n1p,ag];rfl,ag,.new hp (.new hp1 (.new hp0 .refl))⟩,fun i δ M' _ z=>by obtain⟨_,_,_,_,_,_,_,h,_⟩:=z;exact h,?_,?_⟩
  ·rintro i d δ M' hi hd ⟨hle,⟨o3,o4,o5,o6,rfl⟩,vs,qs,g,h0,h1,h2,sb⟩;have hd:((rs.map D.str)[i]?).map (fun d=>D.tup [.int (i:Int),d])=some d:=hd;rw[Gs]at hd;cases ew:rs[i]? with
   |none=>rw[ew]at hd;cases hd
   |some w=>
    rw[ew]at hd
    cases hd
    have hil:=(GN.mp ew).1
    have ok:=oN g
    have nx:=kH g ew
    have wasc:=cy asc (ra w (GL ew)).2
    have wl:=hr w (GL ew)
    refine⟨_,rfl,rfl,_,_,rfl,_,_,rfl,rfl,?_⟩
    refine⟨_,rfl,_,w,1,rfl,rfl,rfl,.inl rfl,wasc,wl,fun l9 hl9 h9 M2 pa sb2 hpa ha=>?_,fun h9 M2 sb2=>?_⟩
    ·obtain⟨s,es,rfl⟩:=tZ hl9 h9;rw[j9 es]at nx;(try dsimp only[SD.aK])
     refine aT (fun δ M3=>(∃o3 o4,δ=[some (.str z),some (.ref p0),some (.ref p1),o3,o4,some (.ref pa),some .non])/\SD.Sub M2 M3) ?_ (fun hu=>?_);rotate_left
     ·refine⟨_,rfl,p1,_,rfl,sb2 _ _ h1,?_⟩;refine br (fun _=>hu _ _ ⟨⟨_,_,rfl⟩,.refl⟩) (fun _=>?_);refine⟨_,rfl,_,rfl,w,p0,vs,rfl,rfl,sb2 _ _ h0,wasc,wl,(fun U hU=>⟨(ok.mem U hU).1,(ok.mem U hU).2.1⟩),ok.few,fun M3 sb3=>?_⟩;rw[ou (by cases e:rdr w with|none=>rfl|some U=>rw[uB e]at es;cases es)];exact hu _ _ ⟨⟨_,_,rfl⟩,sb3⟩
     rintro δ M3 ⟨⟨o3,o4,rfl⟩,sb3⟩;have ha:=sb3 _ _ ha;have sb3:=sb2.trans sb3;refine⟨_,rfl,_,rfl,_,rfl,cu rfl (cu rfl ?_)⟩;refine⟨_,rfl,_,rfl,_,rfl,cu rfl ?_⟩;refine⟨_,rfl,p1,_,rfl,sb3 _ _ h1,_,rfl,_,_,ha,rfl,_,_,rfl,sb3 _ _ h1,(by rw[G7];have:=ok.sum;omega),?_⟩;refine⟨tO hle nx gn1,⟨_,_,_,_,rfl⟩,vs,qs++[s],nx,by rw[aq n01];exact sb3 _ _ h0,by rw[ag,HJ];rfl,by rw[aq n1p.symm];exact sb3 _ _ h2,fun u o e=>?_⟩;rw[aq (aC (show(au M p0 (.lst [])) u=some o by rw[aq (aC e hp0)];exact e) hp1)];exact sb3 _ _ (sb _ _ e)
    ·have er:=nC h9;by_cases q0:qs=[]
     ·subst q0;rw[d5 er]at nx;refine⟨_,rfl,p1,_,rfl,sb2 _ _ h1,cu rfl ?_⟩;refine⟨_,rfl,_,rfl,w,p0,vs,rfl,rfl,sb2 _ _ h0,wasc,wl,(fun U hU=>⟨(ok.mem U hU).1,(ok.mem U hU).2.1⟩),ok.few,fun M3 sb3=>?_⟩;have sb3:=sb2.trans sb3;cases ww:rdw vs w with
      |some W=>
       rw[ww]at nx
       refine⟨_,rfl,_,rfl,_,rfl,bS rfl ⟨_,rfl,_,rfl,_,rfl,cu rfl ?_⟩⟩
       refine⟨_,rfl,_,rfl,_,rfl,bS rfl ?_⟩
       refine⟨_,rfl,p0,_,rfl,sb3 _ _ h0,_,rfl,_,_,rfl,sb3 _ _ h0,(by rw[G7];have:=ok.few;omega),?_⟩
       refine⟨tO hle nx gn1,⟨_,_,_,_,rfl⟩,vs++[W],[],nx,by rw[ag,HJ];rfl,by rw[aq n01.symm];exact sb3 _ _ h1,by rw[aq n0p.symm];exact sb3 _ _ h2,fun u o e=>?_⟩
       rw[aq (aC e hp0)];exact sb3 _ _ (sb _ _ e)
      |none=>
       rw[ww]at nx
       have hi':i=n:=by
        by_cases e9:i<n
        ·obtain⟨_,_,g9⟩:=fK gn (i+1) e9;rw[nx]at g9;cases g9
        ·omega
       subst hi'
       refine⟨_,rfl,_,rfl,_,rfl,bS rfl ⟨_,rfl,_,rfl,_,rfl,bS rfl ?_⟩⟩
       refine⟨_,rfl,rfl,(show 1<=1000 by decide),fun d hd=>?_,fun dx hdx=>?_⟩
       ·rw[GX.mp hd];exact .int (by omega) (by omega)
       ·exact k _ dx (.new hdx (sb.trans sb3)) ag
     ·rw[gk er q0]at nx
      have hi':i=n:=by
       by_cases e9:i<n
       ·obtain⟨_,_,g9⟩:=fK gn (i+1) e9;rw[nx]at g9;cases g9
       ·omega
      subst hi';refine⟨_,rfl,p1,_,rfl,sb2 _ _ h1,bS (by cases qs with|nil=>exact absurd rfl q0|cons a b=>rfl) ?_⟩;refine⟨_,rfl,_,rfl,_,rfl,bS rfl ⟨_,rfl,_,rfl,_,rfl,bS rfl ?_⟩⟩;refine⟨_,rfl,rfl,(show 1<=1000 by decide),fun d hd=>?_,fun dx hdx=>?_⟩
      ·rw[GX.mp hd];exact .int (by omega) (by omega)
      ·exact k _ dx (.new hdx (sb.trans sb2)) ag
  ·rintro δ M' ⟨hle,_⟩;have hle:(rs.map D.str).length<=n:=hle;rw[G7]at hle;omega
theorem fU:FnScope ["_law_heard_here","_law_place","_law_kinds"] ["_law_heard_here","_law_place"] (ao jP):=by walk_at "sc"
def dI(K:cc):SpD:=fun ds M Q=>match ds with
 |[x,y]=>∃(a:Addr) (dd:Option Addr),x=.ref a/\y=.int 4/\M a=some (il (cl K "NoText") dd)/\Q (.bl true) M
 |_=>False
theorem oF(K:cc):∀ds M Q,(dI K) ds M Q->ds.length=2:=fun ds M Q h=>by
 unfold dI at h;split at h
 ·rfl
 ·exact h.elim
theorem pY(T:Tx K mg):Cal P w K mg base 1 "_law_alone" (dI K):=by
 refine vn (k:=0) T.f_law_alone fU (fun _ _ _ _ _ _ us hl=>by obtain⟨_,_,rfl⟩:=SD.CL hl;rfl) (oF K) fun f cdv A outer s H E hr=>⟨_,(ai (ay 2 fU.nd (aS (aa (aI (b6 (K:=K) rfl) rfl T.b_isinstance bB (aa (dv 0) (aa (gq rfl T.r_Absent) ae))) (aa (aI (b6 (K:=K) rfl) rfl T.b_isinstance bB (aa (dv 0) (aa (gq rfl T.r_Crossing) ae))) (aa (aI (b6 (K:=K) rfl) rfl T.b_isinstance bB (aa (dv 0) (aa (gq rfl T.r_NoFraction) ae))) ae))))) (ai (ay 2 fU.nd (ar cb (dv 2) (aS (aa (aI (b6 (K:=K) rfl) rfl T.b_isinstance bB (aa (dv 0) (aa (gq rfl T.r_NoRow) ae))) (aa (aI (b6 (K:=K) rfl) rfl T.b_isinstance bB (aa (dv 0) (aa (gq rfl T.r_NoText) ae))) (aa (aI (b6 (K:=K) rfl) rfl T.b_isinstance bB (aa (dv 0) (aa (gq rfl T.r_NoWall) ae))) ae)))))) (ai (du (bF (dv 2) (aa (aI (b6 (K:=K) rfl) rfl T.b_isinstance bB (aa (dv 0) (aa (gq rfl T.r_TooMany) ae))) ae))) (aj (ax (lG (aI (b6 (K:=K) rfl) rfl T.b_isinstance bB (aa (dv 0) (aa (Er rfl T.b_ValueError mJ) ae))) (lG (bX (fo hr.units) (sI (dv 2) (aa iJ ae)) af) (iA (av (dv 2) (dv 1)))))))))),fun ds M Q h=>?r⟩
 case r=>
  unfold dI at h
  split at h
  case h_2=>exact h.elim
  obtain⟨a,dd,rfl,rfl,hM,q⟩:=h
  have ek:=T.ek_NoText
  refine⟨_,rfl,.inr ⟨a,_,_,_,_,_,rfl,hM,ek,rfl,T.ki_NoText_Absent,?_⟩⟩
  refine⟨_,rfl,.inr ⟨a,_,_,_,_,_,rfl,hM,ek,rfl,T.ki_NoText_Crossing,?_⟩⟩
  refine⟨_,rfl,.inr ⟨a,_,_,_,_,_,rfl,hM,ek,rfl,T.ki_NoText_NoFraction,?_⟩⟩
  refine⟨nbL rfl,fun l hl=>?_⟩
  have nal:a≠l:=aC hM hl
  have hM1:(au M l (.lst [.bl false,.bl false,.bl false])) a=some (il (cl K "NoText") dd):=by rw[aq nal];exact hM
  refine⟨_,rfl,_,rfl,.inr ⟨a,_,_,_,_,_,rfl,hM1,ek,rfl,T.ki_NoText_NoRow,?_⟩⟩
  refine⟨_,rfl,.inr ⟨a,_,_,_,_,_,rfl,hM1,ek,rfl,T.ki_NoText_NoText,?_⟩⟩
  refine⟨_,rfl,.inr ⟨a,_,_,_,_,_,rfl,hM1,ek,rfl,T.ki_NoText_NoWall,?_⟩⟩
  refine⟨nbL rfl,fun l2 hl2=>?_⟩
  have n12:l≠l2:=fun e=>by subst e;rw[ag]at hl2;cases hl2
  refine⟨_,_,(by rw[aq n12,ag]),ag,nbL rfl,fun l3 hl3=>?_⟩
  have na2:a≠l2:=aC hM1 hl2
  have hM1b:(au (au M l (.lst [.bl false,.bl false,.bl false])) l2 (.lst [.bl false,.bl true,.bl false])) a=some (il (cl K "NoText") dd):=by rw[aq na2];exact hM1
  have na3:a≠l3:=aC hM1b hl3
  have hM2:(au (au (au M l (.lst [.bl false,.bl false,.bl false])) l2 (.lst [.bl false,.bl true,.bl false])) l3 (.lst ([.bl false,.bl false,.bl false]++[.bl false,.bl true,.bl false]))) a=some (il (cl K "NoText") dd):=by rw[aq na3];exact hM1b
  refine⟨_,rfl,_,_,rfl,ag,?_⟩
  refine⟨_,rfl,.inr ⟨a,_,_,_,_,_,rfl,hM2,ek,rfl,T.ki_NoText_TooMany,?_⟩⟩
  refine⟨_,_,rfl,ag,nbL rfl,?_⟩
  rw[cP]
  generalize hMM:au (au (au M l (.lst [.bl false,.bl false,.bl false])) l2 (.lst [.bl false,.bl true,.bl false])) l3 _=M5
  have hl5:M5 l3=some (.lst (Hz D.bl [false,false,false,false,true,false,false])):=by rw[<-hMM,ag];rfl
  have hM5:M5 a=some (il (cl K "NoText") dd):=by rw[<-hMM,aq na3];exact hM1b
  have hS5:Sub M M5:=by rw[<-hMM];exact .new hl3 (.new hl2 (.new hl .refl))
  (try dsimp only[SD.bM,SD.bE,SD.aK,SD.bR,SD.bP,SD.bc,SD.bo,SD.tBD,SD.bQ])
  refine uX true true (fun K' hK=>⟨_,rfl,.inr ⟨a,_,_,_,_,_,rfl,hM5,ek,rfl,T.kv_NoText,hK⟩⟩) (fun _ K' hK=>?_) ⟨_,hS5,q⟩
  refine uX true true (fun K' hK=>⟨_,rfl,l3,_,rfl,hl5,_,rfl,hl5,?_⟩) (fun _ K' hK=>⟨_,rfl,_,rfl,_,_,hl5,rfl,hK⟩) hK
  exact hK
theorem cF:FnScope ["_law_text","_law_heard_here","_law_found","_law_e"] ["_law_text"] (ao jR):=by walk_at "sc"
def dM(K:cc):SpD:=fun ds M Q=>match ds with
 |[x]=>∃(z:Str),x=.str z/\z.cps.all (· < 128)=true/\z.length<=900000/\(∀r∈bT z,r.length<=900000)/\(∀us ps,stQ (bT z) (bT z).length=some (us,ps)->∀M' p,SD.Sub M M'->M' p=some (.lst (ps.map spq))->Q (qV us p) M')/\(∀n us ps,n<(bT z).length->stQ (bT z) n=some (us,ps)->stQ (bT z) (n+1)=none->∀M',SD.Sub M M'->Q (.tup [.str "no text",.int (n:Int)]) M')
 |_=>False
theorem oy(K:cc):∀ds M Q,(dM K) ds M Q->ds.length=1:=fun ds M Q h=>by
 unfold dM at h;split at h
 ·rfl
 ·exact h.elim
theorem qp(T:Tx K mg):Cal P w K mg base 11 "_law_heard" (dM K):=by
 refine vn (k:=10) T.f_law_heard cF (fun _ _ _ _ _ _ us hl=>by obtain⟨_,rfl⟩:=SD.y6 hl;rfl) (oy K) fun f cdv A outer s H E hr=>⟨_,(ai (ay 1 cF.nd aU) (ai (ay 2 cF.nd aU) (ai (zG 3 cF.nd T.e_SpotError T.r_SpotError T.eb_SpotError (aj (ay 2 cF.nd (ak (jo T).m hr (aa (dv 0) ae)))) (zt (v9 ((jH T).mono (by decide)) hr (aa (dv 0) ae)) rfl) (fun _=>(aj (ay 1 cF.nd (dv 3))))) (ai (aN (aA eM (dv 1) aU) (aj (ax (aH (aa aE (aa (dv 2) ae))))) aD) (ai (aN (dF (dq (cJ (aI (b6 (K:=K) rfl) rfl T.b_isinstance bB (aa (dv 1) (aa (gq rfl T.r_NoText) ae)))) (c9 (cJ (ak (pY T).m hr (aa (dv 1) (aa af ae))))))) (aj (ax (aH (aa aE (aa (AW (dv 1)) ae))))) aD) (aj (ax (aH (aa aE (aa af ae)))))))))),fun ds M Q h=>?r⟩
 case r=>
  unfold dM at h
  split at h
  case h_2=>exact h.elim
  obtain⟨z,rfl,asc,hl,hr,k1,k2⟩:=h
  (try dsimp only[SD.aK])
  cases c:stQ (bT z) (bT z).length with
  |some q=>
   obtain⟨us,ps⟩:=q
   refine .inl ⟨_,rfl,z,us,ps,rfl,asc,hl,hr,c,fun M' p sb hp=>?_⟩
   (try dsimp only[SD.aK])
   refine⟨_,rfl,_,rfl,_,rfl,bS rfl ?_⟩
   exact⟨_,rfl,nbL rfl,rtn (k1 us ps c M' p sb hp)⟩
  |none=>
   obtain⟨n,us,ps,hn,g,g1⟩:=nh c
   have rl:=(cU z).1
   refine .inr ⟨_,rfl,z,n,us,ps,rfl,asc,hl,hr,hn,g,g1,fun M' dx sb hf=>⟨T.es_NoText_SpotError,fun e he=>?_⟩⟩
   have hE:(au M' e (il (cl K "NoText") (some dx))) e=some (il (cl K "NoText") (some dx)):=ag
   have hF:(au M' e (il (cl K "NoText") (some dx))) dx=some (yS [("row",.int (n:Int))]):=by rw[aq (aC hf he)];exact hf
   have sb2:SD.Sub M (au M' e (il (cl K "NoText") (some dx))):=.new he sb
   generalize au M' e (il (cl K "NoText") (some dx))=M2 at hE hF sb2 ⊢
   refine⟨_,rfl,?_⟩
   (try dsimp only[SD.aK])
   refine⟨_,rfl,_,rfl,_,rfl,cu rfl ?_⟩
   (try dsimp only[SD.bM,SD.bE,SD.aK,SD.bR,SD.bP,SD.bc,SD.bo,SD.tBD,SD.bQ])
   refine l0 true true (fun K' hK=>⟨_,rfl,.inr ⟨e,_,_,_,_,_,rfl,hE,T.ek_NoText,rfl,T.ki_NoText_NoText,_,rfl,hK⟩⟩) (fun _ K' hK=>⟨_,rfl,e,_,rfl,rfl,hE,_,rfl,hK⟩) ?_
   refine bS rfl ?_
   exact⟨_,rfl,e,_,dx,_,_,rfl,hE,hF,⟨T.ek_NoText.c,T.hd_NoText,T.fn_NoText_row⟩,rfl,.int (by omega) (by omega),nbL rfl,rtn (k2 n us ps hn g g1 _ sb2)⟩
theorem cX:FnScope ["_law_script","_law_k","_law_row","_law_scale_here","_law_lines","_law_again","_law_some","_law_plot","_law_due_here"] ["_law_script"] (ao Bj):=by walk_at "sc"
def hZ(ns:List Int)(i:Int)(row:Addr)(t b sx sy:Int)(p:Addr)(o5 o6 o7 o8:Option D):DS:=[some (.rol (Hz D.int ns)),some (.int i),some (.ref row),some (scl t b sx sy),some (.ref p),o5,o6,o7,o8]
structure Lns(p row:Addr)(rs:List Str)(x c:Int)(n:Nat)(M:MH):Prop where
 p:M p=some (.lst (rs.map D.str))
 r:M row=some (.lst [.int x,.int c])
 c0:0<=c
 ok:∀r∈rs,Asc r/\10∉r.cps.toList
 wt:wt rs<=n
theorem Lns.ne{p row:Addr}{rs:List Str}{x c:Int}{n:Nat}{M:MH}(h:Lns p row rs x c n M):p≠row:=fM h.p h.r
theorem Lns.sub{p row:Addr}{rs:List Str}{x c:Int}{n:Nat}{M M':MH}(h:Lns p row rs x c n M)(s:SD.Sub M M'):Lns p row rs x c n M':=⟨s _ _ h.p,s _ _ h.r,h.c0,h.ok,h.wt⟩
theorem Lns.take{p row:Addr}{rs:List Str}{x c:Int}{n:Nat}{M:MH}(h:Lns p row rs x c n M)(x':Int):Lns p row rs x' (c+1) n (au M row (.lst [.int x',.int (c+1)])):=⟨by rw[aq h.ne];exact h.p,ag,by have:=h.c0;omega,h.ok,h.wt⟩
inductive Cn_law(x:D)(M:MH)(Q:DK):Prop
 |mk (ns:_) (hh0:x=.rol (Hz D.int ns)) (hh1:ns.length<=63) (hh2:∀M',Q (.bl true) M'):Cn_law x M Q
def ju:SpD:=fun ds M Q=>match ds with
 |[x]=>Cn_law x M Q
 |_=>False
theorem BL:∀ds M Q,ju ds M Q->ds.length=1:=fun ds M Q h=>by
 unfold ju at h;split at h
 ·rfl
 ·exact h.elim
theorem Eu{P:GC}{w:Hd}{K:cc}{mg:Str->Option G0}{fa:Addr}(T:Tx K mg)(hfa:mg "law"=some (.ref fa)):∃fd,(∀(s:G3) (u:G0),BindsTo s fd ⟨[u],[]⟩ [("_law_script",u)])/\∀base:Heap,FnOk P w K mg base CX0 12 fa fd ["_law_script"] (ib K ju):=by
 refine FA (k:=11) (N:=["_law_script","_law_k","_law_row","_law_scale_here","_law_lines","_law_again","_law_some","_law_plot","_law_due_here"]) T.f_law hfa cX (fun _ _ _ _ _ _ us hl=>by obtain⟨_,rfl⟩:=SD.y6 hl;rfl) BL fun base f cdv A outer s H E hr=>⟨_,(ai (kr HE rfl rfl T.b_range (aa (aI (uE rfl hr.units) rfl T.b_max yY (aa af (aa (aI (uO rfl hr.units) rfl T.b_min yz (aa af (aa (aI cx rfl T.b_len cI (aa (dv 0) ae)) ae))) ae))) ae) (aB 1 cX.nd) (ai (ay 2 cX.nd (aS (aa (ak (mK T).m hr (aa (dv 0) (aa (dv 1) ae))) (aa af ae)))) (ai (ay 3 cX.nd (ak (qQ T).m hr (aa (dv 2) ae))) (ai (ay 4 cX.nd (ak (kR T).m hr (aa (ak (td T).m hr (aa (dv 3) (aa (ak (jE T).m hr (aa (dv 2) (aa af (aa af ae)))) ae))) ae))) (ai (kr HE rfl rfl T.b_range (aa (ak (aF T).m hr (aa (dv 2) (aa af ae))) ae) (aB 5 cX.nd) (aj (du (bF (dv 4) (aa (cR aE (aa (aS (aa aE (aa (ak (gm T).m hr (aa (ak (iE T).m hr (aa (dv 2) ae)) ae)) (aa (ak (gm T).m hr (aa (ak (iE T).m hr (aa (dv 2) ae)) ae)) ae)))) ae)) ae))))) (ai (aN (aA (bj hr.units) (dv 4) (aS ae)) (@ai _ _ _ _ _ (@ay _ _ 6 _ _ _ _ cX.nd (@aS _ _ _ _ (@aa _ _ _ _ _ (aS (aa aE ae)) (@aa _ _ _ _ _ (aS (aa aE ae)) (@aa _ _ _ _ _ (aS (aa aE ae)) (@aa _ _ _ _ _ (aS (aa aE ae)) (@aa _ _ _ _ _ (aS (aa aE (aa aE ae))) (@aa _ _ _ _ _ (aS (aa aE (aa aE ae))) ae (by rfl)) (by rfl)) (by rfl)) (by rfl)) (by rfl)) (by rfl))) (by rfl) (by first|exact Or.inl rfl|exact Or.inr rfl) (by rfl) (by first|exact .inl rfl|exact .inr rfl)) (aj (ay 4 cX.nd (aX (dv 6) (ak (aF T).m hr (aa (dv 2) (aa af ae))))))) (aj (ay 4 cX.nd (ak (rH T).m hr (aa (dv 2) (aa (dv 4) ae)))))) (ai (aN (aA (bj hr.units) (ak (aF T).m hr (aa (dv 2) (aa af ae))) af) (aj (ay 4 cX.nd (Ah (dv 4) (ql ji af)))) aD) (ai (aN (aA (bj hr.units) (ak (aF T).m hr (aa (dv 2) (aa af ae))) af) (ai (eD 7 cX.nd (CScope.of (xs:=["_law_at"]) (js:=[]) rfl) rfl (ng rfl T.b_range (aa (ar aO af (ak (aF T).m hr (aa (dv 2) (aa af ae)))) ae)) (fun _ _ _ _=>b8) (fun _ _ _ _=>(aH (aa (aH (aa (aH (aa (dv 0) (aa af ae))) (aa (aH (aa af (aa af ae))) ae))) (aa (aH (aa (aH (aa (dv 0) (aa af ae))) (aa (aH (aa af (aa af ae))) ae))) ae))))) (aj (ay 4 cX.nd (ar aO (ak (kR T).m hr (aa (dv 7) ae)) (aS (aa aE ae)))))) aD) (ai (ay 8 cX.nd (ak (vd T).m hr (aa (dv 4) ae))) (ai (aN (dF (cV (aA (bj hr.units) (dv 4) (aS (aa aE ae))) (c6 (aA (bj hr.units) (dv 4) (aS ae))))) (aj (ay 8 cX.nd (aH (aa aE (aa (aH (aa (aH ae) (aa (aS ae) ae))) ae))))) aD) (aj (aN (aA (eC hr.units) (ak (qp T).m hr (aa (cR aE (aa (dv 4) ae)) ae)) (dv 8)) (aj (ax iJ)) aD)))))))))))) (aj (ax iJ))),fun ds M Q h=>?r⟩
 case r=>
  unfold ju at h
  split at h
  case h_2=>exact h.elim
  obtain⟨ns,rfl,hl,k⟩:=h
  refine⟨_,rfl,(max 1 (min 6 (((Hz D.int ns).length:Nat):Int))).toNat,?_,by omega,fun i δ M=>∃o1 o2 o3 o4 o5 o6 o7 o8,δ=[some (.rol (Hz D.int ns)),o1,o2,o3,o4,o5,o6,o7,o8],⟨_,_,_,_,_,_,_,_,rfl⟩,?_,fun _ _ _=>rtn (k _)⟩
  ·rw[Int.toNat_of_nonneg (by omega)]
  rintro i δ M hi ⟨o1,o2,o3,o4,o5,o6,o7,o8,rfl⟩
  refine⟨_,rfl,_,rfl,ns,i,rfl,rfl,by omega,fun z=>⟨nbL rfl,fun row hrow=>?_⟩⟩
  refine⟨_,rfl,row,z,0,rfl,ag,by decide,by decide,fun x1 c1 t b sx sy S h1 h2=>?_⟩
  refine⟨_,rfl,_,rfl,row,x1,c1,5,rfl,rfl,by decide,rfl,ag,h1,by omega,fun M2 x2 c2 l ws nrl hr2 hl2 g0 g1 g2 g3 g4=>?_⟩
  have hW:∀w∈ws,Uok (10^6) w:=fun w hw=>by
   have h:=g3 w hw
   have U:∀z:Int,(0<=z/\z<=20)->(-(10^6)<=z/\z<=10^6):=fun z h=>by omega
   exact⟨U _ h.a,U _ h.b,U _ h.c,U _ h.d⟩
  have bq:∀w∈ws,∀q∈wQ t b sx sy w,Ma.Bq 60 q:=fun w hw q hq=>by
   have HW:=g3 w hw
   have B6:∀z:Int,0<=z/\z<=20->Bd 6 z:=fun z h=>by show z.natAbs<2^6;omega
   simp only[wQ,GO,List.not_mem_nil,or_false]at hq
   rcases hq with rfl|rfl|rfl|rfl
   ·exact(S.b60 (B6 _ HW.a)).1
   ·exact(S.b60 (B6 _ HW.b)).2
   ·exact(S.b60 (B6 _ HW.c)).1
   ·exact(S.b60 (B6 _ HW.d)).2
  refine⟨t,b,sx,sy,l,ws,rfl,rfl,hl2,S,by omega,hW,?_⟩
  refine⟨t,b,sx,sy,ws,rfl,by omega,fun w hw q hq=>⟨(bq w hw q hq).1.mono (by decide),(bq w hw q hq).2.mono (by decide)⟩,fun p hp=>?_⟩
  obtain⟨rf,rw'⟩:=lC bq
  have I3:Lns p row (ws.map (gC t b sx sy)) x2 c2 870 (au M2 p (.lst ((ws.map (gC t b sx sy)).map D.str))):=⟨ag,by rw[aq (aC hr2 hp)];exact hr2,g0,rf,by omega⟩
  generalize au M2 p (.lst ((ws.map (gC t b sx sy)).map D.str))=M3 at I3 ⊢
  generalize ws.map (gC t b sx sy)=qs at I3
  clear rf rw' bq hW g3 g4 hl2 hr2 hp
  (try dsimp only[SD.aK])
  refine aT (fun δ M'=>∃rs x c o5,δ=hZ ns i row t b sx sy p o5 o6 o7 o8/\Lns p row rs x c 2200 M'/\c<=300) ?_ (fun hu=>?_)
  rotate_left
  ·refine⟨_,rfl,row,5,x2,c2,rfl,rfl,I3.r,g0,by omega,by decide,cG (by decide),fun x3 v3 h30 h31=>?_⟩;refine⟨v3.toNat,?_,by omega,fun j δ M'=>∃rs x c o5,δ=hZ ns i row t b sx sy p o5 o6 o7 o8/\Lns p row rs x c (870+148*j) M'/\c<=c2+1+6*j,?_,?_,?_⟩
   ·rw[Int.toNat_of_nonneg h30]
   ·exact⟨qs,x3,c2+1,_,rfl,I3.take x3,by omega⟩
   ·rintro j δ M' hj ⟨rs,x,c,o5,rfl,I,hc⟩;have j5:j<5:=by omega
    have ic:=I.c0;refine⟨_,rfl,p,_,rfl,I.p,_,rfl,_,rfl,row,x,c,rfl,I.r,I.c0,by omega,fun x4 q1 b1'=>?_⟩;have b1:Ma.Bq 110 q1:=⟨G6 b1'.1 (by decide),by show((q1.den:Nat):Int).natAbs<2^110;exact G6 b1'.2 (by decide)⟩;have I4:Lns p row rs x4 (c+3) (870+148*j) (au M' row (.lst [.int x4,.int (c+3)])):=⟨by rw[aq I.ne];exact I.p,ag,by omega,I.ok,I.wt⟩;generalize au M' row (.lst [.int x4,.int (c+3)])=M4 at I4 ⊢;refine⟨_,_,rfl,b1.1.mono (by decide),b1.2.mono (by decide),_,rfl,row,x4,c+3,rfl,I4.r,I4.c0,by omega,fun x5 q2 b2'=>?_⟩;have b2:Ma.Bq 110 q2:=⟨G6 b2'.1 (by decide),by show((q2.den:Nat):Int).natAbs<2^110;exact G6 b2'.2 (by decide)⟩;have I5:Lns p row rs x5 (c+3+3) (870+148*j) (au M4 row (.lst [.int x5,.int (c+3+3)])):=⟨by rw[aq I4.ne];exact I4.p,ag,by omega,I4.ok,I4.wt⟩;generalize au M4 row (.lst [.int x5,.int (c+3+3)])=M5 at I5 ⊢;obtain⟨ra,rb,rc,rd⟩:=zF b1.1 b1.2 b2.1 b2.2;refine⟨_,_,rfl,b2.1.mono (by decide),b2.2.mono (by decide),nbL rfl,fun pl fl=>⟨pl,[G1 "ask",sF q1.num q1.den,sF q2.num q2.den],rfl,ag,?_,?_⟩⟩
    ·rw[dB];exact dU (by omega)
    rw[dB];have I6:=I5.sub (SD.Sub.new (o:=.lst [.str "ask",.str (sF q1.num q1.den),.str (sF q2.num q2.den)]) fl (.refl (M:=M5)));generalize au M5 pl _=M6 at I6 ⊢;have wl:=jF rs;have w6:=I6.wt;have szl:rs.length<1000000:=by omega
    refine⟨_,_,rfl,I6.p,by rw[G7];exact szl,?_⟩;refine⟨rs++[_],x5,c+3+3,_,rfl,⟨by rw[ag,HJ];rfl,by rw[aq I6.ne.symm];exact I6.r,I6.c0,fun r hr=>?_,?_⟩,by omega⟩
    ·rcases GS.mp hr with h|h
     ·exact I6.ok r h
     ·rw[GX.mp h];exact⟨ra,rb⟩
    ·rw[bY];show wt rs+(_+1+0)<=_;omega
   ·rintro δ M' ⟨rs,x,c,o5,rfl,I,hc⟩;exact hu _ _ ⟨rs,x,c,o5,rfl,⟨I.p,I.r,I.c0,I.ok,by have:=I.wt;omega⟩,by omega⟩
  clear I3
  rintro δ M4 ⟨rs,x4,c4,o5,rfl,I4,hc4⟩
  have c40:=I4.c0
  refine aT (fun δ M'=>∃p rs x c o6,δ=hZ ns i row t b sx sy p o5 o6 o7 o8/\Lns p row rs x c 9001 M'/\rs≠[]/\c<=400) ?_ (fun hu=>?_)
  rotate_left
  ·have rfa:∀z∈rs,Asc z:=fun z hz=>(I4.ok z hz).1;refine⟨_,rfl,nbL rfl,fun pe fe=>pK (r:=[]) ((SD.Sub.new fe .refl) _ _ I4.p) ag rfa (fun z hz=>nomatch hz) ⟨_,rfl,?_⟩⟩;have I5:=I4.sub (SD.Sub.new (o:=.lst []) fe (.refl (M:=M4)));generalize au M4 pe (.lst [])=M5 at I5 ⊢;refine br (fun e2=>?_) (fun e2=>?_)
   ·have hr5:=I5.r;refine⟨nbL rfl,fun q1 f1=>?_⟩;have a1:(au M5 q1 (.lst [.str ""])) q1=some (.lst [.str ""]):=ag;have s1:SD.Sub M5 (au M5 q1 (.lst [.str ""])):=.new f1 .refl;generalize au M5 q1 (.lst [.str ""])=N1 at a1 s1 ⊢
    replace hr5:=s1 _ _ hr5
    refine⟨nbL rfl,fun q2 f2=>?_⟩;have a2:(au N1 q2 (.lst [.str "ask"])) q2=some (.lst [.str "ask"]):=ag;have s2:SD.Sub N1 (au N1 q2 (.lst [.str "ask"])):=.new f2 .refl;generalize au N1 q2 (.lst [.str "ask"])=N2 at a2 s2 ⊢
    replace a1:=s2 _ _ a1
    replace hr5:=s2 _ _ hr5
    refine⟨nbL rfl,fun q3 f3=>?_⟩;have a3:(au N2 q3 (.lst [.str "ask 0 0"])) q3=some (.lst [.str "ask 0 0"]):=ag;have s3:SD.Sub N2 (au N2 q3 (.lst [.str "ask 0 0"])):=.new f3 .refl;generalize au N2 q3 (.lst [.str "ask 0 0"])=N3 at a3 s3 ⊢
    replace a1:=s3 _ _ a1
    replace a2:=s3 _ _ a2
    replace hr5:=s3 _ _ hr5
    refine⟨nbL rfl,fun q4 f4=>?_⟩;have a4:(au N3 q4 (.lst [.str "ask 0 0 0"])) q4=some (.lst [.str "ask 0 0 0"]):=ag;have s4:SD.Sub N3 (au N3 q4 (.lst [.str "ask 0 0 0"])):=.new f4 .refl;generalize au N3 q4 (.lst [.str "ask 0 0 0"])=N4 at a4 s4 ⊢
    replace a1:=s4 _ _ a1
    replace a2:=s4 _ _ a2
    replace a3:=s4 _ _ a3
    replace hr5:=s4 _ _ hr5
    refine⟨nbL rfl,fun q5 f5=>?_⟩;have a5:(au N4 q5 (.lst [.str "ask 0 0",.str ""])) q5=some (.lst [.str "ask 0 0",.str ""]):=ag;have s5:SD.Sub N4 (au N4 q5 (.lst [.str "ask 0 0",.str ""])):=.new f5 .refl;generalize au N4 q5 (.lst [.str "ask 0 0",.str ""])=N5 at a5 s5 ⊢
    replace a1:=s5 _ _ a1
    replace a2:=s5 _ _ a2
    replace a3:=s5 _ _ a3
    replace a4:=s5 _ _ a4
    replace hr5:=s5 _ _ hr5
    refine⟨nbL rfl,fun q6 f6=>?_⟩;have a6:(au N5 q6 (.lst [.str "wall 0 0 1 1",.str "ask"])) q6=some (.lst [.str "wall 0 0 1 1",.str "ask"]):=ag;have s6:SD.Sub N5 (au N5 q6 (.lst [.str "wall 0 0 1 1",.str "ask"])):=.new f6 .refl;generalize au N5 q6 (.lst [.str "wall 0 0 1 1",.str "ask"])=N6 at a6 s6 ⊢
    replace a1:=s6 _ _ a1
    replace a2:=s6 _ _ a2
    replace a3:=s6 _ _ a3
    replace a4:=s6 _ _ a4
    replace a5:=s6 _ _ a5
    replace hr5:=s6 _ _ hr5
    refine⟨nbL rfl,fun q7 f7=>?_⟩;have a7:(au N6 q7 (.lst [.ref q1,.ref q2,.ref q3,.ref q4,.ref q5,.ref q6])) q7=some (.lst [.ref q1,.ref q2,.ref q3,.ref q4,.ref q5,.ref q6]):=ag;have s7:SD.Sub N6 (au N6 q7 (.lst [.ref q1,.ref q2,.ref q3,.ref q4,.ref q5,.ref q6])):=.new f7 .refl;generalize au N6 q7 (.lst [.ref q1,.ref q2,.ref q3,.ref q4,.ref q5,.ref q6])=N7 at a7 s7 ⊢
    replace a1:=s7 _ _ a1
    replace a2:=s7 _ _ a2
    replace a3:=s7 _ _ a3
    replace a4:=s7 _ _ a4
    replace a5:=s7 _ _ a5
    replace a6:=s7 _ _ a6
    replace hr5:=s7 _ _ hr5
    refine⟨_,rfl,_,rfl,row,6,x4,c4,rfl,rfl,hr5,by omega,by omega,by decide,cG (by decide),fun x6 v6 v60 v61=>?_⟩;have nL:q7≠row:=fun e=>by rw[e,hr5]at a7;cases a7
    have bL:(au N7 row (.lst [.int x6,.int (c4+1)])) q7=some (.lst [.ref q1,.ref q2,.ref q3,.ref q4,.ref q5,.ref q6]):=by rw[aq nL];exact a7
    have fin:∀(q:Addr) (rs:List Str),N7 q=some (.lst (rs.map D.str))->(rs.all (fun r=>lnB 100 r&&decide (10∉r.cps.toList)))=true->wt rs<=9001->Lns q row rs x6 (c4+1) 9001 (au N7 row (.lst [.int x6,.int (c4+1)])):=fun q rs hq h1 h2=>⟨by rw[aq (fM hq hr5)];exact hq,ag,by omega,fun r hr=>by
     have:=HS.mp h1 r hr
     rw[GG]at this
     exact⟨(jt this.1).1,of_decide_eq_true this.2⟩,h2⟩
    rcases(show v6=0\/v6=1\/v6=2\/v6=3\/v6=4\/v6=5 by omega)with rfl|rfl|rfl|rfl|rfl|rfl
    ·exact⟨_,_,bL,rfl,hu _ _ ⟨q1,[""],x6,c4+1,_,rfl,fin q1 _ a1 (by decide +kernel) (nbL rfl),by simp,by omega⟩⟩
    ·exact⟨_,_,bL,rfl,hu _ _ ⟨q2,["ask"],x6,c4+1,_,rfl,fin q2 _ a2 (by decide +kernel) (nbL rfl),by simp,by omega⟩⟩
    ·exact⟨_,_,bL,rfl,hu _ _ ⟨q3,["ask 0 0"],x6,c4+1,_,rfl,fin q3 _ a3 (by decide +kernel) (nbL rfl),by simp,by omega⟩⟩
    ·exact⟨_,_,bL,rfl,hu _ _ ⟨q4,["ask 0 0 0"],x6,c4+1,_,rfl,fin q4 _ a4 (by decide +kernel) (nbL rfl),by simp,by omega⟩⟩
    ·exact⟨_,_,bL,rfl,hu _ _ ⟨q5,["ask 0 0",""],x6,c4+1,_,rfl,fin q5 _ a5 (by decide +kernel) (nbL rfl),by simp,by omega⟩⟩
    ·exact⟨_,_,bL,rfl,hu _ _ ⟨q6,["wall 0 0 1 1","ask"],x6,c4+1,_,rfl,fin q6 _ a6 (by decide +kernel) (nbL rfl),by simp,by omega⟩⟩
   ·refine⟨_,rfl,_,rfl,row,p,x4,c4,rs,rfl,rfl,I5.ne.symm,I5.r,I5.c0,by omega,I5.p,fun h=>e2 (decide_eq_true h),rfa,Gy I5.wt (by decide),fun pb J M' x' c' ja jl nbr hpb hrb d0 d1=>hu _ _ ⟨pb,_,x',c',_,rfl,⟨hpb,hrb,d0,fun r hr=>⟨nu ja r hr,StrLaws.split_free J 10 r hr⟩,by rw[qd];have:=I5.wt;omega⟩,cZ J 10,by omega⟩⟩
  clear I4
  clear rs x4 c40 hc4 c4
  rintro δ M5 ⟨p,rs,x4,c4,o6,rfl,I4,n4,hc4⟩
  refine aT (fun δ M'=>∃p rs x c,δ=hZ ns i row t b sx sy p o5 o6 o7 o8/\Lns p row rs x c 9001 M'/\rs≠[]/\c<=500) ?_ (fun hu=>?_)
  rotate_left
  ·refine⟨_,rfl,row,5,x4,c4,rfl,rfl,I4.r,I4.c0,by omega,by decide,cG (by decide),fun x5 v5 h50 h51=>⟨_,rfl,?_⟩⟩;have I5:=I4.take x5;generalize au M5 row (.lst [.int x5,.int (c4+1)])=M6 at I5 ⊢;refine br (fun e=>?_) (fun e=>hu _ _ ⟨p,rs,x5,c4+1,rfl,I5,n4,by omega⟩);refine⟨_,rfl,_,rfl,rfl,p,_,rfl,I5.p,fun pr fr=>?_⟩;refine hu _ _ ⟨pr,rs.reverse,x5,c4+1,rfl,⟨by rw[ag,List.map_reverse],by rw[aq (aC I5.r fr)];exact I5.r,I5.c0,fun r hr=>I5.ok r (List.mem_reverse.mp hr),by rw[wu];exact I5.wt⟩,by simpa using n4,by omega⟩
  clear I4 n4 hc4
  clear rs x4 c4 p
  rintro δ M6 ⟨p,rs,x4,c4,rfl,I4,n4,hc4⟩
  refine aT (fun δ M'=>∃p rs o7,δ=hZ ns i row t b sx sy p o5 o6 o7 o8/\M' p=some (.lst (rs.map D.str))/\(∀r∈rs,Asc r/\10∉r.cps.toList)/\wt rs<=9001/\rs≠[]) ?_ (fun hu=>?_)
  rotate_left
  ·refine⟨_,rfl,row,24,x4,c4,rfl,rfl,I4.r,I4.c0,by omega,by decide,cG (by decide),fun x5 v5 h50 h51=>⟨_,rfl,?_⟩⟩;have I5:=I4.take x5;generalize au M6 row (.lst [.int x5,.int (c4+1)])=M7 at I5 ⊢;refine br (fun e=>?_) (fun e=>hu _ _ ⟨p,rs,o7,rfl,I5.p,I5.ok,I5.wt,n4⟩);refine⟨_,rfl,row,4,x5,c4+1,rfl,rfl,I5.r,I5.c0,by omega,by decide,cG (by decide),fun x6 v6 v60 v61=>?_⟩;refine⟨(39+v6).toNat,?_,by omega,comp_map (fun j=>rwl 1 1 0 0 ((j:Int),0,(j:Int),1)) (by show(39+v6).toNat<=_;omega) (fun _ _ _=>trivial) ?_ (fun pa ha=>?_)⟩
   ·rw[Int.toNat_of_nonneg (by omega)]
   ·intro j e' M8 hj he' _;cases he';refine⟨_,rfl,fun K hK=>?_⟩;have hK':=hK M8 .refl;rw[F7]at hK';have L:∀{a b:D},[a,b].length<=Gp:=fun{a b}=>nbL rfl;exact⟨_,rfl,L,L,L,_,rfl,L,L,L,L,hK'⟩
   ·have hb:∀w∈(HD (39+v6).toNat).map (fun j:Nat=>((j:Int),(0:Int),(j:Int),(1:Int))),∀q∈wQ 1 1 0 0 w,Ma.Bq 60 q:=fun w hw=>by obtain⟨j,hj,rfl⟩:=Ig.mp hw;rw[List.mem_range]at hj;exact DX (by omega)
    obtain⟨u1,u2⟩:=lC hb;have ll:((HD (39+v6).toNat).map (fun j:Nat=>((j:Int),(0:Int),(j:Int),(1:Int)))).length=(39+v6).toNat:=by simp
    refine⟨_,rfl,1,1,0,0,(HD (39+v6).toNat).map (fun j:Nat=>((j:Int),(0:Int),(j:Int),(1:Int))),?_,by rw[ll];omega,fun w hw q hq=>⟨(hb w hw q hq).1.mono (by decide),(hb w hw q hq).2.mono (by decide)⟩,fun pb fb=>?_⟩
    ·show _=_;rw[ag,List.map_map];rfl
    rw[ll]at u2;refine⟨nbL rfl,fun pc fc=>ig (ys:=[G1 "ask 0 0"]) ((SD.Sub.new fc .refl) _ _ ag) ag ?_ (fun pd N9 s9 f9 h9=>?_)⟩
    ·show _+((G1 "ask 0 0").length+1+0)<=_;have:(G1 "ask 0 0").length=7:=rfl;omega
    refine hu _ _ ⟨pd,_,_,rfl,h9,fun r hr=>?_,?_,by simp⟩
    ·rcases GS.mp hr with h|h
     ·exact u1 r h
     ·rw[GX.mp h];exact⟨by decide +kernel,by decide +kernel⟩
    ·rw[bY];show _+((G1 "ask 0 0").length+1+0)<=_;have:(G1 "ask 0 0").length=7:=rfl;omega
  clear I4 n4 hc4
  clear rs x4 c4 p
  rintro δ M5 ⟨pa,rs,o7,rfl,h5,f5,w5,n5⟩
  have asc5:∀r∈rs,Asc r:=fun r hr=>(f5 r hr).1
  have len5:∀r∈rs,r.cps.all (· < 128)=true/\r.length<=900000:=fun r hr=>⟨(f5 r hr).1,by have:=r6 hr;omega⟩
  have ll5:=jF rs
  refine aT (fun δ M'=>∃dv,δ=hZ ns i row t b sx sy pa o5 o6 o7 (some dv)/\M' pa=some (.lst (rs.map D.str))/\rh rs dv M') ?_ (fun hu=>?_)
  rotate_left
  ·exact⟨_,rfl,pa,rs,rfl,h5,len5,by omega,fun us ps g M' p' s' hp'=>hu _ _ ⟨_,rfl,s' _ _ h5,.inl ⟨us,ps,p',g,rfl,hp'⟩⟩,fun n us ps hn g g1 M' s'=>hu _ _ ⟨_,rfl,s' _ _ h5,.inr ⟨n,us,ps,hn,g,g1,rfl⟩⟩⟩
  rintro δ M6 ⟨dv,rfl,h6,D6⟩
  refine aT (fun δ M'=>∃dv,δ=hZ ns i row t b sx sy pa o5 o6 o7 (some dv)/\M' pa=some (.lst (rs.map D.str))/\rh (bT (Hg ⟨#[10]⟩ rs)) dv M') ?_ (fun hu=>?_)
  rotate_left
  ·refine⟨_,rfl,nbL rfl,fun pe fe=>pK (r:=[Ih]) ((SD.Sub.new fe .refl) _ _ h6) (by rw[ag,jA];rfl) asc5 (fun z hz=>by rw[GX.mp hz];decide +kernel) ⟨_,rfl,?_⟩⟩;have s7:=SD.Sub.new (o:=.lst [.str ""]) fe (.refl (M:=M6));have h7:=s7 _ _ h6;have D7:=D6.mono s7;generalize au M6 pe (.lst [.str ""])=M7 at h7 D7 ⊢;refine br (fun e=>?_) (fun e=>?_)
   ·have e:rs=[Ih]:=of_decide_eq_true e;subst e;refine bS rfl ⟨nbL rfl,nbL rfl,fun pn fn=>⟨nbL rfl,nbL rfl,?_⟩⟩;refine hu _ _ ⟨_,rfl,(SD.Sub.new fn .refl) _ _ h7,.inl ⟨[],[],pn,?_,rfl,ag⟩⟩;rw[vj];rfl
   have e:rs≠[Ih]:=fun h=>e (decide_eq_true h);refine⟨_,rfl,nbL rfl,fun pe fe=>pK (r:=[]) ((SD.Sub.new fe .refl) _ _ h7) ag asc5 (fun z hz=>nomatch hz) ⟨_,rfl,cu (decide_eq_false n5) ?_⟩⟩;refine hu _ _ ⟨dv,rfl,(SD.Sub.new fe .refl) _ _ h7,?_⟩;rw[vG n5 (fun r hr=>(f5 r hr).2) e];exact D7.mono (.new fe .refl)
  clear D6 h6 dv
  rintro δ M7 ⟨dv,rfl,h7,D7⟩
  rw[Aj]
  have rj:∀r∈bT (Hg ⟨#[10]⟩ rs),r.length<=900000:=fun r hr=>by
   have h1:=((cU _).2 r hr).1
   have h2:=gL 10 rs n5
   omega
  have jl:=join_le 10 rs
  refine⟨_,rfl,_,rfl,pa,rs,rfl,h7,dU (by omega),_,rfl,fj (by decide) asc5,by omega,rj,fun us ps g M8 p8 s8 h8=>⟨_,rfl,?_⟩,fun n us ps hn g g1 M8 s8=>⟨_,rfl,?_⟩⟩
  ·exact tJ (.inl ⟨us,ps,p8,g,rfl,h8⟩) (D7.mono s8) ⟨_,rfl,cu rfl ⟨_,_,_,_,_,_,_,_,rfl⟩⟩
  ·exact tJ (.inr ⟨n,us,ps,hn,g,g1,rfl⟩) (D7.mono s8) ⟨_,rfl,cu rfl ⟨_,_,_,_,_,_,_,_,rfl⟩⟩
theorem Cb(ns:List Int)(M:MH)(h:ns.length<=63):ju [.rol (ns.map D.int)] M (fun d _=>d=.bl true):=⟨ns,rfl,h,fun _=>rfl⟩
def kE(P:Gq)(n:String)(k:Nat)(v:G0):HL:={ hash:=PyData.keyHash P (G1 n),key:=.str (G1 n) k,val:=v }
def kF(i:Nat)(n m:String)(k c:Nat):Obj:={ cls:=.type "function",data:=.func { name:=G1 n,qualname:=G1 n,params:=b7 (top i),body:=.stmts (bw (top i)),scope:=ao (top i),globals:=↑3,closure:=[],defaults:=.none,kwdefaults:=.none,pyModule:=.str (G1 m) k,code:=.ref c } }
def kD0(P:Gq):List HL:=[kE P "__name__" ↑165 (.str "law_spotlook_k65_texts_that_are_no_questions" 625),kE P "__doc__" ↑166 (.none),kE P "__package__" ↑167 (.none),kE P "__loader__" ↑168 (.builtin "__main__.__loader__#opaque"),kE P "__spec__" ↑169 (.none),kE P "__annotations__" ↑170 (.ref ↑6),kE P "__builtins__" ↑171 (.ref ↑4),kE P "__file__" ↑173 (.str "/claim/cut.py" 172)]
def kD1(P:Gq):List HL:=[kE P "__cached__" ↑174 (.none),kE P "SpotError" ↑206 (.ref ↑24),kE P "NoFraction" ↑222 (.ref ↑37),kE P "NoWall" ↑238 (.ref ↑49),kE P "TooMany" ↑263 (.ref ↑68),kE P "Crossing" ↑290 (.ref ↑87),kE P "Absent" ↑315 (.ref ↑106),kE P "NoText" ↑340 (.ref ↑125)]
def kD2(P:Gq):List HL:=[kE P "NoRow" ↑356 (.ref ↑137),kE P "greatest_divisor" ↑366 (.ref ↑146),kE P "fraction" ↑375 (.ref ↑153),kE P "plus" ↑383 (.ref ↑160),kE P "less" ↑391 (.ref ↑167),kE P "times" ↑399 (.ref ↑174),kE P "over" ↑407 (.ref ↑181),kE P "is_less" ↑415 (.ref ↑188)]
def kD3(P:Gq):List HL:=[kE P "is_ahead" ↑425 (.ref ↑195),kE P "later_of" ↑433 (.ref ↑202),kE P "earlier_of" ↑441 (.ref ↑209),kE P "own_spot" ↑450 (.ref ↑216),kE P "own_wall" ↑457 (.ref ↑223),kE P "gap" ↑465 (.ref ↑230),kE P "lean" ↑483 (.ref ↑237),kE P "side_of" ↑492 (.ref ↑244)]
def kD4(P:Gq):List HL:=[kE P "MOST_WALLS" ↑496 (.int 40 495),kE P "meeting" ↑506 (.ref ↑251),kE P "meeting_in_line" ↑516 (.ref ↑258),kE P "crossing_spot" ↑530 (.ref ↑265),kE P "number_between" ↑539 (.ref ↑272),kE P "meet_as_in_plots" ↑548 (.ref ↑279),kE P "first_crossed" ↑558 (.ref ↑286),kE P "MOST_FIGURES" ↑562 (.int 30 561)]
def kD5(P:Gq):List HL:=[kE P "read_number" ↑568 (.ref ↑291),kE P "read_top" ↑576 (.ref ↑298),kE P "read_fraction" ↑588 (.ref ↑305),kE P "read_spots" ↑594 (.ref ↑310),kE P "read_wall" ↑604 (.ref ↑317),kE P "rows_of" ↑611 (.ref ↑324),kE P "read_questions" ↑624 (.ref ↑331),kE P "_law_cell_at" ↑634 (.ref ↑338)]
def kD6(P:Gq):List HL:=[kE P "_law_take" ↑644 (.ref ↑345),kE P "_law_low" ↑654 (.ref ↑352),kE P "_law_number" ↑665 (.ref ↑359),kE P "_law_scale" ↑675 (.ref ↑366),kE P "_law_spot" ↑687 (.ref ↑373),kE P "_law_made" ↑693 (.ref ↑378),kE P "_law_turn" ↑705 (.ref ↑385),kE P "_law_on" ↑713 (.ref ↑392)]
def kD7(P:Gq):List HL:=[kE P "_law_fair" ↑719 (.ref ↑397),kE P "_law_shuts_here" ↑725 (.ref ↑402),kE P "_law_shown" ↑732 (.ref ↑409),kE P "_law_rows" ↑738 (.ref ↑414),kE P "_law_is_whole" ↑744 (.ref ↑419),kE P "_law_fraction" ↑754 (.ref ↑426),kE P "_law_shut_in" ↑760 (.ref ↑431),kE P "_law_bent" ↑777 (.ref ↑438)]
def kD8(P:Gq):List HL:=[kE P "_law_cross" ↑798 (.ref ↑445),kE P "_law_before" ↑806 (.ref ↑452),kE P "_law_fits" ↑812 (.ref ↑457),kE P "_law_alone" ↑821 (.ref ↑464),kE P "_law_heard" ↑831 (.ref ↑471),kE P "_law_due" ↑837 (.ref ↑476),kE P "law" ↑843 (.ref ↑481)]
def kG(P:Gq):Obj:={ cls:=.type "dict",data:=.dict (Gv (kD0 P++(kD1 P++(kD2 P++(kD3 P++(kD4 P++(kD5 P++(kD6 P++(kD7 P++(kD8 P)))))))))) 71 }
def kCo(n:String)(a0:Nat)(a1:Nat)(a2:Nat)(a3:Nat)(a4:Nat)(a8:Nat)(a11:Nat)(a13:Nat)(a14:Nat)(a15:Nat)(a16:Nat)(a17:Nat)(a18:Nat):Obj:={ cls:=.type "code",data:=.fields #[.str (G1 n) a0,.str (G1 n) a1,.str "/claim/cut.py" a2,.int (Jk a3) 0,.int (Jk a4) 0,.int 0 0,.int 0 0,.int 3 0,.ref a8,.bool true,.int 181 0,.ref a11,.none,.ref a13,.ref a14,.ref a15,.int (Jk a16) 0,.int (Jk a17) 0,.str "/claim/cut.py" a18] }
def kM(i j:Nat)(n q m:String)(k c:Nat):Obj:={ cls:=.type "function",data:=.func { name:=G1 n,qualname:=G1 q,params:=b7 (SD.ug (top i) j),body:=.stmts (bw (SD.ug (top i) j)),scope:=ao (SD.ug (top i) j),globals:=↑3,closure:=[],defaults:=.none,kwdefaults:=.none,pyModule:=.str (G1 m) k,code:=.ref c } }
def FI(P:Gq):Obj:={ cls:=.type "dict",data:=.dict (Gv [kE P "__module__" ↑196 (.str "spotlook.errors" 187),kE P "__firstlineno__" ↑200 (.int 2 199),kE P "__static_attributes__" ↑201 (.ref ↑22),kE P "__weakref__" ↑203 (.ref ↑25),kE P "__doc__" ↑204 (.none)]) 3 }
def FN(P:Gq):Obj:={ cls:=.type "dict",data:=.dict (Gv [kE P "__module__" ↑214 (.str "spotlook.errors" 187),kE P "__firstlineno__" ↑218 (.int 4 217),kE P "__static_attributes__" ↑219 (.ref ↑35),kE P "__doc__" ↑220 (.none)]) 2 }
def Gj(P:Gq):Obj:={ cls:=.type "dict",data:=.dict (Gv [kE P "__module__" ↑230 (.str "spotlook.errors" 187),kE P "__firstlineno__" ↑234 (.int 6 233),kE P "__static_attributes__" ↑235 (.ref ↑47),kE P "__doc__" ↑236 (.none)]) 2 }
def F0(P:Gq):Obj:={ cls:=.type "dict",data:=.dict (Gv [kE P "__module__" ↑246 (.str "spotlook.errors" 187),kE P "__firstlineno__" ↑250 (.int 8 249),kE P "__init__" ↑258 (.ref ↑65),kE P "__static_attributes__" ↑260 (.ref ↑66),kE P "__doc__" ↑261 (.none)]) 2 }
def F1(P:Gq):Obj:={ cls:=.type "dict",data:=.dict (Gv [kE P "__module__" ↑271 (.str "spotlook.errors" 187),kE P "__firstlineno__" ↑275 (.int 13 274),kE P "__init__" ↑284 (.ref ↑84),kE P "__static_attributes__" ↑287 (.ref ↑85),kE P "__doc__" ↑288 (.none)]) 2 }
def Fg(P:Gq):Obj:={ cls:=.type "dict",data:=.dict (Gv [kE P "__module__" ↑298 (.str "spotlook.errors" 187),kE P "__firstlineno__" ↑302 (.int 19 301),kE P "__init__" ↑310 (.ref ↑103),kE P "__static_attributes__" ↑312 (.ref ↑104),kE P "__doc__" ↑313 (.none)]) 2 }
def EF(P:Gq):Obj:={ cls:=.type "dict",data:=.dict (Gv [kE P "__module__" ↑323 (.str "spotlook.errors" 187),kE P "__firstlineno__" ↑327 (.int 24 326),kE P "__init__" ↑335 (.ref ↑122),kE P "__static_attributes__" ↑337 (.ref ↑123),kE P "__doc__" ↑338 (.none)]) 2 }
def EB(P:Gq):Obj:={ cls:=.type "dict",data:=.dict (Gv [kE P "__module__" ↑348 (.str "spotlook.errors" 187),kE P "__firstlineno__" ↑352 (.int 29 351),kE P "__static_attributes__" ↑353 (.ref ↑135),kE P "__doc__" ↑354 (.none)]) 2 }
def kN(l:List Obj)(i:Nat):Obj:=l.getD i { cls:=.none,data:=.dict #[] }
def zzD(n q:Str)(a b c l k f r:Nat)(t:Bool)(s:Nat)(x y z:G0)(d e:Nat):Obj:={ cls:=.type "code",data:=.fields #[.str n a,.str q b,.str "/claim/cut.py" c,.int l 0,.int k 0,.int 0 0,.int 0 0,.int f 0,.ref r,.bool t,.int 181 0,.ref s,.none,x,y,z,.int d 0,.int l 0,.str "/claim/cut.py" e] }
def zzK(n:Str)(s g a i j:Nat):Obj:={ cls:=.type "type",data:=.cls { name:=n,bases:=[.ref 24],mro:=[.ref s,.ref 24,.type "ValueError",.type "Exception",.type "BaseException",.type "object"],ns:=g,qualname:=n,hasDict:=true,slotNames:=[],subclasses:=[],abstract:=false,collection:=none,hasDel:=false },slots:=#[some (.ref a),none,some (.str n i),some (.str n j),some (.builtin "ValueError.__new__"),some (.bool true)] }
def zzR(n:Str)(s g a i j:Nat):Obj:={ cls:=.type "type",data:=.cls { name:=n,bases:=[.ref ↑24],mro:=[.ref s,.ref ↑24,.type "ValueError",.type "Exception",.type "BaseException",.type "object"],ns:=g,qualname:=n,hasDict:=true,slotNames:=[],subclasses:=[],abstract:=false,collection:=none,hasDel:=false },slots:=#[some (.ref a),none,some (.str n i),some (.str n j),some (.builtin "ValueError.__new__"),some (.bool true)] }
def zzN:G0:=.str "law_spotlook_k65_texts_that_are_no_questions" 625
def zzF(i:Nat)(n:String)(c:Nat):Obj:=kF i n "law_spotlook_k65_texts_that_are_no_questions" ↑625 c
def kL0:List Obj:=[{ cls:=.none,data:=.dict #[] 0 },{ cls:=.type "type",data:=.cls { name:="SpotError",bases:=[(.type "ValueError")],mro:=[(.ref ↑24),(.type "ValueError"),(.type "Exception"),(.type "BaseException"),(.type "object")],ns:=23,qualname:="SpotError",hasDict:=true,slotNames:=[],subclasses:=[(.ref ↑37),(.ref ↑49),(.ref ↑68),(.ref ↑87),(.ref ↑106),(.ref ↑125),(.ref ↑137)],abstract:=false,collection:=none,hasDel:=false },slots:=#[(some (.ref ↑15)),none,(some (.str "SpotError" 189)),(some (.str "SpotError" 197)),(some (.builtin "ValueError.__new__")),(some (.bool true))] },(zzR "NoFraction" ↑37 36 ↑28 207 215),(zzR "NoWall" ↑49 48 ↑40 223 231),(zzD "__init__" "TooMany.__init__" 251 252 253 10 2 3 59 true 60 (.ref 61) (.ref 62) (.ref 63) 256 257),kM ↑4 ↑0 "__init__" "TooMany.__init__" "spotlook.errors" ↑187 ↑64,(zzR "TooMany" ↑68 67 ↑52 239 247),(zzD "__init__" "Crossing.__init__" 276 277 278 15 3 3 78 true 79 (.ref 80) (.ref 81) (.ref 82) 282 283)]
def kL1:List Obj:=[kM ↑5 ↑0 "__init__" "Crossing.__init__" "spotlook.errors" ↑187 ↑83,(zzR "Crossing" ↑87 86 ↑71 264 272),(zzD "__init__" "Absent.__init__" 303 304 305 21 2 3 97 true 98 (.ref 99) (.ref 100) (.ref 101) 308 309),kM ↑6 ↑0 "__init__" "Absent.__init__" "spotlook.errors" ↑187 ↑102,(zzR "Absent" ↑106 105 ↑90 291 299),(zzD "__init__" "NoText.__init__" 328 329 330 26 2 3 116 true 117 (.ref 118) (.ref 119) (.ref 120) 333 334),kM ↑7 ↑0 "__init__" "NoText.__init__" "spotlook.errors" ↑187 ↑121,(zzR "NoText" ↑125 124 ↑109 316 324)]
def kL2:List Obj:=[(zzR "NoRow" ↑137 136 ↑128 341 349),kCo "greatest_divisor" ↑359 ↑360 ↑361 ↑32 ↑2 ↑140 ↑141 ↑142 ↑143 ↑144 ↑364 ↑32 ↑365,kF ↑10 "greatest_divisor" "spotlook.fractions" ↑357 ↑145,kCo "fraction" ↑367 ↑368 ↑369 ↑36 ↑2 ↑147 ↑148 ↑149 ↑150 ↑151 ↑373 ↑36 ↑374,kF ↑11 "fraction" "spotlook.fractions" ↑357 ↑152,kCo "plus" ↑376 ↑377 ↑378 ↑43 ↑2 ↑154 ↑155 ↑156 ↑157 ↑158 ↑381 ↑43 ↑382,kF ↑12 "plus" "spotlook.fractions" ↑357 ↑159,kCo "less" ↑384 ↑385 ↑386 ↑45 ↑2 ↑161 ↑162 ↑163 ↑164 ↑165 ↑389 ↑45 ↑390]
def kL3:List Obj:=[kF ↑13 "less" "spotlook.fractions" ↑357 ↑166,kCo "times" ↑392 ↑393 ↑394 ↑47 ↑2 ↑168 ↑169 ↑170 ↑171 ↑172 ↑397 ↑47 ↑398,kF ↑14 "times" "spotlook.fractions" ↑357 ↑173,kCo "over" ↑400 ↑401 ↑402 ↑49 ↑2 ↑175 ↑176 ↑177 ↑178 ↑179 ↑405 ↑49 ↑406,kF ↑15 "over" "spotlook.fractions" ↑357 ↑180,kCo "is_less" ↑408 ↑409 ↑410 ↑51 ↑2 ↑182 ↑183 ↑184 ↑185 ↑186 ↑413 ↑51 ↑414,kF ↑16 "is_less" "spotlook.fractions" ↑357 ↑187,kCo "is_ahead" ↑418 ↑419 ↑420 ↑54 ↑2 ↑189 ↑190 ↑191 ↑192 ↑193 ↑423 ↑54 ↑424]
def kL4:List Obj:=[kF ↑18 "is_ahead" "spotlook.spots" ↑416 ↑194,kCo "later_of" ↑426 ↑427 ↑428 ↑58 ↑2 ↑196 ↑197 ↑198 ↑199 ↑200 ↑431 ↑58 ↑432,kF ↑19 "later_of" "spotlook.spots" ↑416 ↑201,kCo "earlier_of" ↑434 ↑435 ↑436 ↑60 ↑2 ↑203 ↑204 ↑205 ↑206 ↑207 ↑439 ↑60 ↑440,kF ↑20 "earlier_of" "spotlook.spots" ↑416 ↑208,kCo "own_spot" ↑442 ↑443 ↑444 ↑62 ↑1 ↑210 ↑211 ↑212 ↑213 ↑214 ↑448 ↑62 ↑449,kF ↑21 "own_spot" "spotlook.spots" ↑416 ↑215,kCo "own_wall" ↑451 ↑452 ↑453 ↑65 ↑1 ↑217 ↑218 ↑219 ↑220 ↑221 ↑455 ↑65 ↑456]
def kL5:List Obj:=[kF ↑22 "own_wall" "spotlook.spots" ↑416 ↑222,kCo "gap" ↑458 ↑459 ↑460 ↑67 ↑2 ↑224 ↑225 ↑226 ↑227 ↑228 ↑463 ↑67 ↑464,kF ↑23 "gap" "spotlook.spots" ↑416 ↑229,kCo "lean" ↑466 ↑467 ↑468 ↑69 ↑2 ↑231 ↑232 ↑233 ↑234 ↑235 ↑481 ↑69 ↑482,kF ↑24 "lean" "spotlook.spots" ↑416 ↑236,kCo "side_of" ↑484 ↑485 ↑486 ↑75 ↑2 ↑238 ↑239 ↑240 ↑241 ↑242 ↑490 ↑75 ↑491,kF ↑25 "side_of" "spotlook.spots" ↑416 ↑243,kCo "meeting" ↑497 ↑498 ↑499 ↑84 ↑2 ↑245 ↑246 ↑247 ↑248 ↑249 ↑504 ↑84 ↑505]
def kL6:List Obj:=[kF ↑28 "meeting" "spotlook.plots" ↑493 ↑250,kCo "meeting_in_line" ↑507 ↑508 ↑509 ↑91 ↑2 ↑252 ↑253 ↑254 ↑255 ↑256 ↑514 ↑91 ↑515,kF ↑29 "meeting_in_line" "spotlook.plots" ↑493 ↑257,kCo "crossing_spot" ↑517 ↑518 ↑519 ↑99 ↑2 ↑259 ↑260 ↑261 ↑262 ↑263 ↑528 ↑99 ↑529,kF ↑30 "crossing_spot" "spotlook.plots" ↑493 ↑264,kCo "number_between" ↑531 ↑532 ↑533 ↑106 ↑3 ↑266 ↑267 ↑268 ↑269 ↑270 ↑537 ↑106 ↑538,kF ↑31 "number_between" "spotlook.plots" ↑493 ↑271,kCo "meet_as_in_plots" ↑540 ↑541 ↑542 ↑108 ↑2 ↑273 ↑274 ↑275 ↑276 ↑277 ↑546 ↑108 ↑547]
def kL7:List Obj:=[kF ↑32 "meet_as_in_plots" "spotlook.plots" ↑493 ↑278,kCo "first_crossed" ↑549 ↑550 ↑551 ↑113 ↑2 ↑280 ↑281 ↑282 ↑283 ↑284 ↑556 ↑113 ↑557,kF ↑33 "first_crossed" "spotlook.plots" ↑493 ↑285,(zzD "read_number" "read_number" 563 564 565 120 1 3 287 true 288 .none .none (.ref 289) 566 567),kF ↑36 "read_number" "spotlook.texts" ↑559 ↑290,kCo "read_top" ↑569 ↑570 ↑571 ↑126 ↑1 ↑292 ↑293 ↑294 ↑295 ↑296 ↑574 ↑126 ↑575,kF ↑37 "read_top" "spotlook.texts" ↑559 ↑297,kCo "read_fraction" ↑577 ↑578 ↑579 ↑131 ↑1 ↑299 ↑300 ↑301 ↑302 ↑303 ↑586 ↑131 ↑587]
def kL8:List Obj:=[kF ↑38 "read_fraction" "spotlook.texts" ↑559 ↑304,(zzD "read_spots" "read_spots" 589 590 591 140 3 3 306 true 307 .none .none (.ref 308) 592 593),kF ↑39 "read_spots" "spotlook.texts" ↑559 ↑309,kCo "read_wall" ↑595 ↑596 ↑597 ↑146 ↑2 ↑311 ↑312 ↑313 ↑314 ↑315 ↑602 ↑146 ↑603,kF ↑40 "read_wall" "spotlook.texts" ↑559 ↑316,kCo "rows_of" ↑605 ↑606 ↑607 ↑154 ↑1 ↑318 ↑319 ↑320 ↑321 ↑322 ↑609 ↑154 ↑610,kF ↑41 "rows_of" "spotlook.texts" ↑559 ↑323,kCo "read_questions" ↑612 ↑613 ↑614 ↑156 ↑1 ↑325 ↑326 ↑327 ↑328 ↑329 ↑622 ↑156 ↑623]
def kL9:List Obj:=[kF ↑42 "read_questions" "spotlook.texts" ↑559 ↑330,kCo "_law_cell_at" ↑627 ↑628 ↑629 ↑169 ↑2 ↑332 ↑333 ↑334 ↑335 ↑336 ↑632 ↑169 ↑633,zzF ↑44 "_law_cell_at" ↑337,kCo "_law_take" ↑635 ↑636 ↑637 ↑173 ↑2 ↑339 ↑340 ↑341 ↑342 ↑343 ↑642 ↑173 ↑643,zzF ↑45 "_law_take" ↑344,kCo "_law_low" ↑645 ↑646 ↑647 ↑182 ↑2 ↑346 ↑347 ↑348 ↑349 ↑350 ↑652 ↑182 ↑653,zzF ↑46 "_law_low" ↑351,kCo "_law_number" ↑655 ↑656 ↑657 ↑190 ↑1 ↑353 ↑354 ↑355 ↑356 ↑357 ↑663 ↑190 ↑664]
def kL10:List Obj:=[zzF ↑47 "_law_number" ↑358,kCo "_law_scale" ↑666 ↑667 ↑668 ↑196 ↑1 ↑360 ↑361 ↑362 ↑363 ↑364 ↑673 ↑196 ↑674,zzF ↑48 "_law_scale" ↑365,kCo "_law_spot" ↑676 ↑677 ↑678 ↑202 ↑2 ↑367 ↑368 ↑369 ↑370 ↑371 ↑685 ↑202 ↑686,zzF ↑49 "_law_spot" ↑372,(zzD "_law_made" "_law_made" 688 689 690 205 2 3 374 true 375 .none .none (.ref 376) 691 692),zzF ↑50 "_law_made" ↑377,kCo "_law_turn" ↑694 ↑695 ↑696 ↑207 ↑3 ↑379 ↑380 ↑381 ↑382 ↑383 ↑703 ↑207 ↑704]
def kL11:List Obj:=[zzF ↑51 "_law_turn" ↑384,kCo "_law_on" ↑706 ↑707 ↑708 ↑212 ↑2 ↑386 ↑387 ↑388 ↑389 ↑390 ↑711 ↑212 ↑712,zzF ↑52 "_law_on" ↑391,(zzD "_law_fair" "_law_fair" 714 715 716 214 2 3 393 true 394 .none .none (.ref 395) 717 718),zzF ↑53 "_law_fair" ↑396,(zzD "_law_shuts_here" "_law_shuts_here" 720 721 722 224 3 3 398 true 399 .none .none (.ref 400) 723 724),zzF ↑54 "_law_shuts_here" ↑401,kCo "_law_shown" ↑726 ↑727 ↑728 ↑235 ↑1 ↑403 ↑404 ↑405 ↑406 ↑407 ↑730 ↑235 ↑731]
def kL12:List Obj:=[zzF ↑55 "_law_shown" ↑408,(zzD "_law_rows" "_law_rows" 733 734 735 237 1 3 410 true 411 .none .none (.ref 412) 736 737),zzF ↑56 "_law_rows" ↑413,(zzD "_law_is_whole" "_law_is_whole" 739 740 741 239 1 3 415 true 416 .none .none (.ref 417) 742 743),zzF ↑57 "_law_is_whole" ↑418,kCo "_law_fraction" ↑745 ↑746 ↑747 ↑243 ↑1 ↑420 ↑421 ↑422 ↑423 ↑424 ↑752 ↑243 ↑753,zzF ↑58 "_law_fraction" ↑425,(zzD "_law_shut_in" "_law_shut_in" 755 756 757 256 1 3 427 true 428 .none .none (.ref 429) 758 759)]
def kL13:List Obj:=[zzF ↑59 "_law_shut_in" ↑430,kCo "_law_bent" ↑761 ↑762 ↑763 ↑267 ↑2 ↑432 ↑433 ↑434 ↑435 ↑436 ↑775 ↑267 ↑776,zzF ↑60 "_law_bent" ↑437,kCo "_law_cross" ↑778 ↑779 ↑780 ↑298 ↑3 ↑439 ↑440 ↑441 ↑442 ↑443 ↑796 ↑298 ↑797,zzF ↑61 "_law_cross" ↑444,kCo "_law_before" ↑799 ↑800 ↑801 ↑307 ↑2 ↑446 ↑447 ↑448 ↑449 ↑450 ↑804 ↑307 ↑805,zzF ↑62 "_law_before" ↑451,(zzD "_law_fits" "_law_fits" 807 808 809 311 2 3 453 true 454 .none .none (.ref 455) 810 811)]
def kL14:List Obj:=[zzF ↑63 "_law_fits" ↑456,kCo "_law_alone" ↑813 ↑814 ↑815 ↑322 ↑2 ↑458 ↑459 ↑460 ↑461 ↑462 ↑819 ↑322 ↑820,zzF ↑64 "_law_alone" ↑463,kCo "_law_heard" ↑822 ↑823 ↑824 ↑327 ↑1 ↑465 ↑466 ↑467 ↑468 ↑469 ↑829 ↑327 ↑830,zzF ↑65 "_law_heard" ↑470,(zzD "_law_due" "_law_due" 832 833 834 339 1 3 472 true 473 .none .none (.ref 474) 835 836),zzF ↑66 "_law_due" ↑475,(zzD "law" "law" 838 839 840 355 1 3 477 true 478 .none .none (.ref 479) 841 842)]
def kL15:List Obj:=[zzF ↑67 "law" ↑480]
def kK:Gq->cc:=fun P=>(↑2,kN kL0 ↑0)::(↑3,kG P)::(↑23,FI P)::(↑24,kN kL0 ↑1)::(↑36,FN P)::(↑37,kN kL0 ↑2)::(↑48,Gj P)::(↑49,kN kL0 ↑3)::(↑64,kN kL0 ↑4)::(↑65,kN kL0 ↑5)::(↑67,F0 P)::(↑68,kN kL0 ↑6)::(↑83,kN kL0 ↑7)::(↑84,kN kL1 ↑0)::(↑86,F1 P)::(↑87,kN kL1 ↑1)::(↑102,kN kL1 ↑2)::(↑103,kN kL1 ↑3)::(↑105,Fg P)::(↑106,kN kL1 ↑4)::(↑121,kN kL1 ↑5)::(↑122,kN kL1 ↑6)::(↑124,EF P)::(↑125,kN kL1 ↑7)::(↑136,EB P)::(↑137,kN kL2 ↑0)::(↑145,kN kL2 ↑1)::(↑146,kN kL2 ↑2)::(↑152,kN kL2 ↑3)::(↑153,kN kL2 ↑4)::(↑159,kN kL2 ↑5)::(↑160,kN kL2 ↑6)::(↑166,kN kL2 ↑7)::(↑167,kN kL3 ↑0)::(↑173,kN kL3 ↑1)::(↑174,kN kL3 ↑2)::(↑180,kN kL3 ↑3)::(↑181,kN kL3 ↑4)::(↑187,kN kL3 ↑5)::(↑188,kN kL3 ↑6)::(↑194,kN kL3 ↑7)::(↑195,kN kL4 ↑0)::(↑201,kN kL4 ↑1)::(↑202,kN kL4 ↑2)::(↑208,kN kL4 ↑3)::(↑209,kN kL4 ↑4)::(↑215,kN kL4 ↑5)::(↑216,kN kL4 ↑6)::(↑222,kN kL4 ↑7)::(↑223,kN kL5 ↑0)::(↑229,kN kL5 ↑1)::(↑230,kN kL5 ↑2)::(↑236,kN kL5 ↑3)::(↑237,kN kL5 ↑4)::(↑243,kN kL5 ↑5)::(↑244,kN kL5 ↑6)::(↑250,kN kL5 ↑7)::(↑251,kN kL6 ↑0)::(↑257,kN kL6 ↑1)::(↑258,kN kL6 ↑2)::(↑264,kN kL6 ↑3)::(↑265,kN kL6 ↑4)::(↑271,kN kL6 ↑5)::(↑272,kN kL6 ↑6)::(↑278,kN kL6 ↑7)::(↑279,kN kL7 ↑0)::(↑285,kN kL7 ↑1)::(↑286,kN kL7 ↑2)::(↑290,kN kL7 ↑3)::(↑291,kN kL7 ↑4)::(↑297,kN kL7 ↑5)::(↑298,kN kL7 ↑6)::(↑304,kN kL7 ↑7)::(↑305,kN kL8 ↑0)::(↑309,kN kL8 ↑1)::(↑310,kN kL8 ↑2)::(↑316,kN kL8 ↑3)::(↑317,kN kL8 ↑4)::(↑323,kN kL8 ↑5)::(↑324,kN kL8 ↑6)::(↑330,kN kL8 ↑7)::(↑331,kN kL9 ↑0)::(↑337,kN kL9 ↑1)::(↑338,kN kL9 ↑2)::(↑344,kN kL9 ↑3)::(↑345,kN kL9 ↑4)::(↑351,kN kL9 ↑5)::(↑352,kN kL9 ↑6)::(↑358,kN kL9 ↑7)::(↑359,kN kL10 ↑0)::(↑365,kN kL10 ↑1)::(↑366,kN kL10 ↑2)::(↑372,kN kL10 ↑3)::(↑373,kN kL10 ↑4)::(↑377,kN kL10 ↑5)::(↑378,kN kL10 ↑6)::(↑384,kN kL10 ↑7)::(↑385,kN kL11 ↑0)::(↑391,kN kL11 ↑1)::(↑392,kN kL11 ↑2)::(↑396,kN kL11 ↑3)::(↑397,kN kL11 ↑4)::(↑401,kN kL11 ↑5)::(↑402,kN kL11 ↑6)::(↑408,kN kL11 ↑7)::(↑409,kN kL12 ↑0)::(↑413,kN kL12 ↑1)::(↑414,kN kL12 ↑2)::(↑418,kN kL12 ↑3)::(↑419,kN kL12 ↑4)::(↑425,kN kL12 ↑5)::(↑426,kN kL12 ↑6)::(↑430,kN kL12 ↑7)::(↑431,kN kL13 ↑0)::(↑437,kN kL13 ↑1)::(↑438,kN kL13 ↑2)::(↑444,kN kL13 ↑3)::(↑445,kN kL13 ↑4)::(↑451,kN kL13 ↑5)::(↑452,kN kL13 ↑6)::(↑456,kN kL13 ↑7)::(↑457,kN kL14 ↑0)::(↑463,kN kL14 ↑1)::(↑464,kN kL14 ↑2)::(↑470,kN kL14 ↑3)::(↑471,kN kL14 ↑4)::(↑475,kN kL14 ↑5)::(↑476,kN kL14 ↑6)::(↑480,kN kL14 ↑7)::(↑481,kN kL15 ↑0)::[]
end QQ
namespace QQ
open PySem L2
inductive Tg{A:Type}(a:A):Type where|mk:Tg a
noncomputable def pk{A:Type}{a:A}(_:Tg a):A:=a
noncomputable def hE(P:Gq)(n:Str)(k:Nat)(v:G0):HL:={ hash:=PyData.keyHash P n,key:=.str n k,val:=v }
noncomputable def zzM(k:Nat)(l:List HL):Obj:={ cls:=.type "dict",data:=.dict (Gv l) k }
noncomputable def zzE:G0:=.str "spotlook.errors" 187
noncomputable def kU(s:Stmt)(n q:Str)(g:Nat)(m c:G0):IC:={ name:=n,qualname:=q,params:=b7 s,body:=.stmts (bw s),scope:=ao s,globals:=g,closure:=[],defaults:=.none,kwdefaults:=.none,pyModule:=m,code:=c }
noncomputable def kC(s:Stmt)(i:Nat):Stmt:=match s with
 |.ClassDef (body:=b) ..=>b.getD i (.Pass ⟨0,0,0,0⟩)
 |s=>s
noncomputable def kTu(l:List G0):Obj:={ cls:=.type "tuple",data:=.seq l.toArray 0 }
noncomputable def kFd(l:List G0):Obj:={ cls:=.none,data:=.fields l.toArray }
local macro_rules | `(tactic| walk_at "st") => `(tactic| (intro t; (conv at t => (arg 1; whnf)); exact pk (.mk : type_of% t)))
local macro_rules | `(⇑$n:num) => `((by refine' (?_ : Tg (top $n) → Stmt) .mk; walk_at "st" : Stmt))
noncomputable def st0:Stmt:=⇑0
noncomputable def st1:Stmt:=⇑1
noncomputable def st2:Stmt:=⇑2
noncomputable def st3:Stmt:=⇑3
noncomputable def st4:Stmt:=⇑4
noncomputable def st5:Stmt:=⇑5
noncomputable def st6:Stmt:=⇑6
noncomputable def st7:Stmt:=⇑7
noncomputable def st8:Stmt:=⇑8
noncomputable def st9:Stmt:=⇑9
noncomputable def st10:Stmt:=⇑10
noncomputable def st11:Stmt:=⇑11
noncomputable def st12:Stmt:=⇑12
noncomputable def st13:Stmt:=⇑13
noncomputable def st14:Stmt:=⇑14
noncomputable def st15:Stmt:=⇑15
noncomputable def st16:Stmt:=⇑16
noncomputable def st17:Stmt:=⇑17
noncomputable def st18:Stmt:=⇑18
noncomputable def st19:Stmt:=⇑19
noncomputable def st20:Stmt:=⇑20
noncomputable def st21:Stmt:=⇑21
noncomputable def st22:Stmt:=⇑22
noncomputable def st23:Stmt:=⇑23
noncomputable def st24:Stmt:=⇑24
noncomputable def st25:Stmt:=⇑25
noncomputable def st26:Stmt:=⇑26
noncomputable def st27:Stmt:=⇑27
noncomputable def st28:Stmt:=⇑28
noncomputable def st29:Stmt:=⇑29
noncomputable def st30:Stmt:=⇑30
noncomputable def st31:Stmt:=⇑31
noncomputable def st32:Stmt:=⇑32
noncomputable def st33:Stmt:=⇑33
noncomputable def st34:Stmt:=⇑34
noncomputable def st35:Stmt:=⇑35
noncomputable def st36:Stmt:=⇑36
noncomputable def st37:Stmt:=⇑37
noncomputable def st38:Stmt:=⇑38
noncomputable def st39:Stmt:=⇑39
noncomputable def st40:Stmt:=⇑40
noncomputable def st41:Stmt:=⇑41
noncomputable def st42:Stmt:=⇑42
noncomputable def st43:Stmt:=⇑43
noncomputable def st44:Stmt:=⇑44
noncomputable def st45:Stmt:=⇑45
noncomputable def st46:Stmt:=⇑46
noncomputable def st47:Stmt:=⇑47
noncomputable def st48:Stmt:=⇑48
noncomputable def st49:Stmt:=⇑49
noncomputable def st50:Stmt:=⇑50
noncomputable def st51:Stmt:=⇑51
noncomputable def st52:Stmt:=⇑52
noncomputable def st53:Stmt:=⇑53
noncomputable def st54:Stmt:=⇑54
noncomputable def st55:Stmt:=⇑55
noncomputable def st56:Stmt:=⇑56
noncomputable def st57:Stmt:=⇑57
noncomputable def st58:Stmt:=⇑58
noncomputable def st59:Stmt:=⇑59
noncomputable def st60:Stmt:=⇑60
noncomputable def st61:Stmt:=⇑61
noncomputable def st62:Stmt:=⇑62
noncomputable def st63:Stmt:=⇑63
noncomputable def st64:Stmt:=⇑64
noncomputable def st65:Stmt:=⇑65
noncomputable def st66:Stmt:=⇑66
noncomputable def st67:Stmt:=⇑67
noncomputable def scp:Jb:=by refine'(?_:Tg (GI.main.scope)->Jb) .mk;walk_at "st"
noncomputable def fil:Str:=by refine'(?_:Tg (GI.main.file)->Str) .mk;walk_at "st"
noncomputable def giv:Given:=by refine'(?_:Tg (GI.given)->Given) .mk;walk_at "st"
noncomputable def pw2:GC:={ main:={ body:=[st0,st1,st2,st3,st4,st5,st6,st7,st8,st9,st10,st11,st12,st13,st14,st15,st16,st17,st18,st19,st20,st21,st22,st23,st24,st25,st26,st27,st28,st29,st30,st31,st32,st33,st34,st35,st36,st37,st38,st39,st40,st41,st42,st43,st44,st45,st46,st47,st48,st49,st50,st51,st52,st53,st54,st55,st56,st57,st58,st59,st60,st61,st62,st63,st64,st65,st66,st67],scope:=scp,futureAnnotations:=false,file:=fil,more:=[] },modules:=[],parses:=[],absent:=[],harvested:=[],given:=giv }
noncomputable def vw:GC:={ pw2 with main:={ pw2.main with body:=[st1,st2,st3,st4,st5,st6,st7,st8,st10,st11,st12,st13,st14,st15,st16,st18,st19,st20,st21,st22,st23,st24,st25,st27,st28,st29,st30,st31,st32,st33,st35,st36,st37,st38,st39,st40,st41,st42,st44,st45,st46,st47,st48,st49,st50,st51,st52,st53,st54,st55,st56,st57,st58,st59,st60,st61,st62,st63,st64,st65,st66,st67] } }
noncomputable def sx0:List Stmt:=[st0,st1]
noncomputable def sx1:List Stmt:=[st2]
noncomputable def sx2:List Stmt:=[st3]
noncomputable def sx3:List Stmt:=[st4]
noncomputable def sx4:List Stmt:=[st5]
noncomputable def sx5:List Stmt:=[st6]
noncomputable def sx6:List Stmt:=[st7]
noncomputable def sx7:List Stmt:=[st8,st9,st10,st11,st12,st13,st14]
noncomputable def sx8:List Stmt:=[st15,st16,st17,st18,st19,st20,st21,st22,st23,st24,st25,st26,st27,st28]
noncomputable def sx9:List Stmt:=[st29,st30,st31,st32,st33,st34,st35,st36,st37,st38,st39,st40,st41,st42]
noncomputable def sx10:List Stmt:=[st43,st44,st45,st46,st47,st48,st49,st50,st51,st52,st53,st54,st55,st56]
noncomputable def sx11:List Stmt:=[st57,st58,st59,st60,st61,st62,st63,st64,st65,st66,st67]
noncomputable def en3_0(P:Gq):List HL:=[hE P "__doc__" 166 .none,hE P "__package__" 167 .none,hE P "__loader__" 168 (.builtin "__main__.__loader__#opaque"),hE P "__spec__" 169 .none,hE P "__annotations__" 170 (.ref 6),hE P "__builtins__" 171 (.ref 4),hE P "__file__" 173 (.str "/claim/cut.py" 172),hE P "__cached__" 174 .none]
noncomputable def en3_1(P:Gq):List HL:=[hE P "SpotError" 206 (.ref 24),hE P "NoFraction" 222 (.ref 37),hE P "NoWall" 238 (.ref 49),hE P "TooMany" 263 (.ref 68),hE P "Crossing" 290 (.ref 87),hE P "Absent" 315 (.ref 106),hE P "NoText" 340 (.ref 125),hE P "NoRow" 356 (.ref 137)]
noncomputable def en3_2(P:Gq):List HL:=[hE P "greatest_divisor" 366 (.ref 146),hE P "fraction" 375 (.ref 153),hE P "plus" 383 (.ref 160),hE P "less" 391 (.ref 167),hE P "times" 399 (.ref 174),hE P "over" 407 (.ref 181),hE P "is_less" 415 (.ref 188),hE P "is_ahead" 425 (.ref 195)]
noncomputable def en3_3(P:Gq):List HL:=[hE P "later_of" 433 (.ref 202),hE P "earlier_of" 441 (.ref 209),hE P "own_spot" 450 (.ref 216),hE P "own_wall" 457 (.ref 223),hE P "gap" 465 (.ref 230),hE P "lean" 483 (.ref 237),hE P "side_of" 492 (.ref 244),hE P "MOST_WALLS" 496 (.int 40 495)]
noncomputable def en3_4(P:Gq):List HL:=[hE P "meeting" 506 (.ref 251),hE P "meeting_in_line" 516 (.ref 258),hE P "crossing_spot" 530 (.ref 265),hE P "number_between" 539 (.ref 272),hE P "meet_as_in_plots" 548 (.ref 279),hE P "first_crossed" 558 (.ref 286),hE P "MOST_FIGURES" 562 (.int 30 561),hE P "read_number" 568 (.ref 291)]
noncomputable def en3_5(P:Gq):List HL:=[hE P "read_top" 576 (.ref 298),hE P "read_fraction" 588 (.ref 305),hE P "read_spots" 594 (.ref 310),hE P "read_wall" 604 (.ref 317),hE P "rows_of" 611 (.ref 324),hE P "read_questions" 624 (.ref 331),hE P "_law_cell_at" 634 (.ref 338),hE P "_law_take" 644 (.ref 345)]
noncomputable def en3_6(P:Gq):List HL:=[hE P "_law_low" 654 (.ref 352),hE P "_law_number" 665 (.ref 359),hE P "_law_scale" 675 (.ref 366),hE P "_law_spot" 687 (.ref 373),hE P "_law_made" 693 (.ref 378),hE P "_law_turn" 705 (.ref 385),hE P "_law_on" 713 (.ref 392),hE P "_law_fair" 719 (.ref 397)]
noncomputable def en3_7(P:Gq):List HL:=[hE P "_law_shuts_here" 725 (.ref 402),hE P "_law_shown" 732 (.ref 409),hE P "_law_rows" 738 (.ref 414),hE P "_law_is_whole" 744 (.ref 419),hE P "_law_fraction" 754 (.ref 426),hE P "_law_shut_in" 760 (.ref 431),hE P "_law_bent" 777 (.ref 438),hE P "_law_cross" 798 (.ref 445)]
noncomputable def en3_8(P:Gq):List HL:=[hE P "_law_before" 806 (.ref 452),hE P "_law_fits" 812 (.ref 457),hE P "_law_alone" 821 (.ref 464),hE P "_law_heard" 831 (.ref 471),hE P "_law_due" 837 (.ref 476),hE P "law" 843 (.ref 481)]
noncomputable def en3(P:Gq):List HL:=en3_0 P++(en3_1 P++(en3_2 P++(en3_3 P++(en3_4 P++(en3_5 P++(en3_6 P++(en3_7 P++(en3_8 P))))))))
noncomputable def fl12:List G0:=[(.int 2 0),(.int 0 0),(.ref 20),(.int 4 0),(.int 0 0),(.ref 33),(.int 6 0),(.int 0 0),(.ref 45),(.int 8 0),(.int 0 0),(.ref 57),(.int 13 0),(.int 0 0),(.ref 76),(.int 19 0),(.int 0 0),(.ref 95),(.int 24 0),(.int 0 0),(.ref 114),(.int 29 0),(.int 0 0),(.ref 133),(.int 32 0),(.int 0 0),(.ref 145),(.int 36 0),(.int 0 0),(.ref 152),(.int 43 0),(.int 0 0),(.ref 159),(.int 45 0),(.int 0 0),(.ref 166),(.int 47 0),(.int 0 0),(.ref 173),(.int 49 0),(.int 0 0),(.ref 180),(.int 51 0),(.int 0 0),(.ref 187),(.int 54 0),(.int 0 0),(.ref 194),(.int 58 0),(.int 0 0),(.ref 201),(.int 60 0),(.int 0 0),(.ref 208),(.int 62 0),(.int 0 0),(.ref 215),(.int 65 0),(.int 0 0),(.ref 222),(.int 67 0),(.int 0 0),(.ref 229),(.int 69 0),(.int 0 0),(.ref 236),(.int 75 0),(.int 0 0),(.ref 243),(.int 84 0),(.int 0 0),(.ref 250),(.int 91 0),(.int 0 0),(.ref 257),(.int 99 0),(.int 0 0),(.ref 264),(.int 106 0),(.int 0 0),(.ref 271),(.int 108 0),(.int 0 0),(.ref 278),(.int 113 0),(.int 0 0),(.ref 285),(.int 120 0),(.int 0 0),(.ref 290),(.int 126 0),(.int 0 0),(.ref 297),(.int 131 0),(.int 0 0),(.ref 304),(.int 140 0),(.int 0 0),(.ref 309),(.int 146 0),(.int 0 0),(.ref 316),(.int 154 0),(.int 0 0),(.ref 323),(.int 156 0),(.int 0 0),(.ref 330),(.int 169 0),(.int 0 0),(.ref 337),(.int 173 0),(.int 0 0),(.ref 344),(.int 182 0),(.int 0 0),(.ref 351),(.int 190 0),(.int 0 0),(.ref 358),(.int 196 0),(.int 0 0),(.ref 365),(.int 202 0),(.int 0 0),(.ref 372),(.int 205 0),(.int 0 0),(.ref 377),(.int 207 0),(.int 0 0),(.ref 384),(.int 212 0),(.int 0 0),(.ref 391),(.int 214 0),(.int 0 0),(.ref 396),(.int 224 0),(.int 0 0),(.ref 401),(.int 235 0),(.int 0 0),(.ref 408),(.int 237 0),(.int 0 0),(.ref 413),(.int 239 0),(.int 0 0),(.ref 418),(.int 243 0),(.int 0 0),(.ref 425),(.int 256 0),(.int 0 0),(.ref 430),(.int 267 0),(.int 0 0),(.ref 437),(.int 298 0),(.int 0 0),(.ref 444),(.int 307 0),(.int 0 0),(.ref 451),(.int 311 0),(.int 0 0),(.ref 456),(.int 322 0),(.int 0 0),(.ref 463),(.int 327 0),(.int 0 0),(.ref 470),(.int 339 0),(.int 0 0),(.ref 475),(.int 355 0),(.int 0 0),(.ref 480)]
noncomputable def hC(n:Str)(s0 s1 s2 s18 r8 r11 r13 r14 r15 i3 i4 i5 i6 i7 i10 i16 i17:Nat)(b9:Bool):Obj:={ cls:=.type "code",data:=.fields #[.str n s0,.str n s1,.str "/claim/cut.py" s2,.int (Jk i3) 0,.int (Jk i4) 0,.int (Jk i5) 0,.int (Jk i6) 0,.int (Jk i7) 0,.ref r8,.bool b9,.int (Jk i10) 0,.ref r11,.none,.ref r13,.ref r14,.ref r15,.int (Jk i16) 0,.int (Jk i17) 0,.str "/claim/cut.py" s18] }
noncomputable def hF(t:G0)(s:Stmt)(n:Str)(g:Nat)(m c:G0):Obj:={ cls:=t,data:=.func (kU s n n g m c) }
noncomputable def zzH(s:Stmt)(n:Str)(m:G0)(r:Nat):Obj:=hF (.type "function") s n 3 m (.ref r)
noncomputable def ob11:Obj:=kTu []
noncomputable def ob12:Obj:={ cls:=.none,data:=.fields (Gv (fl12.take 0)) }
noncomputable def ob13:Obj:=zzD "<module>" "<module>" 182 183 184 1 0 0 11 false 12 .none .none .none 185 186
noncomputable def ob14:Obj:={ cls:=(.type "frame"),slots:=#[(some (.ref 13)),(some (.ref 3)),(some (.ref 3)),none,(some (.str "__main__" 164)),none,(some (.ref 0))] }
noncomputable def ob15(P:Gq):Obj:=zzM 10 (hE P "__name__" 165 zzE::(en3 P).take 9)
noncomputable def ob16:Obj:={ cls:=.none,data:=.fields (Gv (fl12.take 3)) }
noncomputable def ob17:Obj:=kTu [(.type "ValueError")]
noncomputable def ob18:Obj:={ cls:=(.type "builtin_function_or_method"),data:=(.fields #[(.builtin "type.__prepare__"),(.type "type")]) }
noncomputable def ob19(P:Gq):Obj:=zzM 4 [hE P "__module__" 196 zzE,hE P "__qualname__" 198 (.str "SpotError" 197),hE P "__firstlineno__" 200 (.int 2 199),hE P "__static_attributes__" 201 (.ref 22)]
noncomputable def ob20:Obj:=zzD "SpotError" "SpotError" 191 192 193 2 0 0 18 false 19 .none .none .none 194 195
noncomputable def ob21:Obj:={ cls:=(.type "frame"),slots:=#[(some (.ref 20)),(some (.ref 3)),(some (.ref 17)),none,(some zzE),none,(some (.ref 0))] }
noncomputable def ob22(P:Gq):Obj:=zzM 3 [hE P "__module__" 196 zzE,hE P "__firstlineno__" 200 (.int 2 199),hE P "__static_attributes__" 201 (.ref 22),hE P "__weakref__" 203 (.ref 25),hE P "__doc__" 204 .none]
noncomputable def ob23:Obj:={ cls:=(.type "type"),data:=(.cls { name:="SpotError",bases:=[(.type "ValueError")],mro:=[(.ref 24),(.type "ValueError"),(.type "Exception"),(.type "BaseException"),(.type "object")],ns:=23,qualname:="SpotError",hasDict:=true,slotNames:=[],subclasses:=[],abstract:=false,collection:=none,hasDel:=false }),slots:=#[(some (.ref 15)),none,(some (.str "SpotError" 189)),(some (.str "SpotError" 197)),(some (.builtin "ValueError.__new__")),(some (.bool true))] }
noncomputable def ob24:Obj:={ cls:=(.type "getset_descriptor"),data:=(.fields #[(.str "__weakref__" 202),(.ref 24),(.builtin "ExceptionGroup.__weakref__"),.none]) }
noncomputable def ob25:Obj:={ cls:=(.type "super"),data:=(.fields #[(.ref 24),(.ref 24),(.ref 24)]) }
noncomputable def ob26:Obj:={ cls:=(.type "builtin_function_or_method"),data:=(.fields #[(.builtin "object.__init_subclass__"),(.ref 24)]) }
noncomputable def ob27(P:Gq):Obj:=zzM 11 (hE P "__name__" 165 zzE::(en3 P).take 10)
noncomputable def ob28:Obj:={ cls:=.none,data:=.fields (Gv (fl12.take 6)) }
noncomputable def ob29:Obj:={ cls:=(.type "type"),data:=(.cls { name:="SpotError",bases:=[(.type "ValueError")],mro:=[(.ref 24),(.type "ValueError"),(.type "Exception"),(.type "BaseException"),(.type "object")],ns:=23,qualname:="SpotError",hasDict:=true,slotNames:=[],subclasses:=[(.ref 37)],abstract:=false,collection:=none,hasDel:=false }),slots:=#[(some (.ref 15)),none,(some (.str "SpotError" 189)),(some (.str "SpotError" 197)),(some (.builtin "ValueError.__new__")),(some (.bool true))] }
noncomputable def ob30:Obj:=kTu [(.ref 24)]
noncomputable def ob31(P:Gq):Obj:=zzM 4 [hE P "__module__" 214 zzE,hE P "__qualname__" 216 (.str "NoFraction" 215),hE P "__firstlineno__" 218 (.int 4 217),hE P "__static_attributes__" 219 (.ref 35)]
noncomputable def ob32:Obj:=zzD "NoFraction" "NoFraction" 209 210 211 4 0 0 31 false 32 .none .none .none 212 213
noncomputable def ob33:Obj:={ cls:=(.type "frame"),slots:=#[(some (.ref 33)),(some (.ref 3)),(some (.ref 30)),none,(some zzE),none,(some (.ref 0))] }
noncomputable def ob34(P:Gq):Obj:=zzM 2 [hE P "__module__" 214 zzE,hE P "__firstlineno__" 218 (.int 4 217),hE P "__static_attributes__" 219 (.ref 35),hE P "__doc__" 220 .none]
noncomputable def ob35:Obj:=zzK "NoFraction" 37 36 28 207 215
noncomputable def ob36:Obj:={ cls:=(.type "super"),data:=(.fields #[(.ref 37),(.ref 37),(.ref 37)]) }
noncomputable def ob37:Obj:={ cls:=(.type "builtin_function_or_method"),data:=(.fields #[(.builtin "object.__init_subclass__"),(.ref 37)]) }
noncomputable def ob38(P:Gq):Obj:=zzM 12 (hE P "__name__" 165 zzE::(en3 P).take 11)
noncomputable def ob39:Obj:={ cls:=.none,data:=.fields (Gv (fl12.take 9)) }
noncomputable def ob40:Obj:={ cls:=(.type "type"),data:=(.cls { name:="SpotError",bases:=[(.type "ValueError")],mro:=[(.ref 24),(.type "ValueError"),(.type "Exception"),(.type "BaseException"),(.type "object")],ns:=23,qualname:="SpotError",hasDict:=true,slotNames:=[],subclasses:=[(.ref 37),(.ref 49)],abstract:=false,collection:=none,hasDel:=false }),slots:=#[(some (.ref 15)),none,(some (.str "SpotError" 189)),(some (.str "SpotError" 197)),(some (.builtin "ValueError.__new__")),(some (.bool true))] }
noncomputable def ob41(P:Gq):Obj:=zzM 4 [hE P "__module__" 230 zzE,hE P "__qualname__" 232 (.str "NoWall" 231),hE P "__firstlineno__" 234 (.int 6 233),hE P "__static_attributes__" 235 (.ref 47)]
noncomputable def ob42:Obj:=zzD "NoWall" "NoWall" 225 226 227 6 0 0 43 false 44 .none .none .none 228 229
noncomputable def ob43:Obj:={ cls:=(.type "frame"),slots:=#[(some (.ref 45)),(some (.ref 3)),(some (.ref 42)),none,(some zzE),none,(some (.ref 0))] }
noncomputable def ob44(P:Gq):Obj:=zzM 2 [hE P "__module__" 230 zzE,hE P "__firstlineno__" 234 (.int 6 233),hE P "__static_attributes__" 235 (.ref 47),hE P "__doc__" 236 .none]
noncomputable def ob45:Obj:=zzK "NoWall" 49 48 40 223 231
noncomputable def ob46:Obj:={ cls:=(.type "super"),data:=(.fields #[(.ref 49),(.ref 49),(.ref 49)]) }
noncomputable def ob47:Obj:={ cls:=(.type "builtin_function_or_method"),data:=(.fields #[(.builtin "object.__init_subclass__"),(.ref 49)]) }
noncomputable def ob48(P:Gq):Obj:=zzM 13 (hE P "__name__" 165 zzE::(en3 P).take 12)
noncomputable def ob49:Obj:={ cls:=.none,data:=.fields (Gv (fl12.take 12)) }
noncomputable def ob50:Obj:={ cls:=(.type "type"),data:=(.cls { name:="SpotError",bases:=[(.type "ValueError")],mro:=[(.ref 24),(.type "ValueError"),(.type "Exception"),(.type "BaseException"),(.type "object")],ns:=23,qualname:="SpotError",hasDict:=true,slotNames:=[],subclasses:=[(.ref 37),(.ref 49),(.ref 68)],abstract:=false,collection:=none,hasDel:=false }),slots:=#[(some (.ref 15)),none,(some (.str "SpotError" 189)),(some (.str "SpotError" 197)),(some (.builtin "ValueError.__new__")),(some (.bool true))] }
noncomputable def ob51(P:Gq):Obj:=zzM 5 [hE P "__module__" 246 zzE,hE P "__qualname__" 248 (.str "TooMany" 247),hE P "__firstlineno__" 250 (.int 8 249),hE P "__init__" 258 (.ref 65),hE P "__static_attributes__" 260 (.ref 66)]
noncomputable def ob52:Obj:=kFd [(.int 10 0),(.int 4 0),(.ref 64)]
noncomputable def ob53:Obj:=zzD "TooMany" "TooMany" 241 242 243 8 0 0 55 false 56 .none .none .none 244 245
noncomputable def ob54:Obj:={ cls:=(.type "frame"),slots:=#[(some (.ref 57)),(some (.ref 3)),(some (.ref 54)),none,(some zzE),none,(some (.ref 0))] }
noncomputable def ob55:Obj:=kTu [(.str "self" 254),(.str "count" 255)]
noncomputable def ob56:Obj:={ cls:=.none,data:=(.func (kU (kC st4 0) "__init__" "TooMany.__init__" 0 .none .none)) }
noncomputable def ob57:Obj:=zzD "__init__" "TooMany.__init__" 251 252 253 10 2 3 59 true 60 (.ref 61) (.ref 62) (.ref 63) 256 257
noncomputable def ob58:Obj:={ cls:=(.type "function"),data:=(.func (kU (kC st4 0) "__init__" "TooMany.__init__" 3 zzE (.ref 64))) }
noncomputable def ob59:Obj:=kTu [(.str "count" 259)]
noncomputable def ob60(P:Gq):Obj:=zzM 2 [hE P "__module__" 246 zzE,hE P "__firstlineno__" 250 (.int 8 249),hE P "__init__" 258 (.ref 65),hE P "__static_attributes__" 260 (.ref 66),hE P "__doc__" 261 .none]
noncomputable def ob61:Obj:=zzK "TooMany" 68 67 52 239 247
noncomputable def ob62:Obj:={ cls:=(.type "super"),data:=(.fields #[(.ref 68),(.ref 68),(.ref 68)]) }
noncomputable def ob63:Obj:={ cls:=(.type "builtin_function_or_method"),data:=(.fields #[(.builtin "object.__init_subclass__"),(.ref 68)]) }
noncomputable def ob64(P:Gq):Obj:=zzM 14 (hE P "__name__" 165 zzE::(en3 P).take 13)
noncomputable def ob65:Obj:={ cls:=.none,data:=.fields (Gv (fl12.take 15)) }
noncomputable def ob66:Obj:={ cls:=(.type "type"),data:=(.cls { name:="SpotError",bases:=[(.type "ValueError")],mro:=[(.ref 24),(.type "ValueError"),(.type "Exception"),(.type "BaseException"),(.type "object")],ns:=23,qualname:="SpotError",hasDict:=true,slotNames:=[],subclasses:=[(.ref 37),(.ref 49),(.ref 68),(.ref 87)],abstract:=false,collection:=none,hasDel:=false }),slots:=#[(some (.ref 15)),none,(some (.str "SpotError" 189)),(some (.str "SpotError" 197)),(some (.builtin "ValueError.__new__")),(some (.bool true))] }
noncomputable def ob67(P:Gq):Obj:=zzM 5 [hE P "__module__" 271 zzE,hE P "__qualname__" 273 (.str "Crossing" 272),hE P "__firstlineno__" 275 (.int 13 274),hE P "__init__" 284 (.ref 84),hE P "__static_attributes__" 287 (.ref 85)]
noncomputable def ob68:Obj:=kFd [(.int 15 0),(.int 4 0),(.ref 83)]
noncomputable def ob69:Obj:=zzD "Crossing" "Crossing" 266 267 268 13 0 0 74 false 75 .none .none .none 269 270
noncomputable def ob70:Obj:={ cls:=(.type "frame"),slots:=#[(some (.ref 76)),(some (.ref 3)),(some (.ref 73)),none,(some zzE),none,(some (.ref 0))] }
noncomputable def ob71:Obj:=kTu [(.str "self" 279),(.str "wall" 280),(.str "other" 281)]
noncomputable def ob72:Obj:={ cls:=.none,data:=(.func (kU (kC st5 0) "__init__" "Crossing.__init__" 0 .none .none)) }
noncomputable def ob73:Obj:=zzD "__init__" "Crossing.__init__" 276 277 278 15 3 3 78 true 79 (.ref 80) (.ref 81) (.ref 82) 282 283
noncomputable def ob74:Obj:={ cls:=(.type "function"),data:=(.func (kU (kC st5 0) "__init__" "Crossing.__init__" 3 zzE (.ref 83))) }
noncomputable def ob75:Obj:=kTu [(.str "other" 285),(.str "wall" 286)]
noncomputable def ob76(P:Gq):Obj:=zzM 2 [hE P "__module__" 271 zzE,hE P "__firstlineno__" 275 (.int 13 274),hE P "__init__" 284 (.ref 84),hE P "__static_attributes__" 287 (.ref 85),hE P "__doc__" 288 .none]
noncomputable def ob77:Obj:=zzK "Crossing" 87 86 71 264 272
noncomputable def ob78:Obj:={ cls:=(.type "super"),data:=(.fields #[(.ref 87),(.ref 87),(.ref 87)]) }
noncomputable def ob79:Obj:={ cls:=(.type "builtin_function_or_method"),data:=(.fields #[(.builtin "object.__init_subclass__"),(.ref 87)]) }
noncomputable def ob80(P:Gq):Obj:=zzM 15 (hE P "__name__" 165 zzE::(en3 P).take 14)
noncomputable def ob81:Obj:={ cls:=.none,data:=.fields (Gv (fl12.take 18)) }
noncomputable def ob82:Obj:={ cls:=(.type "type"),data:=(.cls { name:="SpotError",bases:=[(.type "ValueError")],mro:=[(.ref 24),(.type "ValueError"),(.type "Exception"),(.type "BaseException"),(.type "object")],ns:=23,qualname:="SpotError",hasDict:=true,slotNames:=[],subclasses:=[(.ref 37),(.ref 49),(.ref 68),(.ref 87),(.ref 106)],abstract:=false,collection:=none,hasDel:=false }),slots:=#[(some (.ref 15)),none,(some (.str "SpotError" 189)),(some (.str "SpotError" 197)),(some (.builtin "ValueError.__new__")),(some (.bool true))] }
noncomputable def ob83(P:Gq):Obj:=zzM 5 [hE P "__module__" 298 zzE,hE P "__qualname__" 300 (.str "Absent" 299),hE P "__firstlineno__" 302 (.int 19 301),hE P "__init__" 310 (.ref 103),hE P "__static_attributes__" 312 (.ref 104)]
noncomputable def ob84:Obj:=kFd [(.int 21 0),(.int 4 0),(.ref 102)]
noncomputable def ob85:Obj:=zzD "Absent" "Absent" 293 294 295 19 0 0 93 false 94 .none .none .none 296 297
noncomputable def ob86:Obj:={ cls:=(.type "frame"),slots:=#[(some (.ref 95)),(some (.ref 3)),(some (.ref 92)),none,(some zzE),none,(some (.ref 0))] }
noncomputable def ob87:Obj:=kTu [(.str "self" 306),(.str "number" 307)]
noncomputable def ob88:Obj:={ cls:=.none,data:=(.func (kU (kC st6 0) "__init__" "Absent.__init__" 0 .none .none)) }
noncomputable def ob89:Obj:=zzD "__init__" "Absent.__init__" 303 304 305 21 2 3 97 true 98 (.ref 99) (.ref 100) (.ref 101) 308 309
noncomputable def ob90:Obj:={ cls:=(.type "function"),data:=(.func (kU (kC st6 0) "__init__" "Absent.__init__" 3 zzE (.ref 102))) }
noncomputable def ob91:Obj:=kTu [(.str "number" 311)]
noncomputable def ob92(P:Gq):Obj:=zzM 2 [hE P "__module__" 298 zzE,hE P "__firstlineno__" 302 (.int 19 301),hE P "__init__" 310 (.ref 103),hE P "__static_attributes__" 312 (.ref 104),hE P "__doc__" 313 .none]
noncomputable def ob93:Obj:=zzK "Absent" 106 105 90 291 299
noncomputable def ob94:Obj:={ cls:=(.type "super"),data:=(.fields #[(.ref 106),(.ref 106),(.ref 106)]) }
noncomputable def ob95:Obj:={ cls:=(.type "builtin_function_or_method"),data:=(.fields #[(.builtin "object.__init_subclass__"),(.ref 106)]) }
noncomputable def ob96(P:Gq):Obj:=zzM 16 (hE P "__name__" 165 zzE::(en3 P).take 15)
noncomputable def ob97:Obj:={ cls:=.none,data:=.fields (Gv (fl12.take 21)) }
noncomputable def ob98:Obj:={ cls:=(.type "type"),data:=(.cls { name:="SpotError",bases:=[(.type "ValueError")],mro:=[(.ref 24),(.type "ValueError"),(.type "Exception"),(.type "BaseException"),(.type "object")],ns:=23,qualname:="SpotError",hasDict:=true,slotNames:=[],subclasses:=[(.ref 37),(.ref 49),(.ref 68),(.ref 87),(.ref 106),(.ref 125)],abstract:=false,collection:=none,hasDel:=false }),slots:=#[(some (.ref 15)),none,(some (.str "SpotError" 189)),(some (.str "SpotError" 197)),(some (.builtin "ValueError.__new__")),(some (.bool true))] }
noncomputable def ob99(P:Gq):Obj:=zzM 5 [hE P "__module__" 323 zzE,hE P "__qualname__" 325 (.str "NoText" 324),hE P "__firstlineno__" 327 (.int 24 326),hE P "__init__" 335 (.ref 122),hE P "__static_attributes__" 337 (.ref 123)]
noncomputable def ob100:Obj:=kFd [(.int 26 0),(.int 4 0),(.ref 121)]
noncomputable def ob101:Obj:=zzD "NoText" "NoText" 318 319 320 24 0 0 112 false 113 .none .none .none 321 322
noncomputable def ob102:Obj:={ cls:=(.type "frame"),slots:=#[(some (.ref 114)),(some (.ref 3)),(some (.ref 111)),none,(some zzE),none,(some (.ref 0))] }
noncomputable def ob103:Obj:=kTu [(.str "self" 331),(.str "row" 332)]
noncomputable def ob104:Obj:={ cls:=.none,data:=(.func (kU (kC st7 0) "__init__" "NoText.__init__" 0 .none .none)) }
noncomputable def ob105:Obj:=zzD "__init__" "NoText.__init__" 328 329 330 26 2 3 116 true 117 (.ref 118) (.ref 119) (.ref 120) 333 334
noncomputable def ob106:Obj:={ cls:=(.type "function"),data:=(.func (kU (kC st7 0) "__init__" "NoText.__init__" 3 zzE (.ref 121))) }
noncomputable def ob107:Obj:=kTu [(.str "row" 336)]
noncomputable def ob108(P:Gq):Obj:=zzM 2 [hE P "__module__" 323 zzE,hE P "__firstlineno__" 327 (.int 24 326),hE P "__init__" 335 (.ref 122),hE P "__static_attributes__" 337 (.ref 123),hE P "__doc__" 338 .none]
noncomputable def ob109:Obj:=zzK "NoText" 125 124 109 316 324
noncomputable def ob110:Obj:={ cls:=(.type "super"),data:=(.fields #[(.ref 125),(.ref 125),(.ref 125)]) }
noncomputable def ob111:Obj:={ cls:=(.type "builtin_function_or_method"),data:=(.fields #[(.builtin "object.__init_subclass__"),(.ref 125)]) }
noncomputable def ob112(P:Gq):Obj:=zzM 22 (hE P "__name__" 165 (.str "spotlook.fractions" 357)::(en3 P).take 21)
noncomputable def ob113:Obj:={ cls:=.none,data:=.fields (Gv (fl12.take 39)) }
noncomputable def ob114:Obj:={ cls:=(.type "type"),data:=(.cls { name:="SpotError",bases:=[(.type "ValueError")],mro:=[(.ref 24),(.type "ValueError"),(.type "Exception"),(.type "BaseException"),(.type "object")],ns:=23,qualname:="SpotError",hasDict:=true,slotNames:=[],subclasses:=[(.ref 37),(.ref 49),(.ref 68),(.ref 87),(.ref 106),(.ref 125),(.ref 137)],abstract:=false,collection:=none,hasDel:=false }),slots:=#[(some (.ref 15)),none,(some (.str "SpotError" 189)),(some (.str "SpotError" 197)),(some (.builtin "ValueError.__new__")),(some (.bool true))] }
noncomputable def ob115(P:Gq):Obj:=zzM 4 [hE P "__module__" 348 zzE,hE P "__qualname__" 350 (.str "NoRow" 349),hE P "__firstlineno__" 352 (.int 29 351),hE P "__static_attributes__" 353 (.ref 135)]
noncomputable def ob116:Obj:=zzD "NoRow" "NoRow" 343 344 345 29 0 0 131 false 132 .none .none .none 346 347
noncomputable def ob117:Obj:={ cls:=(.type "frame"),slots:=#[(some (.ref 133)),(some (.ref 3)),(some (.ref 130)),none,(some zzE),none,(some (.ref 0))] }
noncomputable def ob118(P:Gq):Obj:=zzM 2 [hE P "__module__" 348 zzE,hE P "__firstlineno__" 352 (.int 29 351),hE P "__static_attributes__" 353 (.ref 135),hE P "__doc__" 354 .none]
noncomputable def ob119:Obj:=zzK "NoRow" 137 136 128 341 349
noncomputable def ob120:Obj:={ cls:=(.type "super"),data:=(.fields #[(.ref 137),(.ref 137),(.ref 137)]) }
noncomputable def ob121:Obj:={ cls:=(.type "builtin_function_or_method"),data:=(.fields #[(.builtin "object.__init_subclass__"),(.ref 137)]) }
noncomputable def ob122:Obj:=kTu [(.str "one" 362),(.str "other" 363)]
noncomputable def ob123:Obj:=hF .none st10 "greatest_divisor" 0 .none .none
noncomputable def ob124:Obj:=hC "greatest_divisor" 359 360 361 365 140 141 142 143 144 32 2 0 0 3 181 364 32 true
noncomputable def ob125:Obj:=zzH st10 "greatest_divisor" (.str "spotlook.fractions" 357) 145
noncomputable def ob126:Obj:=kTu [(.str "top" 370),(.str "bottom" 371),(.str "divisor" 372)]
noncomputable def ob127:Obj:=hF .none st11 "fraction" 0 .none .none
noncomputable def ob128:Obj:=hC "fraction" 367 368 369 374 147 148 149 150 151 36 2 0 0 3 181 373 36 true
noncomputable def ob129:Obj:=zzH st11 "fraction" (.str "spotlook.fractions" 357) 152
noncomputable def ob130:Obj:=kTu [(.str "one" 379),(.str "other" 380)]
noncomputable def ob131:Obj:=hF .none st12 "plus" 0 .none .none
noncomputable def ob132:Obj:=hC "plus" 376 377 378 382 154 155 156 157 158 43 2 0 0 3 181 381 43 true
noncomputable def ob133:Obj:=zzH st12 "plus" (.str "spotlook.fractions" 357) 159
noncomputable def ob134:Obj:=kTu [(.str "one" 387),(.str "other" 388)]
noncomputable def ob135:Obj:=hF .none st13 "less" 0 .none .none
noncomputable def ob136:Obj:=hC "less" 384 385 386 390 161 162 163 164 165 45 2 0 0 3 181 389 45 true
noncomputable def ob137:Obj:=zzH st13 "less" (.str "spotlook.fractions" 357) 166
noncomputable def ob138:Obj:=kTu [(.str "one" 395),(.str "other" 396)]
noncomputable def ob139:Obj:=hF .none st14 "times" 0 .none .none
noncomputable def ob140:Obj:=hC "times" 392 393 394 398 168 169 170 171 172 47 2 0 0 3 181 397 47 true
noncomputable def ob141:Obj:=zzH st14 "times" (.str "spotlook.fractions" 357) 173
noncomputable def ob142(P:Gq):Obj:=zzM 34 (hE P "__name__" 165 (.str "spotlook.plots" 493)::(en3 P).take 33)
noncomputable def ob143:Obj:={ cls:=.none,data:=.fields (Gv (fl12.take 72)) }
noncomputable def ob144:Obj:=kTu [(.str "one" 403),(.str "other" 404)]
noncomputable def ob145:Obj:=hF .none st15 "over" 0 .none .none
noncomputable def ob146:Obj:=hC "over" 400 401 402 406 175 176 177 178 179 49 2 0 0 3 181 405 49 true
noncomputable def ob147:Obj:=zzH st15 "over" (.str "spotlook.fractions" 357) 180
noncomputable def ob148:Obj:=kTu [(.str "one" 411),(.str "other" 412)]
noncomputable def ob149:Obj:=hF .none st16 "is_less" 0 .none .none
noncomputable def ob150:Obj:=hC "is_less" 408 409 410 414 182 183 184 185 186 51 2 0 0 3 181 413 51 true
noncomputable def ob151:Obj:=zzH st16 "is_less" (.str "spotlook.fractions" 357) 187
noncomputable def ob152:Obj:=kTu [(.str "one" 421),(.str "other" 422)]
noncomputable def ob153:Obj:=hF .none st18 "is_ahead" 0 .none .none
noncomputable def ob154:Obj:=hC "is_ahead" 418 419 420 424 189 190 191 192 193 54 2 0 0 3 181 423 54 true
noncomputable def ob155:Obj:=zzH st18 "is_ahead" (.str "spotlook.spots" 416) 194
noncomputable def ob156:Obj:=kTu [(.str "one" 429),(.str "other" 430)]
noncomputable def ob157:Obj:=hF .none st19 "later_of" 0 .none .none
noncomputable def ob158:Obj:=hC "later_of" 426 427 428 432 196 197 198 199 200 58 2 0 0 3 181 431 58 true
noncomputable def ob159:Obj:=zzH st19 "later_of" (.str "spotlook.spots" 416) 201
noncomputable def ob160:Obj:=kTu [(.str "one" 437),(.str "other" 438)]
noncomputable def ob161:Obj:=hF .none st20 "earlier_of" 0 .none .none
noncomputable def ob162:Obj:=hC "earlier_of" 434 435 436 440 203 204 205 206 207 60 2 0 0 3 181 439 60 true
noncomputable def ob163:Obj:=zzH st20 "earlier_of" (.str "spotlook.spots" 416) 208
noncomputable def ob164:Obj:=kTu [(.str "spot" 445),(.str "x" 446),(.str "y" 447)]
noncomputable def ob165:Obj:=hF .none st21 "own_spot" 0 .none .none
noncomputable def ob166:Obj:=hC "own_spot" 442 443 444 449 210 211 212 213 214 62 1 0 0 3 181 448 62 true
noncomputable def ob167:Obj:=zzH st21 "own_spot" (.str "spotlook.spots" 416) 215
noncomputable def ob168:Obj:=kTu [(.str "wall" 454)]
noncomputable def ob169:Obj:=hF .none st22 "own_wall" 0 .none .none
noncomputable def ob170:Obj:=hC "own_wall" 451 452 453 456 217 218 219 220 221 65 1 0 0 3 181 455 65 true
noncomputable def ob171:Obj:=zzH st22 "own_wall" (.str "spotlook.spots" 416) 222
noncomputable def ob172:Obj:=kTu [(.str "one" 461),(.str "other" 462)]
noncomputable def ob173:Obj:=hF .none st23 "gap" 0 .none .none
noncomputable def ob174:Obj:=hC "gap" 458 459 460 464 224 225 226 227 228 67 2 0 0 3 181 463 67 true
noncomputable def ob175:Obj:=zzH st23 "gap" (.str "spotlook.spots" 416) 229
noncomputable def ob176:Obj:=kTu [(.str "wall" 469),(.str "spot" 470),(.str "a" 471),(.str "b" 472),(.str "c" 473),(.str "d" 474),(.str "x" 475),(.str "y" 476),(.str "across" 477),(.str "up" 478),(.str "along" 479),(.str "high" 480)]
noncomputable def ob177:Obj:=hF .none st24 "lean" 0 .none .none
noncomputable def ob178:Obj:=hC "lean" 466 467 468 482 231 232 233 234 235 69 2 0 0 3 181 481 69 true
noncomputable def ob179:Obj:=zzH st24 "lean" (.str "spotlook.spots" 416) 236
noncomputable def ob180:Obj:=kTu [(.str "wall" 487),(.str "spot" 488),(.str "top" 489)]
noncomputable def ob181:Obj:=hF .none st25 "side_of" 0 .none .none
noncomputable def ob182:Obj:=hC "side_of" 484 485 486 491 238 239 240 241 242 75 2 0 0 3 181 490 75 true
noncomputable def ob183:Obj:=zzH st25 "side_of" (.str "spotlook.spots" 416) 243
noncomputable def ob184:Obj:=kTu [(.str "one" 500),(.str "other" 501),(.str "first_side" 502),(.str "second_side" 503)]
noncomputable def ob185:Obj:=hF .none st28 "meeting" 0 .none .none
noncomputable def ob186:Obj:=hC "meeting" 497 498 499 505 245 246 247 248 249 84 2 0 0 3 181 504 84 true
noncomputable def ob187:Obj:=zzH st28 "meeting" (.str "spotlook.plots" 493) 250
noncomputable def ob188(P:Gq):Obj:=zzM 47 (hE P "__name__" 165 (.str "spotlook.texts" 559)::(en3 P).take 46)
noncomputable def ob189:Obj:={ cls:=.none,data:=.fields (Gv (fl12.take 108)) }
noncomputable def ob190:Obj:=kTu [(.str "one" 510),(.str "other" 511),(.str "start" 512),(.str "end" 513)]
noncomputable def ob191:Obj:=hF .none st29 "meeting_in_line" 0 .none .none
noncomputable def ob192:Obj:=hC "meeting_in_line" 507 508 509 515 252 253 254 255 256 91 2 0 0 3 181 514 91 true
noncomputable def ob193:Obj:=zzH st29 "meeting_in_line" (.str "spotlook.plots" 493) 257
noncomputable def ob194:Obj:=kTu [(.str "one" 520),(.str "other" 521),(.str "start" 522),(.str "end" 523),(.str "top" 524),(.str "bottom" 525),(.str "from_start" 526),(.str "share" 527)]
noncomputable def ob195:Obj:=hF .none st30 "crossing_spot" 0 .none .none
noncomputable def ob196:Obj:=hC "crossing_spot" 517 518 519 529 259 260 261 262 263 99 2 0 0 3 181 528 99 true
noncomputable def ob197:Obj:=zzH st30 "crossing_spot" (.str "spotlook.plots" 493) 264
noncomputable def ob198:Obj:=kTu [(.str "start" 534),(.str "end" 535),(.str "share" 536)]
noncomputable def ob199:Obj:=hF .none st31 "number_between" 0 .none .none
noncomputable def ob200:Obj:=hC "number_between" 531 532 533 538 266 267 268 269 270 106 3 0 0 3 181 537 106 true
noncomputable def ob201:Obj:=zzH st31 "number_between" (.str "spotlook.plots" 493) 271
noncomputable def ob202:Obj:=kTu [(.str "one" 543),(.str "other" 544),(.str "met" 545)]
noncomputable def ob203:Obj:=hF .none st32 "meet_as_in_plots" 0 .none .none
noncomputable def ob204:Obj:=hC "meet_as_in_plots" 540 541 542 547 273 274 275 276 277 108 2 0 0 3 181 546 108 true
noncomputable def ob205:Obj:=zzH st32 "meet_as_in_plots" (.str "spotlook.plots" 493) 278
noncomputable def ob206:Obj:=kTu [(.str "walls" 552),(.str "wall" 553),(.str "number" 554),(.str "other" 555)]
noncomputable def ob207:Obj:=hF .none st33 "first_crossed" 0 .none .none
noncomputable def ob208:Obj:=hC "first_crossed" 549 550 551 557 280 281 282 283 284 113 2 0 0 3 181 556 113 true
noncomputable def ob209:Obj:=zzH st33 "first_crossed" (.str "spotlook.plots" 493) 285
noncomputable def ob210:Obj:=hF .none st36 "read_number" 0 .none .none
noncomputable def ob211:Obj:=zzD "read_number" "read_number" 563 564 565 120 1 3 287 true 288 .none .none (.ref 289) 566 567
noncomputable def ob212:Obj:=zzH st36 "read_number" (.str "spotlook.texts" 559) 290
noncomputable def ob213:Obj:=kTu [(.str "text" 572),(.str "number" 573)]
noncomputable def ob214:Obj:=hF .none st37 "read_top" 0 .none .none
noncomputable def ob215:Obj:=hC "read_top" 569 570 571 575 292 293 294 295 296 126 1 0 0 3 181 574 126 true
noncomputable def ob216:Obj:=zzH st37 "read_top" (.str "spotlook.texts" 559) 297
noncomputable def ob217:Obj:=kTu [(.str "text" 580),(.str "top_text" 581),(.str "stroke" 582),(.str "bottom_text" 583),(.str "top" 584),(.str "bottom" 585)]
noncomputable def ob218:Obj:=hF .none st38 "read_fraction" 0 .none .none
noncomputable def ob219:Obj:=hC "read_fraction" 577 578 579 587 299 300 301 302 303 131 1 0 0 3 181 586 131 true
noncomputable def ob220:Obj:=zzH st38 "read_fraction" (.str "spotlook.texts" 559) 304
noncomputable def ob221:Obj:=hF .none st39 "read_spots" 0 .none .none
noncomputable def ob222:Obj:=zzD "read_spots" "read_spots" 589 590 591 140 3 3 306 true 307 .none .none (.ref 308) 592 593
noncomputable def ob223:Obj:=zzH st39 "read_spots" (.str "spotlook.texts" 559) 309
noncomputable def ob224:Obj:=kTu [(.str "row" 598),(.str "walls" 599),(.str "spots" 600),(.str "wall" 601)]
noncomputable def ob225:Obj:=hF .none st40 "read_wall" 0 .none .none
noncomputable def ob226:Obj:=hC "read_wall" 595 596 597 603 311 312 313 314 315 146 2 0 0 3 181 602 146 true
noncomputable def ob227:Obj:=zzH st40 "read_wall" (.str "spotlook.texts" 559) 316
noncomputable def ob228:Obj:=kTu [(.str "text" 608)]
noncomputable def ob229:Obj:=hF .none st41 "rows_of" 0 .none .none
noncomputable def ob230:Obj:=hC "rows_of" 605 606 607 610 318 319 320 321 322 154 1 0 0 3 181 609 154 true
noncomputable def ob231:Obj:=zzH st41 "rows_of" (.str "spotlook.texts" 559) 323
noncomputable def ob232:Obj:=kTu [(.str "text" 615),(.str "walls" 616),(.str "spots" 617),(.str "at" 618),(.str "row" 619),(.str "asked" 620),(.str "wall" 621)]
noncomputable def ob233:Obj:=hF .none st42 "read_questions" 0 .none .none
noncomputable def ob234:Obj:=hC "read_questions" 612 613 614 623 325 326 327 328 329 156 1 0 0 3 181 622 156 true
noncomputable def ob235:Obj:=zzH st42 "read_questions" (.str "spotlook.texts" 559) 330
noncomputable def ob236(P:Gq):Obj:=zzM 60 (hE P "__name__" 165 zzN::(en3 P).take 59)
noncomputable def ob237:Obj:={ cls:=.none,data:=.fields (Gv (fl12.take 147)) }
noncomputable def ob238:Obj:=kTu [(.str "_law_script" 630),(.str "_law_k" 631)]
noncomputable def ob239:Obj:=hF .none st44 "_law_cell_at" 0 .none .none
noncomputable def ob240:Obj:=hC "_law_cell_at" 627 628 629 633 332 333 334 335 336 169 2 0 0 3 181 632 169 true
noncomputable def ob241:Obj:=zzH st44 "_law_cell_at" zzN 337
noncomputable def ob242:Obj:=kTu [(.str "_law_row" 638),(.str "_law_base" 639),(.str "_law_rest" 640),(.str "_law_number_here" 641)]
noncomputable def ob243:Obj:=hF .none st45 "_law_take" 0 .none .none
noncomputable def ob244:Obj:=hC "_law_take" 635 636 637 643 339 340 341 342 343 173 2 0 0 3 181 642 173 true
noncomputable def ob245:Obj:=zzH st45 "_law_take" zzN 344
noncomputable def ob246:Obj:=kTu [(.str "_law_top" 648),(.str "_law_bottom" 649),(.str "_law_one" 650),(.str "_law_other" 651)]
noncomputable def ob247:Obj:=hF .none st46 "_law_low" 0 .none .none
noncomputable def ob248:Obj:=hC "_law_low" 645 646 647 653 346 347 348 349 350 182 2 0 0 3 181 652 182 true
noncomputable def ob249:Obj:=zzH st46 "_law_low" zzN 351
noncomputable def ob250:Obj:=kTu [(.str "_law_row" 658),(.str "_law_kind" 659),(.str "_law_most" 660),(.str "_law_bottom" 661),(.str "_law_top" 662)]
noncomputable def ob251:Obj:=hF .none st47 "_law_number" 0 .none .none
noncomputable def ob252:Obj:=hC "_law_number" 655 656 657 664 353 354 355 356 357 190 1 0 0 3 181 663 190 true
noncomputable def ob253:Obj:=zzH st47 "_law_number" zzN 358
noncomputable def ob254:Obj:=kTu [(.str "_law_row" 669),(.str "_law_top" 670),(.str "_law_bottom" 671),(.str "_law_far" 672)]
noncomputable def ob255:Obj:=hF .none st48 "_law_scale" 0 .none .none
noncomputable def ob256:Obj:=hC "_law_scale" 666 667 668 674 360 361 362 363 364 196 1 0 0 3 181 673 196 true
noncomputable def ob257:Obj:=zzH st48 "_law_scale" zzN 365
noncomputable def ob258:Obj:=kTu [(.str "_law_scale_here" 679),(.str "_law_unit" 680),(.str "_law_top" 681),(.str "_law_bottom" 682),(.str "_law_x" 683),(.str "_law_y" 684)]
noncomputable def ob259:Obj:=hF .none st49 "_law_spot" 0 .none .none
noncomputable def ob260:Obj:=hC "_law_spot" 676 677 678 686 367 368 369 370 371 202 2 0 0 3 181 685 202 true
noncomputable def ob261:Obj:=zzH st49 "_law_spot" zzN 372
noncomputable def ob262:Obj:=hF .none st50 "_law_made" 0 .none .none
noncomputable def ob263:Obj:=zzD "_law_made" "_law_made" 688 689 690 205 2 3 374 true 375 .none .none (.ref 376) 691 692
noncomputable def ob264:Obj:=zzH st50 "_law_made" zzN 377
noncomputable def ob265:Obj:=kTu [(.str "_law_one" 697),(.str "_law_two" 698),(.str "_law_three" 699),(.str "_law_far" 700),(.str "_law_beside" 701),(.str "_law_found" 702)]
noncomputable def ob266:Obj:=hF .none st51 "_law_turn" 0 .none .none
noncomputable def ob267:Obj:=hC "_law_turn" 694 695 696 704 379 380 381 382 383 207 3 0 0 3 181 703 207 true
noncomputable def ob268:Obj:=zzH st51 "_law_turn" zzN 384
noncomputable def ob269:Obj:=kTu [(.str "_law_shut" 709),(.str "_law_spot_here" 710)]
noncomputable def ob270:Obj:=hF .none st52 "_law_on" 0 .none .none
noncomputable def ob271:Obj:=hC "_law_on" 706 707 708 712 386 387 388 389 390 212 2 0 0 3 181 711 212 true
noncomputable def ob272:Obj:=zzH st52 "_law_on" zzN 391
noncomputable def ob273:Obj:=hF .none st53 "_law_fair" 0 .none .none
noncomputable def ob274:Obj:=zzD "_law_fair" "_law_fair" 714 715 716 214 2 3 393 true 394 .none .none (.ref 395) 717 718
noncomputable def ob275:Obj:=zzH st53 "_law_fair" zzN 396
noncomputable def ob276:Obj:=hF .none st54 "_law_shuts_here" 0 .none .none
noncomputable def ob277:Obj:=zzD "_law_shuts_here" "_law_shuts_here" 720 721 722 224 3 3 398 true 399 .none .none (.ref 400) 723 724
noncomputable def ob278:Obj:=zzH st54 "_law_shuts_here" zzN 401
noncomputable def ob279:Obj:=kTu [(.str "_law_one" 729)]
noncomputable def ob280:Obj:=hF .none st55 "_law_shown" 0 .none .none
noncomputable def ob281:Obj:=hC "_law_shown" 726 727 728 731 403 404 405 406 407 235 1 0 0 3 181 730 235 true
noncomputable def ob282:Obj:=zzH st55 "_law_shown" zzN 408
noncomputable def ob283:Obj:=hF .none st56 "_law_rows" 0 .none .none
noncomputable def ob284:Obj:=zzD "_law_rows" "_law_rows" 733 734 735 237 1 3 410 true 411 .none .none (.ref 412) 736 737
noncomputable def ob285:Obj:=zzH st56 "_law_rows" zzN 413
noncomputable def ob286(P:Gq):Obj:=zzM 71 (hE P "__name__" 165 zzN::(en3 P).take 70)
noncomputable def ob287:Obj:={ cls:=.none,data:=.fields (Gv (fl12.take 180)) }
noncomputable def ob288:Obj:=hF .none st57 "_law_is_whole" 0 .none .none
noncomputable def ob289:Obj:=zzD "_law_is_whole" "_law_is_whole" 739 740 741 239 1 3 415 true 416 .none .none (.ref 417) 742 743
noncomputable def ob290:Obj:=zzH st57 "_law_is_whole" zzN 418
noncomputable def ob291:Obj:=kTu [(.str "_law_word" 748),(.str "_law_parts" 749),(.str "_law_top" 750),(.str "_law_bottom" 751)]
noncomputable def ob292:Obj:=hF .none st58 "_law_fraction" 0 .none .none
noncomputable def ob293:Obj:=hC "_law_fraction" 745 746 747 753 420 421 422 423 424 243 1 0 0 3 181 752 243 true
noncomputable def ob294:Obj:=zzH st58 "_law_fraction" zzN 425
noncomputable def ob295:Obj:=hF .none st59 "_law_shut_in" 0 .none .none
noncomputable def ob296:Obj:=zzD "_law_shut_in" "_law_shut_in" 755 756 757 256 1 3 427 true 428 .none .none (.ref 429) 758 759
noncomputable def ob297:Obj:=zzH st59 "_law_shut_in" zzN 430
noncomputable def ob298:Obj:=kTu [(.str "_law_row" 764),(.str "_law_lines" 765),(.str "_law_at" 766),(.str "_law_words" 767),(.str "_law_place" 768),(.str "_law_spot_here" 769),(.str "_law_signs" 770),(.str "_law_sign" 771),(.str "_law_way" 772),(.str "_law_line" 773),(.str "_law_some" 774)]
noncomputable def ob299:Obj:=hF .none st60 "_law_bent" 0 .none .none
noncomputable def ob300:Obj:=hC "_law_bent" 761 762 763 776 432 433 434 435 436 267 2 0 0 3 181 775 267 true
noncomputable def ob301:Obj:=zzH st60 "_law_bent" zzN 437
noncomputable def ob302:Obj:=kTu [(.str "_law_one" 781),(.str "_law_two" 782),(.str "_law_three" 783),(.str "_law_gaps" 784),(.str "_law_spot_here" 785),(.str "_law_place" 786),(.str "_law_a" 787),(.str "_law_b" 788),(.str "_law_c" 789),(.str "_law_d" 790),(.str "_law_e" 791),(.str "_law_f" 792),(.str "_law_g" 793),(.str "_law_h" 794),(.str "_law_found" 795)]
noncomputable def ob303:Obj:=hF .none st61 "_law_cross" 0 .none .none
noncomputable def ob304:Obj:=hC "_law_cross" 778 779 780 797 439 440 441 442 443 298 3 0 0 3 181 796 298 true
noncomputable def ob305:Obj:=zzH st61 "_law_cross" zzN 444
noncomputable def ob306:Obj:=kTu [(.str "_law_one" 802),(.str "_law_other" 803)]
noncomputable def ob307:Obj:=hF .none st62 "_law_before" 0 .none .none
noncomputable def ob308:Obj:=hC "_law_before" 799 800 801 805 446 447 448 449 450 307 2 0 0 3 181 804 307 true
noncomputable def ob309:Obj:=zzH st62 "_law_before" zzN 451
noncomputable def ob310:Obj:=hF .none st63 "_law_fits" 0 .none .none
noncomputable def ob311:Obj:=zzD "_law_fits" "_law_fits" 807 808 809 311 2 3 453 true 454 .none .none (.ref 455) 810 811
noncomputable def ob312:Obj:=zzH st63 "_law_fits" zzN 456
noncomputable def ob313:Obj:=kTu [(.str "_law_heard_here" 816),(.str "_law_place" 817),(.str "_law_kinds" 818)]
noncomputable def ob314:Obj:=hF .none st64 "_law_alone" 0 .none .none
noncomputable def ob315:Obj:=hC "_law_alone" 813 814 815 820 458 459 460 461 462 322 2 0 0 3 181 819 322 true
noncomputable def ob316:Obj:=zzH st64 "_law_alone" zzN 463
noncomputable def ob317:Obj:=kTu [(.str "_law_text" 825),(.str "_law_heard_here" 826),(.str "_law_found" 827),(.str "_law_e" 828)]
noncomputable def ob318:Obj:=hF .none st65 "_law_heard" 0 .none .none
noncomputable def ob319:Obj:=hC "_law_heard" 822 823 824 830 465 466 467 468 469 327 1 0 0 3 181 829 327 true
noncomputable def ob320:Obj:=zzH st65 "_law_heard" zzN 470
noncomputable def ob321:Obj:=hF .none st66 "_law_due" 0 .none .none
noncomputable def ob322:Obj:=zzD "_law_due" "_law_due" 832 833 834 339 1 3 472 true 473 .none .none (.ref 474) 835 836
noncomputable def ob323:Obj:=zzH st66 "_law_due" zzN 475
noncomputable def ob324:Obj:=hF .none st67 "law" 0 .none .none
noncomputable def ob325:Obj:=zzD "law" "law" 838 839 840 355 1 3 477 true 478 .none .none (.ref 479) 841 842
noncomputable def ob326:Obj:=zzH st67 "law" zzN 480
noncomputable def oL0(P:Gq):List Obj:=[PySem.W.boot_o_0 P,PySem.W.boot_o_1 P,PySem.W.boot_o_2 P,PySem.W.boot_o_3 P,PySem.W.boot_o_4 P,PySem.W.boot_o_5 P,PySem.W.boot_o_6 P,PySem.W.boot_o_7 P,PySem.W.boot_o_8 P,PySem.W.boot_o_9 P,PySem.W.boot_o_10 P,ob11,ob12,ob13,ob14,ob15 P]
noncomputable def oL1(P:Gq):List Obj:=[ob16,ob17,ob18,ob19 P,ob20,ob21,ob22 P,ob23,ob24,ob25,ob26,ob27 P,ob28,ob29,ob30,ob31 P]
noncomputable def oL2(P:Gq):List Obj:=[ob32,ob33,ob34 P,ob35,ob36,ob37,ob38 P,ob39,ob40,ob41 P,ob42,ob43,ob44 P,ob45,ob46,ob47]
noncomputable def oL3(P:Gq):List Obj:=[ob48 P,ob49,ob50,ob51 P,ob52,ob53,ob54,ob55,ob56,ob57,ob58,ob59,ob60 P,ob61,ob62,ob63]
noncomputable def oL4(P:Gq):List Obj:=[ob64 P,ob65,ob66,ob67 P,ob68,ob69,ob70,ob71,ob72,ob73,ob74,ob75,ob76 P,ob77,ob78,ob79]
noncomputable def oL5(P:Gq):List Obj:=[ob80 P,ob81,ob82,ob83 P,ob84,ob85,ob86,ob87,ob88,ob89,ob90,ob91,ob92 P,ob93,ob94,ob95]
noncomputable def oL6(P:Gq):List Obj:=[ob96 P,ob97,ob98,ob99 P,ob100,ob101,ob102,ob103,ob104,ob105,ob106,ob107,ob108 P,ob109,ob110,ob111]
noncomputable def oL7(P:Gq):List Obj:=[ob112 P,ob113,ob114,ob115 P,ob116,ob117,ob118 P,ob119,ob120,ob121,ob122,ob123,ob124,ob125,ob126,ob127]
noncomputable def oL8(P:Gq):List Obj:=[ob128,ob129,ob130,ob131,ob132,ob133,ob134,ob135,ob136,ob137,ob138,ob139,ob140,ob141,ob142 P,ob143]
noncomputable def oL9(P:Gq):List Obj:=[ob144,ob145,ob146,ob147,ob148,ob149,ob150,ob151,ob152,ob153,ob154,ob155,ob156,ob157,ob158,ob159]
noncomputable def oL10(P:Gq):List Obj:=[ob160,ob161,ob162,ob163,ob164,ob165,ob166,ob167,ob168,ob169,ob170,ob171,ob172,ob173,ob174,ob175]
noncomputable def oL11(P:Gq):List Obj:=[ob176,ob177,ob178,ob179,ob180,ob181,ob182,ob183,ob184,ob185,ob186,ob187,ob188 P,ob189,ob190,ob191]
noncomputable def oL12(P:Gq):List Obj:=[ob192,ob193,ob194,ob195,ob196,ob197,ob198,ob199,ob200,ob201,ob202,ob203,ob204,ob205,ob206,ob207]
noncomputable def oL13(P:Gq):List Obj:=[ob208,ob209,ob210,ob211,ob212,ob213,ob214,ob215,ob216,ob217,ob218,ob219,ob220,ob221,ob222,ob223]
noncomputable def oL14(P:Gq):List Obj:=[ob224,ob225,ob226,ob227,ob228,ob229,ob230,ob231,ob232,ob233,ob234,ob235,ob236 P,ob237,ob238,ob239]
noncomputable def oL15(P:Gq):List Obj:=[ob240,ob241,ob242,ob243,ob244,ob245,ob246,ob247,ob248,ob249,ob250,ob251,ob252,ob253,ob254,ob255]
noncomputable def oL16(P:Gq):List Obj:=[ob256,ob257,ob258,ob259,ob260,ob261,ob262,ob263,ob264,ob265,ob266,ob267,ob268,ob269,ob270,ob271]
noncomputable def oL17(P:Gq):List Obj:=[ob272,ob273,ob274,ob275,ob276,ob277,ob278,ob279,ob280,ob281,ob282,ob283,ob284,ob285,ob286 P,ob287]
noncomputable def oL18(P:Gq):List Obj:=[ob288,ob289,ob290,ob291,ob292,ob293,ob294,ob295,ob296,ob297,ob298,ob299,ob300,ob301,ob302,ob303]
noncomputable def oL19(P:Gq):List Obj:=[ob304,ob305,ob306,ob307,ob308,ob309,ob310,ob311,ob312,ob313,ob314,ob315,ob316,ob317,ob318,ob319]
noncomputable def oL20(P:Gq):List Obj:=[ob320,ob321,ob322,ob323,ob324,ob325,ob326]
noncomputable def fA(c i:Nat)(P:Gq):Obj:=(([oL0 P,oL1 P,oL2 P,oL3 P,oL4 P,oL5 P,oL6 P,oL7 P,oL8 P,oL9 P,oL10 P,oL11 P,oL12 P,oL13 P,oL14 P,oL15 P,oL16 P,oL17 P,oL18 P,oL19 P,oL20 P]:List (List Obj)).getD c []).getD i { cls:=.none }
noncomputable def tW0(n:Nat->Nat->G8->G8->G8)(e:G8):G8:=(fun m:Nat->Nat->G8=>(n 0 0 (n 0 1 (n 0 3 (m 0 7) (m 0 11)) (n 0 5 (m 0 9) (m 0 13))) (n 0 2 (n 0 4 (m 0 8) (m 0 12)) (n 0 6 (m 0 10) (m 0 14))))) fun a b=>n a b e e
noncomputable def tX0(f:Nat->Nat->Gq->Obj)(P:Gq):G8:=tW0 (fun c i=>.node (f c i P)) .nil
noncomputable def tW1(n:Nat->Nat->G8->G8->G8)(e:G8):G8:=(fun m:Nat->Nat->G8=>(n 0 0 (n 0 1 (n 0 15 (n 0 7 (m 1 1) (m 1 6)) (n 0 11 (m 0 12) (m 1 10))) (n 0 5 (n 0 9 (m 1 3) (m 1 8)) (n 0 13 (m 1 5) e))) (n 0 2 (n 0 4 (n 0 8 (m 1 2) (m 1 7)) (n 1 0 (m 1 4) e)) (n 0 6 (n 0 10 (m 0 11) (m 1 9)) (n 0 14 (m 0 11) e))))) fun a b=>n a b e e
noncomputable def tX1(f:Nat->Nat->Gq->Obj)(P:Gq):G8:=tW1 (fun c i=>.node (f c i P)) .nil
noncomputable def tW2(n:Nat->Nat->G8->G8->G8)(e:G8):G8:=(fun m:Nat->Nat->G8=>(n 0 0 (n 0 1 (n 1 11 (n 0 7 (n 1 1 (m 0 11) e) (n 1 6 (m 2 5) e)) (n 0 11 (n 0 12 (m 0 11) e) (m 1 10))) (n 0 5 (n 0 9 (n 1 3 (m 2 0) e) (m 1 8)) (n 0 13 (n 1 5 (m 2 3) e) (m 1 2)))) (n 0 2 (n 0 4 (n 0 8 (n 1 2 (m 0 12) e) (m 1 13)) (n 1 12 (n 1 4 (m 2 2) e) (m 1 14))) (n 0 6 (n 0 10 (n 0 11 (m 2 1) e) (m 1 9)) (n 0 14 (n 0 11 (m 2 4) e) (m 1 15)))))) fun a b=>n a b e e
noncomputable def tX2(f:Nat->Nat->Gq->Obj)(P:Gq):G8:=tW2 (fun c i=>.node (f c i P)) .nil
noncomputable def tW3(n:Nat->Nat->G8->G8->G8)(e:G8):G8:=(fun m:Nat->Nat->G8=>(n 0 0 (n 0 1 (n 2 6 (n 0 7 (n 1 1 (m 0 11) (m 0 11)) (n 1 6 (m 2 5) e)) (n 0 11 (n 0 12 (m 0 11) (m 2 15)) (n 1 10 (m 0 11) e))) (n 0 5 (n 0 9 (n 1 3 (m 2 0) (m 2 13)) (n 1 8 (m 1 2) e)) (n 0 13 (n 1 5 (m 2 3) e) (n 1 2 (m 2 10) e)))) (n 0 2 (n 0 4 (n 0 8 (n 1 2 (m 0 12) (m 2 12)) (n 2 8 (m 1 14) e)) (n 2 7 (n 1 4 (m 2 2) e) (n 1 14 (m 0 12) e))) (n 0 6 (n 0 10 (n 0 11 (m 2 1) (m 2 14)) (n 1 9 (m 2 9) e)) (n 0 14 (n 0 11 (m 2 4) e) (n 1 15 (m 2 11) e)))))) fun a b=>n a b e e
noncomputable def tX3(f:Nat->Nat->Gq->Obj)(P:Gq):G8:=tW3 (fun c i=>.node (f c i P)) .nil
noncomputable def tW4(n:Nat->Nat->G8->G8->G8)(e:G8):G8:=(fun m:Nat->Nat->G8=>(n 0 0 (n 0 1 (n 3 0 (n 0 7 (n 1 1 (n 0 11 (m 3 8) e) (m 0 11)) (n 1 6 (m 2 5) (m 0 11))) (n 0 11 (n 0 12 (n 0 11 (m 3 12) e) (m 2 15)) (n 1 10 (m 0 11) (m 0 11)))) (n 0 5 (n 0 9 (n 1 3 (n 2 0 (m 3 10) e) (m 2 13)) (n 1 8 (m 1 2) (m 3 5))) (n 0 13 (n 1 5 (n 2 3 (m 3 14) e) (m 1 2)) (n 1 2 (m 2 10) (m 3 7))))) (n 0 2 (n 0 4 (n 0 8 (n 1 2 (n 0 12 (m 3 9) e) (m 2 12)) (n 3 2 (m 1 14) (m 3 4))) (n 3 1 (n 1 4 (n 2 2 (m 3 13) e) (m 1 14)) (n 1 14 (m 0 12) (m 0 12)))) (n 0 6 (n 0 10 (n 0 11 (n 2 1 (m 3 11) e) (m 2 14)) (n 1 9 (m 2 9) (m 3 6))) (n 0 14 (n 0 11 (n 2 4 (m 3 15) e) (m 3 3)) (n 1 15 (m 2 11) (m 0 11))))))) fun a b=>n a b e e
noncomputable def tX4(f:Nat->Nat->Gq->Obj)(P:Gq):G8:=tW4 (fun c i=>.node (f c i P)) .nil
noncomputable def tW5(n:Nat->Nat->G8->G8->G8)(e:G8):G8:=(fun m:Nat->Nat->G8=>(n 0 0 (n 0 1 (n 4 0 (n 0 7 (n 1 1 (n 0 11 (m 3 8) e) (n 0 11 (m 0 12) e)) (n 1 6 (n 2 5 (m 1 14) e) (n 0 11 (m 4 13) e))) (n 0 11 (n 0 12 (n 0 11 (m 3 12) e) (n 2 15 (m 4 9) e)) (n 1 10 (n 0 11 (m 4 4) e) (m 0 11)))) (n 0 5 (n 0 9 (n 1 3 (n 2 0 (m 3 10) e) (n 2 13 (m 0 11) e)) (n 1 8 (n 1 2 (m 4 3) e) (n 3 5 (m 4 15) e))) (n 0 13 (n 1 5 (n 2 3 (m 3 14) e) (n 1 2 (m 4 11) e)) (n 1 2 (n 2 10 (m 4 6) e) (m 3 7))))) (n 0 2 (n 0 4 (n 0 8 (n 1 2 (n 0 12 (m 3 9) e) (n 2 12 (m 4 7) e)) (n 4 2 (n 1 14 (m 1 2) e) (n 3 4 (m 4 14) e))) (n 4 1 (n 1 4 (n 2 2 (m 3 13) e) (n 1 14 (m 4 10) e)) (n 1 14 (n 0 12 (m 4 5) e) (m 0 12)))) (n 0 6 (n 0 10 (n 0 11 (n 2 1 (m 3 11) e) (n 2 14 (m 4 8) e)) (n 1 9 (n 2 9 (m 0 11) e) (m 3 6))) (n 0 14 (n 0 11 (n 2 4 (m 3 15) e) (n 3 3 (m 4 12) e)) (n 1 15 (n 2 11 (m 0 11) e) (m 0 11))))))) fun a b=>n a b e e
noncomputable def tX5(f:Nat->Nat->Gq->Obj)(P:Gq):G8:=tW5 (fun c i=>.node (f c i P)) .nil
noncomputable def tW6(n:Nat->Nat->G8->G8->G8)(e:G8):G8:=(fun m:Nat->Nat->G8=>(n 0 0 (n 0 1 (n 5 0 (n 0 7 (n 1 1 (n 0 11 (m 3 8) (m 5 5)) (n 0 11 (m 0 12) e)) (n 1 6 (n 2 5 (m 1 14) (m 5 10)) (n 0 11 (m 4 13) e))) (n 0 11 (n 0 12 (n 0 11 (m 3 12) (m 5 7)) (n 2 15 (m 4 9) e)) (n 1 10 (n 0 11 (m 4 4) (m 5 14)) (n 0 11 (m 1 2) e)))) (n 0 5 (n 0 9 (n 1 3 (n 2 0 (m 3 10) (m 0 11)) (n 2 13 (m 0 11) e)) (n 1 8 (n 1 2 (m 4 3) (m 5 12)) (n 3 5 (m 4 15) e))) (n 0 13 (n 1 5 (n 2 3 (m 3 14) (m 5 8)) (n 1 2 (m 4 11) e)) (n 1 2 (n 2 10 (m 4 6) e) (n 3 7 (m 0 11) e))))) (n 0 2 (n 0 4 (n 0 8 (n 1 2 (n 0 12 (m 3 9) (m 5 6)) (n 2 12 (m 4 7) e)) (n 5 2 (n 1 14 (m 1 2) (m 5 11)) (n 3 4 (m 4 14) e))) (n 5 1 (n 1 4 (n 2 2 (m 3 13) (m 0 11)) (n 1 14 (m 4 10) e)) (n 1 14 (n 0 12 (m 4 5) (m 5 15)) (n 0 12 (m 5 3) e)))) (n 0 6 (n 0 10 (n 0 11 (n 2 1 (m 3 11) (m 0 12)) (n 2 14 (m 4 8) e)) (n 1 9 (n 2 9 (m 0 11) (m 5 13)) (n 3 6 (m 1 14) e))) (n 0 14 (n 0 11 (n 2 4 (m 3 15) (m 5 9)) (n 3 3 (m 4 12) e)) (n 1 15 (n 2 11 (m 0 11) e) (n 0 11 (m 5 4) e))))))) fun a b=>n a b e e
noncomputable def tX6(f:Nat->Nat->Gq->Obj)(P:Gq):G8:=tW6 (fun c i=>.node (f c i P)) .nil
noncomputable def tW7(n:Nat->Nat->G8->G8->G8)(e:G8):G8:=(fun m:Nat->Nat->G8=>(n 0 0 (n 0 1 (n 6 0 (n 0 7 (n 1 1 (n 0 11 (n 3 8 (m 6 15) e) (m 5 5)) (n 0 11 (m 0 12) (m 6 3))) (n 1 6 (n 2 5 (m 1 14) (m 5 10)) (n 0 11 (m 4 13) (m 0 11)))) (n 0 11 (n 0 12 (n 0 11 (m 3 12) (m 5 7)) (n 2 15 (m 4 9) (m 6 6))) (n 1 10 (n 0 11 (m 4 4) (m 5 14)) (n 0 11 (m 1 2) (m 6 11))))) (n 0 5 (n 0 9 (n 1 3 (n 2 0 (m 3 10) (m 0 11)) (n 2 13 (m 0 11) (m 6 4))) (n 1 8 (n 1 2 (m 4 3) (m 5 12)) (n 3 5 (m 4 15) (m 6 9)))) (n 0 13 (n 1 5 (n 2 3 (m 3 14) (m 5 8)) (n 1 2 (m 4 11) (m 0 12))) (n 1 2 (n 2 10 (m 4 6) (m 1 14)) (n 3 7 (m 0 11) (m 6 13)))))) (n 0 2 (n 0 4 (n 0 8 (n 1 2 (n 0 12 (m 3 9) (m 5 6)) (n 2 12 (m 4 7) (m 0 11))) (n 6 2 (n 1 14 (m 1 2) (m 5 11)) (n 3 4 (m 4 14) (m 6 8)))) (n 6 1 (n 1 4 (n 2 2 (m 3 13) (m 0 11)) (n 1 14 (m 4 10) (m 0 11))) (n 1 14 (n 0 12 (m 4 5) (m 5 15)) (n 0 12 (m 5 3) (m 6 12))))) (n 0 6 (n 0 10 (n 0 11 (n 2 1 (m 3 11) (m 0 12)) (n 2 14 (m 4 8) (m 6 5))) (n 1 9 (n 2 9 (m 0 11) (m 5 13)) (n 3 6 (m 1 14) (m 6 10)))) (n 0 14 (n 0 11 (n 2 4 (m 3 15) (m 5 9)) (n 3 3 (m 4 12) (m 6 7))) (n 1 15 (n 2 11 (m 0 11) (m 1 2)) (n 0 11 (m 5 4) (m 6 14)))))))) fun a b=>n a b e e
noncomputable def tX7(f:Nat->Nat->Gq->Obj)(P:Gq):G8:=tW7 (fun c i=>.node (f c i P)) .nil
noncomputable def tW8(n:Nat->Nat->G8->G8->G8)(e:G8):G8:=(fun m:Nat->Nat->G8=>(n 0 0 (n 0 1 (n 7 0 (n 0 7 (n 1 1 (n 0 11 (n 3 8 (m 6 15) e) (n 5 5 (m 8 4) e)) (n 0 11 (n 0 12 (m 0 11) e) (m 6 3))) (n 1 6 (n 2 5 (n 1 14 (m 0 11) e) (n 5 10 (m 8 9) e)) (n 0 11 (n 4 13 (m 7 15) e) (m 0 11)))) (n 0 11 (n 0 12 (n 0 11 (n 3 12 (m 0 11) e) (n 5 7 (m 8 6) e)) (n 2 15 (n 4 9 (m 0 11) e) (m 6 6))) (n 1 10 (n 0 11 (n 4 4 (m 7 9) e) (n 5 14 (m 0 11) e)) (n 0 11 (n 1 2 (m 0 12) e) (m 6 11))))) (n 0 5 (n 0 9 (n 1 3 (n 2 0 (n 3 10 (m 1 2) e) (n 0 11 (m 0 11) e)) (n 2 13 (n 0 11 (m 7 12) e) (m 6 4))) (n 1 8 (n 1 2 (n 4 3 (m 7 7) e) (n 5 12 (m 0 12) e)) (n 3 5 (n 4 15 (m 8 1) e) (m 6 9)))) (n 0 13 (n 1 5 (n 2 3 (n 3 14 (m 7 4) e) (n 5 8 (m 8 7) e)) (n 1 2 (n 4 11 (m 7 14) e) (m 0 12))) (n 1 2 (n 2 10 (n 4 6 (m 0 12) e) (n 1 14 (m 8 12) e)) (n 3 7 (n 0 11 (m 0 11) e) (m 6 13)))))) (n 0 2 (n 0 4 (n 0 8 (n 1 2 (n 0 12 (n 3 9 (m 1 14) e) (n 5 6 (m 8 5) e)) (n 2 12 (n 4 7 (m 7 11) e) (m 0 11))) (n 7 2 (n 1 14 (n 1 2 (m 7 6) e) (n 5 11 (m 0 11) e)) (n 3 4 (n 4 14 (m 8 0) e) (m 6 8)))) (n 7 1 (n 1 4 (n 2 2 (n 3 13 (m 0 12) e) (n 0 11 (m 0 11) e)) (n 1 14 (n 4 10 (m 0 12) e) (m 0 11))) (n 1 14 (n 0 12 (n 4 5 (m 0 11) e) (n 5 15 (m 8 11) e)) (n 0 12 (n 5 3 (m 8 2) e) (m 6 12))))) (n 0 6 (n 0 10 (n 0 11 (n 2 1 (n 3 11 (m 7 3) e) (n 0 12 (m 0 12) e)) (n 2 14 (n 4 8 (m 7 13) e) (m 6 5))) (n 1 9 (n 2 9 (n 0 11 (m 7 8) e) (n 5 13 (m 8 10) e)) (n 3 6 (n 1 14 (m 0 11) e) (m 6 10)))) (n 0 14 (n 0 11 (n 2 4 (n 3 15 (m 7 5) e) (n 5 9 (m 8 8) e)) (n 3 3 (n 4 12 (m 0 11) e) (m 6 7))) (n 1 15 (n 2 11 (n 0 11 (m 7 10) e) (n 1 2 (m 8 13) e)) (n 0 11 (n 5 4 (m 8 3) e) (m 6 14)))))))) fun a b=>n a b e e
noncomputable def tX8(f:Nat->Nat->Gq->Obj)(P:Gq):G8:=tW8 (fun c i=>.node (f c i P)) .nil
noncomputable def tW9(n:Nat->Nat->G8->G8->G8)(e:G8):G8:=(fun m:Nat->Nat->G8=>(n 0 0 (n 0 1 (n 8 14 (n 0 7 (n 1 1 (n 0 11 (n 3 8 (m 6 15) (m 9 8)) (n 5 5 (m 8 4) (m 10 11))) (n 0 11 (n 0 12 (m 0 11) (m 10 1)) (n 6 3 (m 0 11) (m 0 12)))) (n 1 6 (n 2 5 (n 1 14 (m 0 11) (m 0 11)) (n 5 10 (m 8 9) (m 0 11))) (n 0 11 (n 4 13 (m 7 15) (m 10 6)) (n 0 11 (m 0 12) (m 11 8))))) (n 0 11 (n 0 12 (n 0 11 (n 3 12 (m 0 11) (m 9 11)) (n 5 7 (m 8 6) (m 0 11))) (n 2 15 (n 4 9 (m 0 11) (m 0 12)) (n 6 6 (m 9 1) (m 11 6)))) (n 1 10 (n 0 11 (n 4 4 (m 7 9) (m 0 11)) (n 5 14 (m 0 11) (m 11 1))) (n 0 11 (n 1 2 (m 0 12) (m 10 8)) (n 6 11 (m 9 6) (m 11 11)))))) (n 0 5 (n 0 9 (n 1 3 (n 2 0 (n 3 10 (m 1 2) (m 9 9)) (n 0 11 (m 0 11) (m 0 12))) (n 2 13 (n 0 11 (m 7 12) (m 10 3)) (n 6 4 (m 9 0) (m 0 11)))) (n 1 8 (n 1 2 (n 4 3 (m 7 7) (m 9 14)) (n 5 12 (m 0 12) (m 11 0))) (n 3 5 (n 4 15 (m 8 1) (m 0 11)) (n 6 9 (m 0 11) (m 11 9))))) (n 0 13 (n 1 5 (n 2 3 (n 3 14 (m 7 4) (m 0 12)) (n 5 8 (m 8 7) (m 10 14))) (n 1 2 (n 4 11 (m 7 14) (m 0 11)) (n 0 12 (m 9 3) (m 0 11)))) (n 1 2 (n 2 10 (n 4 6 (m 0 12) (m 10 0)) (n 1 14 (m 8 12) (m 11 3))) (n 3 7 (n 0 11 (m 0 11) (m 10 9)) (n 6 13 (m 0 11) e)))))) (n 0 2 (n 0 4 (n 0 8 (n 1 2 (n 0 12 (n 3 9 (m 1 14) (m 0 11)) (n 5 6 (m 8 5) (m 0 11))) (n 2 12 (n 4 7 (m 7 11) (m 10 2)) (n 0 11 (m 0 12) (m 11 4)))) (n 7 2 (n 1 14 (n 1 2 (m 7 6) (m 9 13)) (n 5 11 (m 0 11) (m 0 12))) (n 3 4 (n 4 14 (m 8 0) (m 10 7)) (n 6 8 (m 9 4) (m 0 11))))) (n 8 15 (n 1 4 (n 2 2 (n 3 13 (m 0 12) (m 0 11)) (n 0 11 (m 0 11) (m 10 13))) (n 1 14 (n 4 10 (m 0 12) (m 10 4)) (n 0 11 (m 9 2) (m 11 7)))) (n 1 14 (n 0 12 (n 4 5 (m 0 11) (m 0 12)) (n 5 15 (m 8 11) (m 11 2))) (n 0 12 (n 5 3 (m 8 2) (m 0 11)) (n 6 12 (m 9 7) e))))) (n 0 6 (n 0 10 (n 0 11 (n 2 1 (n 3 11 (m 7 3) (m 9 10)) (n 0 12 (m 0 12) (m 10 12))) (n 2 14 (n 4 8 (m 7 13) (m 0 11)) (n 6 5 (m 0 11) (m 11 5)))) (n 1 9 (n 2 9 (n 0 11 (m 7 8) (m 9 15)) (n 5 13 (m 8 10) (m 0 11))) (n 3 6 (n 1 14 (m 0 11) (m 0 12)) (n 6 10 (m 9 5) (m 11 10))))) (n 0 14 (n 0 11 (n 2 4 (n 3 15 (m 7 5) (m 9 12)) (n 5 9 (m 8 8) (m 10 15))) (n 3 3 (n 4 12 (m 0 11) (m 10 5)) (n 6 7 (m 0 11) (m 0 12)))) (n 1 15 (n 2 11 (n 0 11 (m 7 10) (m 0 11)) (n 1 2 (m 8 13) (m 0 11))) (n 0 11 (n 5 4 (m 8 3) (m 10 10)) (n 6 14 (m 0 12) e)))))))) fun a b=>n a b e e
noncomputable def tX9(f:Nat->Nat->Gq->Obj)(P:Gq):G8:=tW9 (fun c i=>.node (f c i P)) .nil
noncomputable def tW10(n:Nat->Nat->G8->G8->G8)(e:G8):G8:=(fun m:Nat->Nat->G8=>(n 0 0 (n 0 1 (n 11 12 (n 0 7 (n 1 1 (n 0 11 (n 3 8 (n 6 15 (m 0 11) e) (n 9 8 (m 0 12) e)) (n 5 5 (n 8 4 (m 0 11) e) (m 10 11))) (n 0 11 (n 0 12 (n 0 11 (m 12 8) e) (m 10 1)) (n 6 3 (n 0 11 (m 13 10) e) (m 0 12)))) (n 1 6 (n 2 5 (n 1 14 (n 0 11 (m 12 3) e) (n 0 11 (m 14 8) e)) (n 5 10 (n 8 9 (m 0 11) e) (m 0 11))) (n 0 11 (n 4 13 (n 7 15 (m 12 13) e) (m 10 6)) (n 0 11 (n 0 12 (m 0 11) e) (m 11 8))))) (n 0 11 (n 0 12 (n 0 11 (n 3 12 (n 0 11 (m 0 11) e) (n 9 11 (m 14 6) e)) (n 5 7 (n 8 6 (m 13 4) e) (m 0 11))) (n 2 15 (n 4 9 (n 0 11 (m 12 10) e) (m 0 12)) (n 6 6 (n 9 1 (m 0 12) e) (m 11 6)))) (n 1 10 (n 0 11 (n 4 4 (n 7 9 (m 0 12) e) (n 0 11 (m 14 11) e)) (n 5 14 (n 0 11 (m 0 11) e) (m 11 1))) (n 0 11 (n 1 2 (n 0 12 (m 0 11) e) (m 10 8)) (n 6 11 (n 9 6 (m 14 1) e) (m 11 11)))))) (n 0 5 (n 0 9 (n 1 3 (n 2 0 (n 3 10 (n 1 2 (m 12 0) e) (n 9 9 (m 0 11) e)) (n 0 11 (n 0 11 (m 13 2) e) (m 0 12))) (n 2 13 (n 0 11 (n 7 12 (m 0 11) e) (m 10 3)) (n 6 4 (n 9 0 (m 13 12) e) (m 0 11)))) (n 1 8 (n 1 2 (n 4 3 (n 7 7 (m 12 5) e) (n 9 14 (m 14 9) e)) (n 5 12 (n 0 12 (m 13 7) e) (m 11 0))) (n 3 5 (n 4 15 (n 8 1 (m 0 12) e) (m 0 11)) (n 6 9 (n 0 11 (m 14 0) e) (m 11 9))))) (n 0 13 (n 1 5 (n 2 3 (n 3 14 (n 7 4 (m 12 2) e) (n 0 12 (m 0 11) e)) (n 5 8 (n 8 7 (m 0 12) e) (m 10 14))) (n 1 2 (n 4 11 (n 7 14 (m 12 11) e) (m 0 11)) (n 0 12 (n 9 3 (m 13 14) e) (m 0 11)))) (n 1 2 (n 2 10 (n 4 6 (n 0 12 (m 0 11) e) (m 10 0)) (n 1 14 (n 8 12 (m 13 9) e) (m 11 3))) (n 3 7 (n 0 11 (n 0 11 (m 13 0) e) (m 10 9)) (n 6 13 (n 0 11 (m 14 3) e) (m 0 12))))))) (n 0 2 (n 0 4 (n 0 8 (n 1 2 (n 0 12 (n 3 9 (n 1 14 (m 11 15) e) (n 0 11 (m 14 4) e)) (n 5 6 (n 8 5 (m 0 12) e) (m 0 11))) (n 2 12 (n 4 7 (n 7 11 (m 12 9) e) (m 10 2)) (n 0 11 (n 0 12 (m 13 11) e) (m 11 4)))) (n 7 2 (n 1 14 (n 1 2 (n 7 6 (m 12 4) e) (n 9 13 (m 0 11) e)) (n 5 11 (n 0 11 (m 13 6) e) (m 0 12))) (n 3 4 (n 4 14 (n 8 0 (m 0 11) e) (m 10 7)) (n 6 8 (n 9 4 (m 0 12) e) (m 0 11))))) (n 11 13 (n 1 4 (n 2 2 (n 3 13 (n 0 12 (m 0 12) e) (n 0 11 (m 14 7) e)) (n 0 11 (n 0 11 (m 0 11) e) (m 10 13))) (n 1 14 (n 4 10 (n 0 12 (m 0 11) e) (m 10 4)) (n 0 11 (n 9 2 (m 13 13) e) (m 11 7)))) (n 1 14 (n 0 12 (n 4 5 (n 0 11 (m 12 6) e) (m 0 12)) (n 5 15 (n 8 11 (m 0 12) e) (m 11 2))) (n 0 12 (n 5 3 (n 8 2 (m 12 15) e) (m 0 11)) (n 6 12 (n 9 7 (m 14 2) e) (m 0 11)))))) (n 0 6 (n 0 10 (n 0 11 (n 2 1 (n 3 11 (n 7 3 (m 12 1) e) (n 9 10 (m 14 5) e)) (n 0 12 (n 0 12 (m 13 3) e) (m 10 12))) (n 2 14 (n 4 8 (n 7 13 (m 0 12) e) (m 0 11)) (n 6 5 (n 0 11 (m 0 11) e) (m 11 5)))) (n 1 9 (n 2 9 (n 0 11 (n 7 8 (m 0 11) e) (n 9 15 (m 14 10) e)) (n 5 13 (n 8 10 (m 13 8) e) (m 0 11))) (n 3 6 (n 1 14 (n 0 11 (m 12 14) e) (m 0 12)) (n 6 10 (n 9 5 (m 0 11) e) (m 11 10))))) (n 0 14 (n 0 11 (n 2 4 (n 3 15 (n 7 5 (m 0 11) e) (n 9 12 (m 0 12) e)) (n 5 9 (n 8 8 (m 13 5) e) (m 10 15))) (n 3 3 (n 4 12 (n 0 11 (m 12 12) e) (m 10 5)) (n 6 7 (n 0 11 (m 13 15) e) (m 0 12)))) (n 1 15 (n 2 11 (n 0 11 (n 7 10 (m 12 7) e) (m 0 11)) (n 1 2 (n 8 13 (m 0 11) e) (m 0 11))) (n 0 11 (n 5 4 (n 8 3 (m 13 1) e) (m 10 10)) (n 6 14 (n 0 12 (m 0 11) e) (m 11 14))))))))) fun a b=>n a b e e
noncomputable def tX10(f:Nat->Nat->Gq->Obj)(P:Gq):G8:=tW10 (fun c i=>.node (f c i P)) .nil
noncomputable def tW11(n:Nat->Nat->G8->G8->G8)(e:G8):G8:=(fun m:Nat->Nat->G8=>(n 0 0 (n 0 1 (n 14 12 (n 0 7 (n 1 1 (n 0 11 (n 3 8 (n 6 15 (m 0 11) (m 16 10)) (n 9 8 (m 0 12) e)) (n 5 5 (n 8 4 (m 0 11) e) (n 10 11 (m 15 8) e))) (n 0 11 (n 0 12 (n 0 11 (m 12 8) (m 0 12)) (n 10 1 (m 0 11) e)) (n 6 3 (n 0 11 (m 13 10) e) (n 0 12 (m 0 11) e)))) (n 1 6 (n 2 5 (n 1 14 (n 0 11 (m 12 3) (m 16 15)) (n 0 11 (m 14 8) e)) (n 5 10 (n 8 9 (m 0 11) e) (n 0 11 (m 15 13) e))) (n 0 11 (n 4 13 (n 7 15 (m 12 13) (m 17 8)) (n 10 6 (m 15 3) e)) (n 0 11 (n 0 12 (m 0 11) e) (n 11 8 (m 0 12) e))))) (n 0 11 (n 0 12 (n 0 11 (n 3 12 (n 0 11 (m 0 11) (m 0 12)) (n 9 11 (m 14 6) e)) (n 5 7 (n 8 6 (m 13 4) e) (n 0 11 (m 15 10) e))) (n 2 15 (n 4 9 (n 0 11 (m 12 10) (m 0 11)) (n 0 12 (m 0 11) e)) (n 6 6 (n 9 1 (m 0 12) e) (n 11 6 (m 16 3) e)))) (n 1 10 (n 0 11 (n 4 4 (n 7 9 (m 0 12) (m 17 1)) (n 0 11 (m 14 11) e)) (n 5 14 (n 0 11 (m 0 11) e) (n 11 1 (m 0 11) e))) (n 0 11 (n 1 2 (n 0 12 (m 0 11) (m 0 12)) (n 10 8 (m 0 12) e)) (n 6 11 (n 9 6 (m 14 1) e) (n 11 11 (m 0 11) e)))))) (n 0 5 (n 0 9 (n 1 3 (n 2 0 (n 3 10 (n 1 2 (m 12 0) (m 16 12)) (n 9 9 (m 0 11) e)) (n 0 11 (n 0 11 (m 13 2) e) (n 0 12 (m 0 11) e))) (n 2 13 (n 0 11 (n 7 12 (m 0 11) (m 17 5)) (n 10 3 (m 15 0) e)) (n 6 4 (n 9 0 (m 13 12) e) (n 0 11 (m 16 2) e)))) (n 1 8 (n 1 2 (n 4 3 (n 7 7 (m 12 5) (m 0 11)) (n 9 14 (m 14 9) e)) (n 5 12 (n 0 12 (m 13 7) e) (n 11 0 (m 0 12) e))) (n 3 5 (n 4 15 (n 8 1 (m 0 12) (m 17 10)) (n 0 11 (m 15 5) e)) (n 6 9 (n 0 11 (m 14 0) e) (n 11 9 (m 16 7) e))))) (n 0 13 (n 1 5 (n 2 3 (n 3 14 (n 7 4 (m 12 2) (m 0 11)) (n 0 12 (m 0 11) e)) (n 5 8 (n 8 7 (m 0 12) e) (n 10 14 (m 15 11) e))) (n 1 2 (n 4 11 (n 7 14 (m 12 11) (m 17 7)) (n 0 11 (m 15 2) e)) (n 0 12 (n 9 3 (m 13 14) e) (n 0 11 (m 16 5) e)))) (n 1 2 (n 2 10 (n 4 6 (n 0 12 (m 0 11) (m 17 3)) (n 10 0 (m 0 12) e)) (n 1 14 (n 8 12 (m 13 9) e) (n 11 3 (m 16 0) e))) (n 3 7 (n 0 11 (n 0 11 (m 13 0) (m 17 12)) (n 10 9 (m 0 11) e)) (n 6 13 (n 0 11 (m 14 3) e) (n 0 12 (m 16 9) e))))))) (n 0 2 (n 0 4 (n 0 8 (n 1 2 (n 0 12 (n 3 9 (n 1 14 (m 11 15) (m 16 11)) (n 0 11 (m 14 4) e)) (n 5 6 (n 8 5 (m 0 12) e) (n 0 11 (m 15 9) e))) (n 2 12 (n 4 7 (n 7 11 (m 12 9) (m 17 4)) (n 10 2 (m 14 15) e)) (n 0 11 (n 0 12 (m 13 11) e) (n 11 4 (m 0 12) e)))) (n 7 2 (n 1 14 (n 1 2 (n 7 6 (m 12 4) (m 17 0)) (n 9 13 (m 0 11) e)) (n 5 11 (n 0 11 (m 13 6) e) (n 0 12 (m 0 11) e))) (n 3 4 (n 4 14 (n 8 0 (m 0 11) (m 17 9)) (n 10 7 (m 15 4) e)) (n 6 8 (n 9 4 (m 0 12) e) (n 0 11 (m 16 6) e))))) (n 14 13 (n 1 4 (n 2 2 (n 3 13 (n 0 12 (m 0 12) (m 16 13)) (n 0 11 (m 14 7) e)) (n 0 11 (n 0 11 (m 0 11) e) (n 10 13 (m 0 11) e))) (n 1 14 (n 4 10 (n 0 12 (m 0 11) (m 0 12)) (n 10 4 (m 0 12) e)) (n 0 11 (n 9 2 (m 13 13) e) (n 11 7 (m 16 4) e)))) (n 1 14 (n 0 12 (n 4 5 (n 0 11 (m 12 6) (m 17 2)) (n 0 12 (m 0 11) e)) (n 5 15 (n 8 11 (m 0 12) e) (n 11 2 (m 15 15) e))) (n 0 12 (n 5 3 (n 8 2 (m 12 15) (m 17 11)) (n 0 11 (m 15 6) e)) (n 6 12 (n 9 7 (m 14 2) e) (n 0 11 (m 0 12) e)))))) (n 0 6 (n 0 10 (n 0 11 (n 2 1 (n 3 11 (n 7 3 (m 12 1) (m 0 11)) (n 9 10 (m 14 5) e)) (n 0 12 (n 0 12 (m 13 3) e) (n 10 12 (m 0 12) e))) (n 2 14 (n 4 8 (n 7 13 (m 0 12) (m 17 6)) (n 0 11 (m 15 1) e)) (n 6 5 (n 0 11 (m 0 11) e) (n 11 5 (m 0 11) e)))) (n 1 9 (n 2 9 (n 0 11 (n 7 8 (m 0 11) (m 0 12)) (n 9 15 (m 14 10) e)) (n 5 13 (n 8 10 (m 13 8) e) (n 0 11 (m 15 14) e))) (n 3 6 (n 1 14 (n 0 11 (m 12 14) (m 0 11)) (n 0 12 (m 0 11) e)) (n 6 10 (n 9 5 (m 0 11) e) (n 11 10 (m 16 8) e))))) (n 0 14 (n 0 11 (n 2 4 (n 3 15 (n 7 5 (m 0 11) (m 16 14)) (n 9 12 (m 0 12) e)) (n 5 9 (n 8 8 (m 13 5) e) (n 10 15 (m 15 12) e))) (n 3 3 (n 4 12 (n 0 11 (m 12 12) (m 0 11)) (n 10 5 (m 0 11) e)) (n 6 7 (n 0 11 (m 13 15) e) (n 0 12 (m 0 11) e)))) (n 1 15 (n 2 11 (n 0 11 (n 7 10 (m 12 7) (m 0 11)) (n 0 11 (m 14 14) e)) (n 1 2 (n 8 13 (m 0 11) e) (n 0 11 (m 16 1) e))) (n 0 11 (n 5 4 (n 8 3 (m 13 1) (m 17 13)) (n 10 10 (m 15 7) e)) (n 6 14 (n 0 12 (m 0 11) e) (n 11 14 (m 0 11) e))))))))) fun a b=>n a b e e
noncomputable def tX11(f:Nat->Nat->Gq->Obj)(P:Gq):G8:=tW11 (fun c i=>.node (f c i P)) .nil
noncomputable def tW12(n:Nat->Nat->G8->G8->G8)(e:G8):G8:=(fun m:Nat->Nat->G8=>(n 0 0 (n 0 1 (n 17 14 (n 0 7 (n 1 1 (n 0 11 (n 3 8 (n 6 15 (m 0 11) (m 16 10)) (n 9 8 (m 0 12) (m 0 12))) (n 5 5 (n 8 4 (m 0 11) (m 0 11)) (n 10 11 (m 15 8) (m 20 4)))) (n 0 11 (n 0 12 (n 0 11 (m 12 8) (m 0 12)) (n 10 1 (m 0 11) (m 19 11))) (n 6 3 (n 0 11 (m 13 10) (m 18 9)) (n 0 12 (m 0 11) e)))) (n 1 6 (n 2 5 (n 1 14 (n 0 11 (m 12 3) (m 16 15)) (n 0 11 (m 14 8) (m 19 6))) (n 5 10 (n 8 9 (m 0 11) (m 0 11)) (n 0 11 (m 15 13) e))) (n 0 11 (n 4 13 (n 7 15 (m 12 13) (m 17 8)) (n 10 6 (m 15 3) (m 20 0))) (n 0 11 (n 0 12 (m 0 11) (m 0 11)) (n 11 8 (m 0 12) e))))) (n 0 11 (n 0 12 (n 0 11 (n 3 12 (n 0 11 (m 0 11) (m 0 12)) (n 9 11 (m 14 6) (m 19 4))) (n 5 7 (n 8 6 (m 13 4) (m 18 2)) (n 0 11 (m 15 10) e))) (n 2 15 (n 4 9 (n 0 11 (m 12 10) (m 0 11)) (n 0 12 (m 0 11) (m 19 13))) (n 6 6 (n 9 1 (m 0 12) (m 0 11)) (n 11 6 (m 16 3) e)))) (n 1 10 (n 0 11 (n 4 4 (n 7 9 (m 0 12) (m 17 1)) (n 0 11 (m 14 11) (m 0 12))) (n 5 14 (n 0 11 (m 0 11) (m 0 11)) (n 11 1 (m 0 11) e))) (n 0 11 (n 1 2 (n 0 12 (m 0 11) (m 0 12)) (n 10 8 (m 0 12) (m 20 2))) (n 6 11 (n 9 6 (m 14 1) (m 18 15)) (n 11 11 (m 0 11) e)))))) (n 0 5 (n 0 9 (n 1 3 (n 2 0 (n 3 10 (n 1 2 (m 12 0) (m 16 12)) (n 9 9 (m 0 11) (m 0 11))) (n 0 11 (n 0 11 (m 13 2) (m 18 0)) (n 0 12 (m 0 11) (m 20 6)))) (n 2 13 (n 0 11 (n 7 12 (m 0 11) (m 17 5)) (n 10 3 (m 15 0) (m 0 11))) (n 6 4 (n 9 0 (m 13 12) (m 0 12)) (n 0 11 (m 16 2) e)))) (n 1 8 (n 1 2 (n 4 3 (n 7 7 (m 12 5) (m 0 11)) (n 9 14 (m 14 9) (m 19 8))) (n 5 12 (n 0 12 (m 13 7) (m 18 5)) (n 11 0 (m 0 12) e))) (n 3 5 (n 4 15 (n 8 1 (m 0 12) (m 17 10)) (n 0 11 (m 15 5) (m 0 12))) (n 6 9 (n 0 11 (m 14 0) (m 18 14)) (n 11 9 (m 16 7) e))))) (n 0 13 (n 1 5 (n 2 3 (n 3 14 (n 7 4 (m 12 2) (m 0 11)) (n 0 12 (m 0 11) (m 0 11))) (n 5 8 (n 8 7 (m 0 12) (m 0 12)) (n 10 14 (m 15 11) e))) (n 1 2 (n 4 11 (n 7 14 (m 12 11) (m 17 7)) (n 0 11 (m 15 2) (m 19 14))) (n 0 12 (n 9 3 (m 13 14) (m 18 12)) (n 0 11 (m 16 5) e)))) (n 1 2 (n 2 10 (n 4 6 (n 0 12 (m 0 11) (m 17 3)) (n 10 0 (m 0 12) (m 0 11))) (n 1 14 (n 8 12 (m 13 9) (m 18 7)) (n 11 3 (m 16 0) e))) (n 3 7 (n 0 11 (n 0 11 (m 13 0) (m 17 12)) (n 10 9 (m 0 11) (m 0 11))) (n 6 13 (n 0 11 (m 14 3) (m 19 1)) (n 0 12 (m 16 9) e))))))) (n 0 2 (n 0 4 (n 0 8 (n 1 2 (n 0 12 (n 3 9 (n 1 14 (m 11 15) (m 16 11)) (n 0 11 (m 14 4) (m 19 2))) (n 5 6 (n 8 5 (m 0 12) (m 0 12)) (n 0 11 (m 15 9) (m 20 5)))) (n 2 12 (n 4 7 (n 7 11 (m 12 9) (m 17 4)) (n 10 2 (m 14 15) (m 19 12))) (n 0 11 (n 0 12 (m 13 11) (m 0 11)) (n 11 4 (m 0 12) e)))) (n 7 2 (n 1 14 (n 1 2 (n 7 6 (m 12 4) (m 17 0)) (n 9 13 (m 0 11) (m 19 7))) (n 5 11 (n 0 11 (m 13 6) (m 18 4)) (n 0 12 (m 0 11) e))) (n 3 4 (n 4 14 (n 8 0 (m 0 11) (m 17 9)) (n 10 7 (m 15 4) (m 0 11))) (n 6 8 (n 9 4 (m 0 12) (m 0 12)) (n 0 11 (m 16 6) e))))) (n 17 15 (n 1 4 (n 2 2 (n 3 13 (n 0 12 (m 0 12) (m 16 13)) (n 0 11 (m 14 7) (m 19 5))) (n 0 11 (n 0 11 (m 0 11) (m 0 11)) (n 10 13 (m 0 11) e))) (n 1 14 (n 4 10 (n 0 12 (m 0 11) (m 0 12)) (n 10 4 (m 0 12) (m 0 11))) (n 0 11 (n 9 2 (m 13 13) (m 18 11)) (n 11 7 (m 16 4) e)))) (n 1 14 (n 0 12 (n 4 5 (n 0 11 (m 12 6) (m 17 2)) (n 0 12 (m 0 11) (m 19 9))) (n 5 15 (n 8 11 (m 0 12) (m 0 12)) (n 11 2 (m 15 15) e))) (n 0 12 (n 5 3 (n 8 2 (m 12 15) (m 17 11)) (n 0 11 (m 15 6) (m 20 3))) (n 6 12 (n 9 7 (m 14 2) (m 19 0)) (n 0 11 (m 0 12) e)))))) (n 0 6 (n 0 10 (n 0 11 (n 2 1 (n 3 11 (n 7 3 (m 12 1) (m 0 11)) (n 9 10 (m 14 5) (m 19 3))) (n 0 12 (n 0 12 (m 13 3) (m 18 1)) (n 10 12 (m 0 12) e))) (n 2 14 (n 4 8 (n 7 13 (m 0 12) (m 17 6)) (n 0 11 (m 15 1) (m 0 12))) (n 6 5 (n 0 11 (m 0 11) (m 18 10)) (n 11 5 (m 0 11) e)))) (n 1 9 (n 2 9 (n 0 11 (n 7 8 (m 0 11) (m 0 12)) (n 9 15 (m 14 10) (m 0 11))) (n 5 13 (n 8 10 (m 13 8) (m 18 6)) (n 0 11 (m 15 14) e))) (n 3 6 (n 1 14 (n 0 11 (m 12 14) (m 0 11)) (n 0 12 (m 0 11) (m 20 1))) (n 6 10 (n 9 5 (m 0 11) (m 0 11)) (n 11 10 (m 16 8) e))))) (n 0 14 (n 0 11 (n 2 4 (n 3 15 (n 7 5 (m 0 11) (m 16 14)) (n 9 12 (m 0 12) (m 0 12))) (n 5 9 (n 8 8 (m 13 5) (m 18 3)) (n 10 15 (m 15 12) e))) (n 3 3 (n 4 12 (n 0 11 (m 12 12) (m 0 11)) (n 10 5 (m 0 11) (m 19 15))) (n 6 7 (n 0 11 (m 13 15) (m 18 13)) (n 0 12 (m 0 11) e)))) (n 1 15 (n 2 11 (n 0 11 (n 7 10 (m 12 7) (m 0 11)) (n 0 11 (m 14 14) (m 19 10))) (n 1 2 (n 8 13 (m 0 11) (m 18 8)) (n 0 11 (m 16 1) e))) (n 0 11 (n 5 4 (n 8 3 (m 13 1) (m 17 13)) (n 10 10 (m 15 7) (m 0 12))) (n 6 14 (n 0 12 (m 0 11) (m 0 11)) (n 11 14 (m 0 11) e))))))))) fun a b=>n a b e e
noncomputable def tX12(f:Nat->Nat->Gq->Obj)(P:Gq):G8:=tW12 (fun c i=>.node (f c i P)) .nil
noncomputable def hX0(f:Nat->Nat->Gq->Obj)(P:Gq):Heap:=(fun g:Nat->Nat->Obj=>(⟨⟨[g 0 0,g 0 1,g 0 2,g 0 3,g 0 4,g 0 5,g 0 6,g 0 7,g 0 8,g 0 9,g 0 10,g 0 11,g 0 12,g 0 13,g 0 14]⟩,{}⟩:Heap)) fun a b=>f a b P
noncomputable def hX1(f:Nat->Nat->Gq->Obj)(P:Gq):Heap:=(fun g:Nat->Nat->Obj=>(⟨⟨[g 0 0,g 0 1,g 0 2,g 17 14,g 0 4,g 0 5,g 0 6,g 0 7,g 0 8,g 0 9,g 0 10,g 0 11,g 17 15,g 0 13,g 0 14,g 1 1,g 1 2,g 1 3,g 0 11,g 0 12,g 1 4,g 1 5,g 0 11,g 1 6,g 7 2,g 1 8,g 1 9,g 1 10,g 1 14,g 1 2,g 1 15,g 0 11,g 0 12,g 2 0,g 2 1,g 0 11,g 2 2,g 2 3,g 2 4,g 2 5,g 1 14,g 1 2,g 2 9,g 0 11,g 0 12,g 2 10,g 2 11,g 0 11,g 2 12,g 2 13,g 2 14,g 2 15,g 1 14,g 1 2,g 3 3,g 0 11,g 3 4,g 3 5,g 3 6,g 0 11,g 0 12,g 3 7,g 0 11,g 3 8,g 3 9,g 3 10,g 3 11,g 3 12,g 3 13,g 3 14,g 3 15,g 1 14,g 1 2,g 4 3,g 0 11,g 4 4,g 4 5,g 4 6,g 0 11,g 0 12,g 4 7,g 0 11,g 4 8,g 4 9,g 4 10,g 4 11,g 4 12,g 4 13,g 4 14,g 4 15,g 1 14,g 1 2,g 5 3,g 0 11,g 5 4,g 5 5,g 5 6,g 0 11,g 0 12,g 5 7,g 0 11,g 5 8,g 5 9,g 5 10,g 5 11,g 5 12,g 5 13,g 5 14,g 5 15,g 1 14,g 1 2,g 6 3,g 0 11,g 6 4,g 6 5,g 6 6,g 0 11,g 0 12,g 6 7,g 0 11,g 6 8,g 6 9,g 6 10,g 6 11,g 6 12,g 6 13,g 6 14,g 6 15,g 1 14,g 1 2,g 7 3,g 0 11,g 0 12,g 7 4,g 7 5,g 0 11,g 7 6,g 7 7,g 7 8,g 7 9,g 0 11,g 0 12,g 7 10,g 0 11,g 7 11,g 7 12,g 7 13,g 0 11,g 0 12,g 7 14,g 0 11,g 7 15,g 8 0,g 8 1,g 0 11,g 0 12,g 8 2,g 0 11,g 8 3,g 8 4,g 8 5,g 0 11,g 0 12,g 8 6,g 0 11,g 8 7,g 8 8,g 8 9,g 0 11,g 0 12,g 8 10,g 0 11,g 8 11,g 8 12,g 8 13,g 0 11,g 0 12,g 9 0,g 0 11,g 9 1,g 9 2,g 9 3,g 0 11,g 0 12,g 9 4,g 0 11,g 9 5,g 9 6,g 9 7,g 0 11,g 0 12,g 9 8,g 0 11,g 9 9,g 9 10,g 9 11,g 0 11,g 0 12,g 9 12,g 0 11,g 9 13,g 9 14,g 9 15,g 0 11,g 0 12,g 10 0,g 0 11,g 10 1,g 10 2,g 10 3,g 0 11,g 0 12,g 10 4,g 0 11,g 10 5,g 10 6,g 10 7,g 0 11,g 0 12,g 10 8,g 0 11,g 10 9,g 10 10,g 10 11,g 0 11,g 0 12,g 10 12,g 0 11,g 10 13,g 10 14,g 10 15,g 0 11,g 0 12,g 11 0,g 0 11,g 11 1,g 11 2,g 11 3,g 0 11,g 0 12,g 11 4,g 0 11,g 11 5,g 11 6,g 11 7,g 0 11,g 0 12,g 11 8,g 0 11,g 11 9,g 11 10,g 11 11,g 0 11,g 0 12,g 11 14,g 0 11,g 11 15,g 12 0,g 12 1,g 0 11,g 0 12,g 12 2,g 0 11,g 12 3,g 12 4,g 12 5,g 0 11,g 0 12,g 12 6,g 0 11,g 12 7,g 12 8,g 12 9,g 0 11,g 0 12,g 12 10,g 0 11,g 12 11,g 12 12,g 12 13,g 0 11,g 0 12,g 12 14,g 0 11,g 12 15,g 13 0,g 13 1,g 0 11,g 0 12,g 13 2,g 13 3,g 13 4,g 0 11,g 0 12,g 13 5,g 0 11,g 13 6,g 13 7,g 13 8,g 0 11,g 0 12,g 13 9,g 0 11,g 13 10,g 13 11,g 13 12,g 0 11,g 0 12,g 13 13,g 13 14,g 13 15,g 0 11,g 0 12,g 14 0,g 0 11,g 14 1,g 14 2,g 14 3,g 0 11,g 0 12,g 14 4,g 0 11,g 14 5,g 14 6,g 14 7,g 0 11,g 0 12,g 14 8,g 0 11,g 14 9,g 14 10,g 14 11,g 0 11,g 0 12,g 14 14,g 0 11,g 14 15,g 15 0,g 15 1,g 0 11,g 0 12,g 15 2,g 0 11,g 15 3,g 15 4,g 15 5,g 0 11,g 0 12,g 15 6,g 0 11,g 15 7,g 15 8,g 15 9,g 0 11,g 0 12,g 15 10,g 0 11,g 15 11,g 15 12,g 15 13,g 0 11,g 0 12,g 15 14,g 0 11,g 15 15,g 16 0,g 16 1,g 0 11,g 0 12,g 16 2,g 0 11,g 16 3,g 16 4,g 16 5,g 0 11,g 0 12,g 16 6,g 16 7,g 16 8,g 0 11,g 0 12,g 16 9,g 0 11,g 16 10,g 16 11,g 16 12,g 0 11,g 0 12,g 16 13,g 0 11,g 16 14,g 16 15,g 17 0,g 0 11,g 0 12,g 17 1,g 17 2,g 17 3,g 0 11,g 0 12,g 17 4,g 17 5,g 17 6,g 0 11,g 0 12,g 17 7,g 0 11,g 17 8,g 17 9,g 17 10,g 0 11,g 0 12,g 17 11,g 17 12,g 17 13,g 0 11,g 0 12,g 18 0,g 18 1,g 18 2,g 0 11,g 0 12,g 18 3,g 0 11,g 18 4,g 18 5,g 18 6,g 0 11,g 0 12,g 18 7,g 18 8,g 18 9,g 0 11,g 0 12,g 18 10,g 0 11,g 18 11,g 18 12,g 18 13,g 0 11,g 0 12,g 18 14,g 0 11,g 18 15,g 19 0,g 19 1,g 0 11,g 0 12,g 19 2,g 0 11,g 19 3,g 19 4,g 19 5,g 0 11,g 0 12,g 19 6,g 19 7,g 19 8,g 0 11,g 0 12,g 19 9,g 0 11,g 19 10,g 19 11,g 19 12,g 0 11,g 0 12,g 19 13,g 0 11,g 19 14,g 19 15,g 20 0,g 0 11,g 0 12,g 20 1,g 20 2,g 20 3,g 0 11,g 0 12,g 20 4,g 20 5,g 20 6]⟩,{}⟩:Heap)) fun a b=>f a b P
theorem laid:(fun(_:GC) (_:GC) (_:Nat->Nat->Gq->Obj) (_:List Stmt) (_:List Stmt) (_:List Stmt) (_:List Stmt) (_:List Stmt) (_:List Stmt) (_:List Stmt) (_:List Stmt) (_:List Stmt) (_:List Stmt) (_:List Stmt) (_:List Stmt)=>true) pw2 vw fA sx0 sx1 sx2 sx3 sx4 sx5 sx6 sx7 sx8 sx9 sx10 sx11=true:=by k_qdec
end QQ
namespace PySem.W.Fast
noncomputable def tw17479344305784211433:GC:=tw4061903402435717205
theorem te17479344305784211433:GI=tw17479344305784211433:=Eq.trans (by kernel_rfl:GI=QQ.pw2) te4061903402435717205
noncomputable def tw10418444664793497862:GC:=tw2543460329597916322
theorem te10418444664793497862:QQ.vw=tw10418444664793497862:=te2543460329597916322
noncomputable def tw13869237187661176674:List Stmt:=tw4220349153739756805
theorem te13869237187661176674:QQ.sx0=tw13869237187661176674:=te4220349153739756805
noncomputable def tw3518217931733126619:List Stmt:=tw11397161696757032129
theorem te3518217931733126619:QQ.sx1=tw3518217931733126619:=te11397161696757032129
noncomputable def tw2272981379451929552:List Stmt:=tw10303515436491237874
theorem te2272981379451929552:QQ.sx2=tw2272981379451929552:=te10303515436491237874
noncomputable def tw18178262798712397994:List Stmt:=tw12358083906500975388
theorem te18178262798712397994:QQ.sx3=tw18178262798712397994:=te12358083906500975388
noncomputable def tw4025234639070766304:List Stmt:=tw2861187580803015100
theorem te4025234639070766304:QQ.sx4=tw4025234639070766304:=te2861187580803015100
noncomputable def tw5917314023588116512:List Stmt:=tw9932084693255007381
theorem te5917314023588116512:QQ.sx5=tw5917314023588116512:=te9932084693255007381
noncomputable def tw8161625244342469180:List Stmt:=tw1890974291257386441
theorem te8161625244342469180:QQ.sx6=tw8161625244342469180:=te1890974291257386441
noncomputable def tw15199269322783759656:List Stmt:=tw11967835380637100291
theorem te15199269322783759656:QQ.sx7=tw15199269322783759656:=te11967835380637100291
noncomputable def tw9921947461086882658:List Stmt:=tw17779941298030502338
theorem te9921947461086882658:QQ.sx8=tw9921947461086882658:=te17779941298030502338
noncomputable def tw9409488826445946364:List Stmt:=tw17991644005593546017
theorem te9409488826445946364:QQ.sx9=tw9409488826445946364:=te17991644005593546017
noncomputable def tw14882974391939856776:List Stmt:=tw1963477239447466229
theorem te14882974391939856776:QQ.sx10=tw14882974391939856776:=te1963477239447466229
noncomputable def tw9654893715672560638:List Stmt:=tw9135815729137251366
theorem te9654893715672560638:QQ.sx11=tw9654893715672560638:=te9135815729137251366
noncomputable def tw18274841563650705153:Gq->BT:=QQ.tX0 tw16523235828492288951
theorem te18274841563650705153:QQ.tX0 QQ.fA=tw18274841563650705153:=congrArg QQ.tX0 te16523235828492288951
noncomputable def tw580284267207542476:Gq->BT:=QQ.tX1 tw16523235828492288951
theorem te580284267207542476:QQ.tX1 QQ.fA=tw580284267207542476:=congrArg QQ.tX1 te16523235828492288951
noncomputable def tw6428505993239559970:Gq->BT:=QQ.tX2 tw16523235828492288951
theorem te6428505993239559970:QQ.tX2 QQ.fA=tw6428505993239559970:=congrArg QQ.tX2 te16523235828492288951
noncomputable def tw9662252429191527176:Gq->BT:=QQ.tX3 tw16523235828492288951
theorem te9662252429191527176:QQ.tX3 QQ.fA=tw9662252429191527176:=congrArg QQ.tX3 te16523235828492288951
noncomputable def tw15006197388482308010:Gq->BT:=QQ.tX4 tw16523235828492288951
theorem te15006197388482308010:QQ.tX4 QQ.fA=tw15006197388482308010:=congrArg QQ.tX4 te16523235828492288951
noncomputable def tw15050619476525238891:Gq->BT:=QQ.tX5 tw16523235828492288951
theorem te15050619476525238891:QQ.tX5 QQ.fA=tw15050619476525238891:=congrArg QQ.tX5 te16523235828492288951
noncomputable def tw8629359064859149475:Gq->BT:=QQ.tX6 tw16523235828492288951
theorem te8629359064859149475:QQ.tX6 QQ.fA=tw8629359064859149475:=congrArg QQ.tX6 te16523235828492288951
noncomputable def tw10753564409280882657:Gq->BT:=QQ.tX7 tw16523235828492288951
theorem te10753564409280882657:QQ.tX7 QQ.fA=tw10753564409280882657:=congrArg QQ.tX7 te16523235828492288951
noncomputable def tw18226802102929615088:Gq->BT:=QQ.tX8 tw16523235828492288951
theorem te18226802102929615088:QQ.tX8 QQ.fA=tw18226802102929615088:=congrArg QQ.tX8 te16523235828492288951
noncomputable def tw7354582008677831439:Gq->BT:=QQ.tX9 tw16523235828492288951
theorem te7354582008677831439:QQ.tX9 QQ.fA=tw7354582008677831439:=congrArg QQ.tX9 te16523235828492288951
noncomputable def tw12506849646502282262:Gq->BT:=QQ.tX10 tw16523235828492288951
theorem te12506849646502282262:QQ.tX10 QQ.fA=tw12506849646502282262:=congrArg QQ.tX10 te16523235828492288951
noncomputable def tw8282972994281571731:Gq->BT:=QQ.tX11 tw16523235828492288951
theorem te8282972994281571731:QQ.tX11 QQ.fA=tw8282972994281571731:=congrArg QQ.tX11 te16523235828492288951
noncomputable def tw16373572985224132789:Gq->BT:=QQ.tX12 tw16523235828492288951
theorem te16373572985224132789:QQ.tX12 QQ.fA=tw16373572985224132789:=congrArg QQ.tX12 te16523235828492288951
noncomputable def tw8263134021237504275:Gq->PySem.Heap:=QQ.hX0 tw16523235828492288951
theorem te8263134021237504275:QQ.hX0 QQ.fA=tw8263134021237504275:=congrArg QQ.hX0 te16523235828492288951
noncomputable def tw17650416445326124430:Gq->PySem.Heap:=QQ.hX1 tw16523235828492288951
theorem te17650416445326124430:QQ.hX1 QQ.fA=tw17650416445326124430:=congrArg QQ.hX1 te16523235828492288951
end PySem.W.Fast
open PySem PySem.W PyProof.Rows
set_option maxRecDepth 100000 in
set_option maxHeartbeats 0 in
theorem PySem.Challenge.cw_spotlook_k65_texts_that_are_no_questions_holds : PySem.Challenge.rw_spotlook_k65_texts_that_are_no_questions.Holds := by
 w_on;o_law;o_head (PySem.W.kHook QQ.kK [↑2,↑3,↑23,↑24,↑36,↑37,↑48,↑49,↑64,↑65,↑67,↑68,↑83,↑84,↑86,↑87,↑102,↑103,↑105,↑106,↑121,↑122,↑124,↑125,↑136,↑137,↑145,↑146,↑152,↑153,↑159,↑160,↑166,↑167,↑173,↑174,↑180,↑181,↑187,↑188,↑194,↑195,↑201,↑202,↑208,↑209,↑215,↑216,↑222,↑223,↑229,↑230,↑236,↑237,↑243,↑244,↑250,↑251,↑257,↑258,↑264,↑265,↑271,↑272,↑278,↑279,↑285,↑286,↑290,↑291,↑297,↑298,↑304,↑305,↑309,↑310,↑316,↑317,↑323,↑324,↑330,↑331,↑337,↑338,↑344,↑345,↑351,↑352,↑358,↑359,↑365,↑366,↑372,↑373,↑377,↑378,↑384,↑385,↑391,↑392,↑396,↑397,↑401,↑402,↑408,↑409,↑413,↑414,↑418,↑419,↑425,↑426,↑430,↑431,↑437,↑438,↑444,↑445,↑451,↑452,↑456,↑457,↑463,↑464,↑470,↑471,↑475,↑476,↑480,↑481] (fun _=>by kernel_rfl));(case hw=>w_witness2)
 k_fill
 refine SD.xm (k:=12) (x:="_law_script") (sp:=QQ.ju) (l:=PySem.Challenge.rw_spotlook_k65_texts_that_are_no_questions) rfl rfl ⟨rfl,by decide,by decide⟩ (fun w h Y=>PySem.W.kIn_of Y) ?F QQ.Cb
 case F=>
  intro w mg fa h KX G hmg
  have T:QQ.Tx (L2.KOf KX) mg:=by
   dsimp only[L2.KOf]
   constructor
   all_goals first
    |(refine' SD.zp)
    |(refine' SD.Fi KX G ?a;(case a=>k_is))
    |(refine' SD.Gd ?a ?b;(case a=>k_is);(case b=>k_exc))
    |(refine' SD.zS ?a ?b;(case a=>k_is);(case b=>k_is))
    |(refine' SD.AL ?a ?b ?c ?d;(case a=>k_is);(case b=>k_is);(case c=>k_is);(case d=>k_is))
    |(refine' SD.BZ ?a ?b ?c;(case a=>k_is);(case b=>k_is);(case c=>k_is))
    |(refine' SD.Cj ?a ?b;(case a=>k_is);(case b=>k_is))
    |(refine' SD.Ez ?a ?b;(case a=>k_is);(case b=>k_is))
    |(refine' SD.AX ?a ?b ?l ?lN ?ok ?ni ?e ?fn ?kp ?hd ?sa ?ob ?lf ?cf ?kf;(case a=>k_is);(case b=>k_is);(case l=>k_is);(case lN=>k_is);(case ok=>rfl);(case ni=>k_is);(case e=>k_exc);(case fn=>k_is);(case kp=>k_is);(case hd=>k_is);(case sa=>k_is);(case ob=>k_is);(case lf=>k_is);(case cf=>k_is);(case kf=>k_is))
    |(refine' SD.EV ?a ?b ?c ?d ?e ?f ?g;(case a=>k_is);(case b=>k_is);(case c=>k_is);(case d=>k_is);(case e=>k_is);(case f=>k_is);(case g=>k_is))
    |(refine' SD.Ab ?a ?b (by decide +kernel);(case a=>k_is);(case b=>k_is))
    |(refine' SD.CC ?a ?b ?c ?d ?e;(case a=>k_is);(case b=>k_is);(case c=>k_is);(case d=>k_is);(case e=>with_unfolding_all rfl))
    |(refine' SD.DV KX G ?a;(case a=>k_is))
    |(refine' PySem.W.mg_none_of KX G ?a;(case a=>k_is))
    |(refine' SD.Txt.mk KX G ?a ?l ?c ?k;(case a=>k_is);(case l=>k_is);(case c=>k_is);(case k=>k_is))
  exact QQ.Eu T hmg
