import PyProof.Rows.All
import Wide.All
import OpenK.AllK
import Wide.FinOn
import Lean
import PyProof.EqAt
import PyProof.EqKinds
import PyProof.TupleCall
import PySem.Challenge.RW_spotlook_k60_plots_moved_mirrored_turned
set_option Elab.async false
set_option linter.all false
set_option maxRecDepth 100000
namespace L2
open PySem PySem.Spec PyProof.Rows
noncomputable abbrev Key := Sum Int Str
noncomputable def keyIs : Key → Value → Bool
  | .inl k, v => Value.isInt k v
  | .inr x, v => Value.isStrOf x v
noncomputable def keyH (w : World) : Key → Int
  | .inl k => hashInt k
  | .inr x => hashStr w x
theorem keyIs_shape : ∀ {k : Key} {v : Value}, keyIs k v = true → (∃ i t, k = Sum.inl i ∧ v = Value.int i t) ∨ (∃ x t, k = Sum.inr x ∧ v = Value.str x t)
  | .inl i, v, h => by
    obtain ⟨t, e⟩ := Value.isInt_shape (k := i) (v := v) h
    exact .inl ⟨i, t, rfl, e⟩
  | .inr x, v, h => by
    obtain ⟨t, e⟩ := Value.isStrOf_shape (x := x) (v := v) h
    exact .inr ⟨x, t, rfl, e⟩
theorem key_ll (a b : Int) : decide ((Sum.inl a : Key) = Sum.inl b) = (a == b) := by
  by_cases e : a = b
  · subst e; simp
  · have h : ¬ (Sum.inl a : Key) = Sum.inl b := fun q => e (Sum.inl.inj q)
    rw [decide_eq_false h]
    exact (beq_eq_false_iff_ne.mpr e).symm
theorem key_rr (a b : Str) : decide ((Sum.inr a : Key) = Sum.inr b) = decide (a = b) := by
  by_cases e : a = b
  · subst e; simp
  · have h : ¬ (Sum.inr a : Key) = Sum.inr b := fun q => e (Sum.inr.inj q)
    rw [decide_eq_false h, decide_eq_false e]
theorem key_lr (a : Int) (b : Str) : decide ((Sum.inl a : Key) = Sum.inr b) = false := decide_eq_false (fun q => nomatch q)
theorem key_rl (a : Str) (b : Int) : decide ((Sum.inr a : Key) = Sum.inl b) = false := decide_eq_false (fun q => nomatch q)
noncomputable def mixKind (prog : Program) (w : World) : PySem.KeyKind prog w Key where
  is := keyIs
  hash := keyH w
  inj := fun v a b ha hb => by
    rcases keyIs_shape ha with ⟨i, t, rfl, rfl⟩ | ⟨x, t, rfl, rfl⟩
    · rcases keyIs_shape hb with ⟨j, u, rfl, e⟩ | ⟨y, u, rfl, e⟩
      · injection e with e1 _; rw [e1]
      · exact nomatch e
    · rcases keyIs_shape hb with ⟨j, u, rfl, e⟩ | ⟨y, u, rfl, e⟩
      · exact nomatch e
      · injection e with e1 _; rw [e1]
  byValue := fun k v h => by
    rcases keyIs_shape h with ⟨i, t, rfl, rfl⟩ | ⟨x, t, rfl, rfl⟩ <;> rfl
  pyHash := fun hv h => by
    rcases keyIs_shape hv with ⟨i, t, rfl, rfl⟩ | ⟨x, t, rfl, rfl⟩
    · exact wpAny_pyHash_int h
    · exact wpAny_pyHash_str h
  eqBool := fun hu hv h => by
    rcases keyIs_shape hu with ⟨i, t, rfl, rfl⟩ | ⟨x, t, rfl, rfl⟩
    · rcases keyIs_shape hv with ⟨j, u, rfl, rfl⟩ | ⟨y, u, rfl, rfl⟩
      · rw [key_ll] at h; exact wpAny_eqBool_int h
      · rw [key_lr] at h; exact SeqAt.EqAt.int_str i t y u _ _ _ _ h
    · rcases keyIs_shape hv with ⟨j, u, rfl, rfl⟩ | ⟨y, u, rfl, rfl⟩
      · rw [key_rl] at h; exact SeqAt.EqAt.str_int x t j u _ _ _ _ h
      · rw [key_rr] at h; exact wpAny_eqBool_str h
  «strs» := fun k x t v h => by
    rcases keyIs_shape h with ⟨i, u, rfl, e⟩ | ⟨y, u, rfl, e⟩
    · exact nomatch e
    · injection e with e1 _
      subst e1
      cases v <;> rfl
end L2
namespace L2
open PySem PySem.Spec PyProof.Rows
inductive V where
  | non | bl (b : Bool) | int (i : Int) | str (x : Str) | byt (b : Array UInt8) | flt (b : UInt64) | ref (a : Addr) | ty (n : String)
  deriving DecidableEq
noncomputable def RelV : V → Value → Prop
  | .non, u => u = Value.none
  | .bl b, u => u = Value.bool b
  | .int i, u => ∃ t, u = Value.int i t
  | .str x, u => ∃ t, u = Value.str x t
  | .byt b, u => ∃ t, u = Value.bytes b t
  | .flt b, u => ∃ t, u = Value.float b t
  | .ref a, u => u = Value.ref a
  | .ty n, u => u = Value.type n
noncomputable abbrev Vals : List V → List Value → Prop := Paired RelV
theorem Vals.length {xs : List V} {us : List Value} (r : Vals xs us) : xs.length = us.length := Paired.length r
theorem Vals.get : ∀ {xs : List V} {us : List Value} {i : Nat} {x : V}, Vals xs us → xs[i]? = some x → ∃ u, us[i]? = some u ∧ RelV x u
  | _, _, _, _, .nil, e => by simp at e
  | _, _, 0, _, .cons r _, e => by simp at e; subst e; exact ⟨_, rfl, r⟩
  | _, _, i + 1, x, .cons _ t, e => by
    obtain ⟨u, h1, h2⟩ := Vals.get (i := i) (x := x) t (by simpa using e)
    exact ⟨u, by simpa using h1, h2⟩
theorem Vals.set {x : V} {u : Value} (r : RelV x u) : ∀ {xs : List V} {us : List Value} (i : Nat), Vals xs us → Vals (xs.set i x) (us.set i u)
  | _, _, _, .nil => .nil
  | _, _, 0, .cons _ t => .cons r t
  | _, _, i + 1, .cons q t => .cons q (Vals.set r i t)
theorem Vals.append : ∀ {xs ys : List V} {us ws : List Value}, Vals xs us → Vals ys ws → Vals (xs ++ ys) (us ++ ws)
  | _, _, _, _, .nil, s => s
  | _, _, _, _, .cons r t, s => .cons r (Vals.append t s)
theorem Vals.take : ∀ {xs : List V} {us : List Value} (n : Nat), Vals xs us → Vals (xs.take n) (us.take n)
  | _, _, 0, _ => .nil
  | _, _, _ + 1, .nil => .nil
  | _, _, n + 1, .cons r t => .cons r (Vals.take n t)
theorem Vals.drop : ∀ {xs : List V} {us : List Value} (n : Nat), Vals xs us → Vals (xs.drop n) (us.drop n)
  | _, _, 0, r => r
  | _, _, _ + 1, .nil => .nil
  | _, _, n + 1, .cons _ t => Vals.drop n t
noncomputable def RelO : Option V → Option Value → Prop
  | some v, some u => RelV v u
  | none, none => True
  | _, _ => False
noncomputable def KV {κ : Type} : List (κ × V) → List (κ × Value) → Prop := Paired fun (p : κ × V) (q : κ × Value) => p.1 = q.1 ∧ RelV p.2 q.2
noncomputable def kV : Key → V
  | .inl i => .int i
  | .inr x => .str x
inductive HO where
  | lst (xs : List V)
  | tup (xs : List V)
  | dK (kvs : List (Key × V)) | dT (kvs : List (List Key × V))
  | set (S : Int → Bool) (n : Nat)
  | ins (C dx : Addr) (fs : List (Str × V))
  | own (x : Addr)
  | xd (fs : List (Str × V))
  | met (f x : Addr)
  | rng (lo hi : Int)
  | frz (o : Obj) (u : HO)
  | tbl (ps : Array Value)
  | ext (φ : Heap → Prop)
noncomputable abbrev Hp := Addr → Option HO
noncomputable def upd (H : Hp) (a : Addr) (o : HO) : Hp := fun b => if b = a then some o else H b
theorem upd_same {H : Hp} {a : Addr} {o : HO} : upd H a o a = some o := by unfold upd; rw [if_pos rfl]
theorem upd_ne {H : Hp} {a b : Addr} {o : HO} (h : b ≠ a) : upd H a o b = H b := by unfold upd; rw [if_neg h]
theorem ne_of_none {H : Hp} {a b : Addr} {o : HO} (h : H a = some o) (h' : H b = none) : a ≠ b := by
  intro e; subst e; rw [h] at h'; cases h'
section
variable (P : Program) (w : World)
noncomputable def NoD (h : Heap) (a : Addr) : Prop := ∃ o, h.get? a = some o ∧ o.dict = none
theorem NoD.new (h : Heap) (u : Array Value) : NoD (h.push { cls := .type "tuple", data := .seq u }) h.objs.size := ⟨_, Heap.get?_push_size _ rfl, rfl⟩
noncomputable def ObjOk (H : Hp) (h : Heap) (a : Addr) : HO → Prop
  | .lst xs => xs.length ≤ sizeLine ∧ ∃ (its : List Value) (n : Nat), Vals xs its ∧ h.get? a = some { cls := .type "list", data := .seq its.toArray n }
  | .tup xs => xs.length ≤ sizeLine ∧ ∃ its : List Value, Vals xs its ∧ IsTup h a its.toArray ∧ NoD h a
  | .dK kvs => kvs.length ≤ sizeLine ∧ (a == sysModules) = false ∧ ∃ vs, KV kvs vs ∧ h.DictOf (mixKind P w) a vs
  | .dT kvs => kvs.length ≤ sizeLine ∧ (a == sysModules) = false ∧ ∃ xs : List (List Key × Addr × Value),
      Paired (fun (p : List Key × V) (q : List Key × Addr × Value) => p.1 = q.1 ∧ H q.2.1 = some (.tup (p.1.map kV)) ∧ RelV p.2 q.2.2) kvs xs ∧
      ∃ o es ep, h.get? a = some o ∧ o.ExactDict ∧ o.data = .dict es ep ∧ es.toList = xs.map (entryOfKey (tupleKind (mixKind P w))) ∧ (xs.map (·.1)).Nodup
  | .set S n => h.SetOf (intKind P w) a S n
  | .ins C dx fs => H dx = some (.own a) ∧ fs.length ≤ 1000 ∧ dx ≠ a ∧ h.get? a = some (PySem.W.instObj C dx) ∧
      ∃ mA, h.Ns1 dx mA ∧ (∀ f, RelO (fs.lookup f) (mA f)) ∧ PySem.Within mA (fs.map (·.1))
  | .own _ => ∃ o, h.get? a = some o
  | .xd fs => ∃ mA, h.Ns1 a mA ∧ ∀ f, RelO (fs.lookup f) (mA f)
  | .rng lo hi => ∃ t u v, h.get? a = some { cls := .type "range", data := .fields #[.int lo t, .int hi u, .int 1 v] }
  | .frz o u => h.get? a = some o ∧ ObjOk H h a u
  | .tbl ps => h.get? a = some { cls := .none, data := .fields ps }
  | .met f x => h.get? a = some (PySem.W.methodObj (.ref f) (.ref x))
  | .ext φ => φ h ∧ (∃ o, h.get? a = some o) ∧ ∀ h1 h2 : Heap, φ h1 → (∀ o, h1.get? a = some o → h2.get? a = some o) → φ h2
noncomputable def HOk (H : Hp) (h : Heap) : Prop := ∀ a o, H a = some o → ObjOk P w H h a o
end
section
variable {P : Program} {w : World} {H H' : Hp} {h h' : Heap} {a : Addr} {o : HO}
theorem ObjOk.lt (x : ObjOk P w H h a o) : a < h.objs.size := by
  cases o with
  | lst xs => obtain ⟨_, _, _, _, e⟩ := x; exact Heap.lt_size e
  | tup xs => obtain ⟨_, _, _, p, _⟩ := x; exact p.lt
  | dK kvs => obtain ⟨_, _, _, _, o, _, _, e, _⟩ := x; exact Heap.lt_size e
  | dT kvs => obtain ⟨_, _, _, _, o, _, _, e, _⟩ := x; exact Heap.lt_size e
  | set S n => obtain ⟨o, _, _, _, e, _⟩ := x; exact Heap.lt_size e
  | ins C dx fs => obtain ⟨_, _, _, e, _⟩ := x; exact Heap.lt_size e
  | own y => obtain ⟨_, e⟩ := x; exact Heap.lt_size e
  | xd fs => obtain ⟨_, ⟨_, _, _, e, _⟩, _⟩ := x; exact Heap.lt_size e
  | rng lo hi => obtain ⟨_, _, _, e⟩ := x; exact Heap.lt_size e
  | frz ob u => obtain ⟨e, _⟩ := x; exact Heap.lt_size e
  | tbl ps => exact Heap.lt_size (show h.get? a = some _ from x)
  | met f y => exact Heap.lt_size (show h.get? a = some _ from x)
  | ext φ => obtain ⟨_, ⟨_, e⟩, _⟩ := x; exact Heap.lt_size e
theorem Paired.mapP {α β : Type} {F G : α → β → Prop} : ∀ {l₁ : List α} {l₂ : List β}, Paired F l₁ l₂ → (∀ a b, F a b → G a b) → Paired G l₁ l₂
  | _, _, .nil, _ => .nil
  | _, _, .cons r t, f => .cons (f _ _ r) (Paired.mapP t f)
theorem ObjOk.stay (x : ObjOk P w H h a o) (k : ∀ b u, (b = a ∨ H b = some (.own a)) → h.get? b = some u → h'.get? b = some u)
    (ho : ∀ b, H b = some (.own a) → H' b = some (.own a)) (ht : ∀ b xs, H b = some (.tup xs) → H' b = some (.tup xs)) : ObjOk P w H' h' a o := by
  induction o with
  | lst xs => obtain ⟨z, its, n, r, e⟩ := x; exact ⟨z, its, n, r, k _ _ (.inl rfl) e⟩
  | tup xs => obtain ⟨z, its, r, ⟨ob, e, c⟩, o2, e2, d2⟩ := x; exact ⟨z, its, r, ⟨ob, k _ _ (.inl rfl) e, c⟩, o2, k _ _ (.inl rfl) e2, d2⟩
  | dK kvs => obtain ⟨z, y, vs, r, ob, es, ep, e, c⟩ := x; exact ⟨z, y, vs, r, ob, es, ep, k _ _ (.inl rfl) e, c⟩
  | dT kvs =>
    obtain ⟨z, y, xs, r, ob, es, ep, e, c⟩ := x
    exact ⟨z, y, xs, Paired.mapP r fun p q z => ⟨z.1, ht _ _ z.2.1, z.2.2⟩, ob, es, ep, k _ _ (.inl rfl) e, c⟩
  | set S n => obtain ⟨ob, es, ep, t, e, c⟩ := x; exact ⟨ob, es, ep, t, k _ _ (.inl rfl) e, c⟩
  | ins C dx fs =>
    obtain ⟨d, z, ne, e, mA, ⟨od, es, ep, e2, c⟩, r⟩ := x
    exact ⟨ho _ d, z, ne, k _ _ (.inl rfl) e, mA, ⟨od, es, ep, k _ _ (.inr d) e2, c⟩, r⟩
  | own y => obtain ⟨ob, e⟩ := x; exact ⟨ob, k _ _ (.inl rfl) e⟩
  | xd fs => obtain ⟨mA, ⟨od, es, ep, e, c⟩, r⟩ := x; exact ⟨mA, ⟨od, es, ep, k _ _ (.inl rfl) e, c⟩, r⟩
  | rng lo hi => obtain ⟨t, u, v, e⟩ := x; exact ⟨t, u, v, k _ _ (.inl rfl) e⟩
  | frz ob u ih => obtain ⟨e, q⟩ := x; exact ⟨k _ _ (.inl rfl) e, ih q⟩
  | tbl ps =>
    have e : h.get? a = some { cls := .none, data := .fields ps } := x
    show h'.get? a = some { cls := .none, data := .fields ps }
    exact k a _ (.inl rfl) e
  | met f y =>
    have e : h.get? a = some (PySem.W.methodObj (.ref f) (.ref y)) := x
    show h'.get? a = some (PySem.W.methodObj (.ref f) (.ref y))
    exact k a _ (.inl rfl) e
  | ext φ => obtain ⟨p, ⟨o, e⟩, st⟩ := x; exact ⟨st _ _ p fun o q => k _ _ (.inl rfl) q, ⟨o, k _ _ (.inl rfl) e⟩, st⟩
theorem HOk.lt (x : HOk P w H h) (e : H a = some o) : a < h.objs.size := (x a o e).lt
theorem HOk.fresh (x : HOk P w H h) (e : h.objs.size ≤ a) : H a = none := by
  cases q : H a with
  | none => rfl
  | some u => exact absurd (Nat.lt_of_lt_of_le (x.lt q) e) (Nat.lt_irrefl _)
theorem HOk.kept (x : HOk P w H h) (k : ∀ b u, h.get? b = some u → h'.get? b = some u) : HOk P w H h' := fun a o e =>
  (x a o e).stay (fun b u _ q => k b u q) (fun _ q => q) fun _ _ q => q
theorem HOk.laid (x : HOk P w H h) (k : ∀ b u, h.get? b = some u → h'.get? b = some u) (hp : h.objs.size ≤ a) (new : ObjOk P w (upd H a o) h' a o) : HOk P w (upd H a o) h' := fun b u e => by
  have hn := x.fresh hp
  by_cases hb : b = a
  · subst hb; rw [upd_same] at e; cases e; exact new
  · rw [upd_ne hb] at e
    exact (x b u e).stay (fun c v _ q => k c v q) (fun c q => by rw [upd_ne (ne_of_none q hn)]; exact q) fun c xs q => by rw [upd_ne (ne_of_none q hn)]; exact q
end
noncomputable def Rd (H : Hp) (a : Addr) (u : HO) : Prop := H a = some u ∨ ∃ o, H a = some (.frz o u)
theorem Rd.of {H : Hp} {a : Addr} {u : HO} (h : H a = some u) : Rd H a u := .inl h
theorem Rd.ok {P : Program} {w : World} {H : Hp} {h : Heap} {a : Addr} {u : HO} (r : Rd H a u) (x : HOk P w H h) : ObjOk P w H h a u := by
  rcases r with r | ⟨o, r⟩
  · exact x a u r
  · obtain ⟨_, q⟩ := x a _ r
    exact q
noncomputable def Mut : Option HO → Prop
  | some (.lst _) => True
  | some (.dK _) => True
  | some (.dT _) => True
  | some (.set _ _) => True
  | some (.ins _ _ _) => True
  | some (.ext _) => True
  | _ => False
section
variable {P : Program} {w : World} {H : Hp} {h h' : Heap} {x e : Addr} {o' : HO}
theorem HOk.write (ok : HOk P w H h) (mu : Mut (H x)) (he : e = x ∨ H e = some (.own x)) (k : ∀ b u, b ≠ e → h.get? b = some u → h'.get? b = some u) (heo : ∃ u, h'.get? e = some u)
    (new : ObjOk P w (upd H x o') h' x o') : HOk P w (upd H x o') h' := fun b u q => by
  have nown : ∀ c y, H c = some (.own y) → c ≠ x := fun c y r z => by subst z; rw [r] at mu; exact mu
  have ntup : ∀ c xs, H c = some (.tup xs) → c ≠ x := fun c xs r z => by subst z; rw [r] at mu; exact mu
  by_cases hb : b = x
  · subst hb; rw [upd_same] at q; cases q; exact new
  · rw [upd_ne hb] at q
    by_cases hbe : b = e
    · have q' : H b = some (.own x) := by
        rcases he with z | z
        · exact absurd (hbe.trans z) hb
        · rw [hbe]; exact z
      rw [q] at q'; cases q'
      obtain ⟨v, hv⟩ := heo
      exact ⟨v, by rw [hbe]; exact hv⟩
    · refine (ok b u q).stay (fun c v hc r => k c v ?_ r) (fun c r => by rw [upd_ne (nown c b r)]; exact r) fun c xs r => by rw [upd_ne (ntup c xs r)]; exact r
      rcases hc with rfl | hc
      · exact hbe
      · rintro rfl
        rcases he with z | z
        · exact nown c b hc z
        · rw [hc] at z; cases z; exact hb rfl
end
structure Un (fs ex : List Addr) (H H' : Hp) (h h' : Heap) : Prop where
  keep : ∀ b o, h.get? b = some o → H b = none → b ∉ fs → b ∉ ex → h'.get? b = some o
  slot : ∀ b o, h.get? b = some o → H b = none → b ∈ fs → b ∉ ex → ∃ sl, h'.get? b = some { o with slots := sl }
  free : ∀ b o, h.get? b = some o → H b = none → b ∉ ex → H' b = none
  there : ∀ b o, h.get? b = some o → b ∉ ex → ∃ o', h'.get? b = some o'
  tups : ∀ b xs, H b = some (.tup xs) → H' b = some (.tup xs)
  frzs : ∀ b o u, H b = some (.frz o u) → H' b = some (.frz o u)
  tbls : ∀ b ps, H b = some (.tbl ps) → ∃ more, H' b = some (.tbl (ps ++ more))
section
variable {fs fs' ex ex' : List Addr} {H H1 H2 : Hp} {h h1 h2 h' : Heap} {a x e : Addr} {o : HO}
theorem Un.any (u : Un fs ex H H1 h h1) {b : Addr} {ob : Obj} (q : h.get? b = some ob) (n : H b = none) (hx : b ∉ ex) : ∃ sl, h1.get? b = some { ob with slots := sl } := by
  by_cases hb : b ∈ fs
  · exact u.slot b ob q n hb hx
  · exact ⟨ob.slots, u.keep b ob q n hb hx⟩
theorem Un.trans (a : Un fs ex H H1 h h1) (b : Un fs ex H1 H2 h1 h2) : Un fs ex H H2 h h2 where
  keep := fun c ob q n hc hx => b.keep c ob (a.keep c ob q n hc hx) (a.free c ob q n hx) hc hx
  slot := fun c ob q n hc hx => by
    obtain ⟨sl, e1⟩ := a.slot c ob q n hc hx
    obtain ⟨sl', e2⟩ := b.slot c _ e1 (a.free c ob q n hx) hc hx
    exact ⟨sl', e2⟩
  free := fun c ob q n hx => by
    obtain ⟨o', e1⟩ := a.there c ob q hx
    exact b.free c o' e1 (a.free c ob q n hx) hx
  there := fun c ob q hx => by
    obtain ⟨o', e1⟩ := a.there c ob q hx
    exact b.there c o' e1 hx
  tups := fun c xs q => b.tups c xs (a.tups c xs q)
  frzs := fun c ob xs q => b.frzs c ob xs (a.frzs c ob xs q)
  tbls := fun c ps q => by
    obtain ⟨m1, e1⟩ := a.tbls c ps q
    obtain ⟨m2, e2⟩ := b.tbls c _ e1
    exact ⟨m1 ++ m2, by rw [e2, Array.append_assoc]⟩
theorem Un.kept (k : ∀ b u, h.get? b = some u → h'.get? b = some u) : Un fs ex H H h h' :=
  ⟨fun b ob q _ _ _ => k b ob q, fun b ob q _ _ _ => ⟨ob.slots, k b ob q⟩, fun _ _ _ n _ => n, fun b ob q _ => ⟨ob, k b ob q⟩, fun _ _ q => q, fun _ _ _ q => q, fun _ ps q => ⟨#[], by rw [q]; simp⟩⟩
theorem Un.refl : Un fs ex H H h h := Un.kept fun _ _ q => q
theorem Un.laid (k : ∀ b u, h.get? b = some u → h'.get? b = some u) (hp : h.objs.size ≤ a) (hn : H a = none) : Un fs ex H (upd H a o) h h' where
  keep := fun b u q _ _ _ => k b u q
  slot := fun b u q _ _ _ => ⟨u.slots, k b u q⟩
  free := fun b u q n _ => by rw [upd_ne (Nat.ne_of_lt (Nat.lt_of_lt_of_le (Heap.lt_size q) hp))]; exact n
  there := fun b u q _ => ⟨u, k b u q⟩
  tups := fun b xs q => by rw [upd_ne (ne_of_none q hn)]; exact q
  frzs := fun b u xs q => by rw [upd_ne (ne_of_none q hn)]; exact q
  tbls := fun b ps q => ⟨#[], by rw [upd_ne (ne_of_none q hn), q]; simp⟩
theorem Un.write (mu : Mut (H x)) (he : e = x ∨ H e = some (.own x)) (k : ∀ b u, b ≠ e → h.get? b = some u → h'.get? b = some u) (heo : ∃ u, h'.get? e = some u) : Un fs ex H (upd H x o) h h' := by
  have hx : ∀ b, H b = none → b ≠ x := fun b n z => by subst z; rw [n] at mu; exact mu
  have hb : ∀ b, H b = none → b ≠ e := fun b n z => by
    subst z
    rcases he with r | r
    · exact hx b n r
    · rw [n] at r; cases r
  have hm : ∀ b u, H b = some u → ¬ Mut (some u) → b ≠ x := fun b u q nm z => by subst z; rw [q] at mu; exact nm mu
  refine ⟨fun b u q n _ _ => k b u (hb b n) q, fun b u q n _ _ => ⟨u.slots, k b u (hb b n) q⟩, fun b u q n _ => by rw [upd_ne (hx b n)]; exact n, fun b u q _ => ?_,
    fun b xs q => by rw [upd_ne (hm b _ q fun z => z)]; exact q, fun b u xs q => by rw [upd_ne (hm b _ q fun z => z)]; exact q, fun b ps q => ⟨#[], by rw [upd_ne (hm b _ q fun z => z), q]; simp⟩⟩
  by_cases hbe : b = e
  · subst hbe; exact heo
  · exact ⟨u, k b u hbe q⟩
theorem Un.mono (u : Un fs ex H H1 h h1) (hs : ∀ b ∈ fs, b ∈ fs') (hx : ∀ b ∈ ex, b ∈ ex') : Un fs' ex' H H1 h h1 :=
  ⟨fun b ob q n hb he => u.keep b ob q n (fun z => hb (hs b z)) fun z => he (hx b z), fun _ _ q n _ he => u.any q n fun z => he (hx _ z), fun b ob q n he => u.free b ob q n fun z => he (hx b z), fun b ob q he => u.there b ob q fun z => he (hx b z), u.tups, u.frzs, u.tbls⟩
end
noncomputable def trk (h : Heap) (H : Hp) : List Addr := (List.range h.objs.size).filter fun a => (H a).isSome
noncomputable def hidT (h : Heap) (H : Hp) : Heap := PySem.W.hideAll h (trk h H)
theorem hidT_size (h : Heap) (H : Hp) : (hidT h H).objs.size = h.objs.size := PySem.W.hideAll_size _ _
theorem hidT_get {h : Heap} {H : Hp} {b : Addr} {o : Obj} (e : h.get? b = some o) (n : H b = none) : (hidT h H).get? b = some o :=
  PySem.W.hideAll_get _ e fun hm => by
    have q : (H b).isSome = true := (List.mem_filter.mp hm).2
    rw [n] at q; simp at q
theorem of_hidT {h : Heap} {H : Hp} {b : Addr} {o : Obj} (e : (hidT h H).get? b = some o) : h.get? b = some o ∧ H b = none := by
  have e' : h.get? b = some o := PySem.W.of_hideAll (trk h H) e
  refine ⟨e', ?_⟩
  cases q : H b with
  | none => rfl
  | some x =>
    have hm : b ∈ trk h H := List.mem_filter.mpr ⟨List.mem_range.mpr (Heap.lt_size e'), by simp [q]⟩
    have z : (hidT h H).get? b = none := PySem.W.hideAll_none (trk h H) hm
    rw [z] at e; cases e
noncomputable def allNews (g h : Heap) (L : Addr) : List (Addr × Obj) := (List.range h.objs.size).filterMap fun a => if a = L ∨ (g.get? a).isSome = true then none else (h.get? a).map fun o => (a, o)
noncomputable def rest (g h : Heap) (L d : Addr) : List (Addr × Obj) := (allNews g h L).filter fun p => decide (p.1 ≠ d)
end L2
namespace L2
open PySem PySem.Spec PyProof.Rows
structure Mod (K : PySem.W.Frag) (mg : Str → Option Value) (base : Heap) : Prop where
  kin : K.In base
  glob : base.Ns mainGlobals mg
  blt : ∃ mb, base.Ns builtinsNs mb ∧ ∀ x : Str, x ≠ "__name__" → mb x = bootBuiltins x
  nolimit : base.NoLimit
structure Cx where
  prog : Program
  w : World
  K : PySem.W.Frag
  mg : Str → Option Value
  base : Heap
  A : Around
  N : List Str
  s₀ : Shared
  H₀ : Hp
  env : Env
  outer : List Env
  stack : List Env
  ex : List Addr
  fn : Str → Bool
  calm : Bool
  pn : List (Addr × Obj)
  xe : Value → Shared → Prop
noncomputable def frs (l : List Env) : List Addr := l.filterMap (·.frame)
noncomputable abbrev Cx.fs (X : Cx) : List Addr := frs X.outer
noncomputable def Vis (sc : Scope) (x : Str) : Prop := sc.names.lookup x = some .local ∨ sc.names.lookup x = some .cell ∨ sc.names.lookup x = some .free
noncomputable def Loc (sc : Scope) (x : Str) : Prop := sc.names.lookup x = some .local ∨ sc.names.lookup x = some .cell
noncomputable def Look (env : Env) (h : Heap) (m : Str → Option Value) (x : Str) (u : Value) : Prop :=
  (env.kindOf x = some .local ∧ m x = some u) ∨ ((env.kindOf x = some .cell ∨ env.kindOf x = some .free) ∧ ∃ c, env.cells.lookup x = some c ∧ h.IsCell c (some u))
structure Cx.Ok (X : Cx) : Prop where
  mod : Mod X.K X.mg X.base
  kind : X.env.scope.kind = .function
  glob : X.env.globals = mainGlobals
  blt : X.env.builtins = builtinsNs
  above : X.s₀.heap.objs.size ≤ X.env.locals
  inj : ∀ x y c, X.env.cells.lookup x = some c → X.env.cells.lookup y = some c → x = y
  has : ∀ x, (X.env.kindOf x = some .cell ∨ X.env.kindOf x = some .free) → ∃ c, X.env.cells.lookup x = some c
  cab : ∀ x c, X.fn x = true → X.env.cells.lookup x = some c → X.s₀.heap.objs.size ≤ c
  hd : X.calm = true → X.A.handled = none
  frames : X.A.frames = some X.stack
  stk : X.stack = X.outer ∨ (X.stack = X.env :: X.outer ∧ X.env.frame = some X.env.locals)
  exf : ∀ b ∈ X.ex, b ≠ X.env.locals ∧ ∀ x c, X.env.cells.lookup x = some c → c ≠ b
  bs : ∀ b o, X.base.get? b = some o → X.s₀.heap.get? b = some o ∧ X.H₀ b = none
  bsz : X.base.objs.size ≤ X.s₀.heap.objs.size
  noex : ∀ b o, X.base.get? b = some o → b ∉ X.ex
  exfs : ∀ b ∈ X.ex, b ∉ X.fs
  funs : X.s₀.heap.FunFrames X.base X.outer
  frf : ∀ b ∈ X.fs, X.H₀ b = none
structure Inv (X : Cx) (pins : List (Addr × Obj)) (σ : List (Option V)) (H : Hp) (s : Shared) : Prop where
  ok : X.Ok
  os : s.os = X.s₀.os
  bare : AllBare s.gens
  base : Un X.fs X.ex X.H₀ H X.s₀.heap s.heap
  loc : ∃ m, s.heap.Ns X.env.locals m ∧ ∀ (i : Nat) (x : Str) (v : V), X.N[i]? = some x → σ[i]? = some (some v) → Vis X.env.scope x → ∃ u, RelV v u ∧ Look X.env s.heap m x u
  cell : ∀ x c, X.env.cells.lookup x = some c → ∃ v, s.heap.IsCell c v
  free : H X.env.locals = none
  freeC : ∀ x c, X.env.cells.lookup x = some c → H c = none
  pin : ∀ p ∈ X.pn ++ pins, s.heap.get? p.1 = some p.2 ∧ H p.1 = none ∧ p.1 ≠ X.env.locals ∧ p.1 ∉ X.fs ∧ ∀ v, p.2.data ≠ .cell v
  hok : HOk X.prog X.w H s.heap
  len : σ.length = X.N.length
section
variable {X : Cx} {pins : List (Addr × Obj)} {σ : List (Option V)} {H H' : Hp} {s : Shared} {h' : Heap}
theorem Cx.Ok.nofr (ok : X.Ok) {b : Addr} {o : Obj} (e : X.base.get? b = some o) : b ∉ X.fs := fun hb => by
  have := (ok.funs.mem hb).1
  rw [e] at this; cases this
theorem Inv.bs (I : Inv X pins σ H s) : ∀ b o, X.base.get? b = some o → s.heap.get? b = some o ∧ H b = none := fun b o e =>
  ⟨I.base.keep b o (I.ok.bs b o e).1 (I.ok.bs b o e).2 (I.ok.nofr e) (I.ok.noex b o e), I.base.free b o (I.ok.bs b o e).1 (I.ok.bs b o e).2 (I.ok.noex b o e)⟩
theorem Inv.bk (I : Inv X pins σ H s) : ∀ b o, X.base.get? b = some o → s.heap.get? b = some o := fun b o e => (I.bs b o e).1
theorem Inv.mod (I : Inv X pins σ H s) : Mod X.K X.mg X.base := I.ok.mod
theorem Inv.kIn (I : Inv X pins σ H s) : X.K.In s.heap := I.ok.mod.kin.keeps I.bk
theorem Inv.nolimit (I : Inv X pins σ H s) : s.heap.NoLimit := I.ok.mod.nolimit.keeps I.bk
theorem Inv.fr (I : Inv X pins σ H s) : ∃ m, Fr X.base X.env.locals s.heap m :=
  let ⟨m, hn, _⟩ := I.loc
  ⟨m, hn, I.bk, Nat.le_trans I.ok.bsz I.ok.above⟩
theorem Inv.lt (I : Inv X pins σ H s) : X.env.locals < s.heap.objs.size := let ⟨_, hn, _⟩ := I.loc; hn.lt
theorem Inv.sz (I : Inv X pins σ H s) : X.s₀.heap.objs.size ≤ s.heap.objs.size := Nat.le_trans I.ok.above (Nat.le_of_lt I.lt)
theorem Inv.nofs (I : Inv X pins σ H s) {a : Addr} (h : s.heap.objs.size ≤ a) : a ∉ X.fs := fun hb => by
  obtain ⟨_, o, ho, _⟩ := I.ok.funs.mem hb
  exact absurd (Nat.lt_of_lt_of_le (Heap.lt_size ho) (Nat.le_trans I.sz h)) (Nat.lt_irrefl _)
theorem Inv.cne (I : Inv X pins σ H s) : ∀ x c, X.env.cells.lookup x = some c → c ≠ X.env.locals := fun x c e z => by
  obtain ⟨v, o, ho, hd⟩ := I.cell x c e
  obtain ⟨m, ⟨o', es, ep, ho', hd', _⟩, _⟩ := I.loc
  rw [z, ho'] at ho; cases ho; rw [hd'] at hd; cases hd
theorem Inv.funs (I : Inv X pins σ H s) : s.heap.FunFrames X.base X.outer := by
  have all : ∀ (l : List Env), (∀ b ∈ frs l, b ∈ X.fs) → X.s₀.heap.FunFrames X.base l → s.heap.FunFrames X.base l := by
    intro l
    induction l with
    | nil => intro _ _; trivial
    | cons env r ih =>
      intro hs hl
      obtain ⟨hk, ⟨L, o, hf, hn, ho, hd⟩, hr⟩ := hl
      have hL : L ∈ X.fs := hs L (by unfold frs; rw [List.filterMap_cons, hf]; exact List.mem_cons_self)
      obtain ⟨sl, e⟩ := I.base.slot L o ho (I.ok.frf L hL) hL fun z => I.ok.exfs L z hL
      exact ⟨hk, ⟨L, _, hf, hn, e, hd⟩, ih (fun b hb => hs b (by unfold frs; rw [List.filterMap_cons, hf]; exact List.mem_cons_of_mem _ hb)) hr⟩
  exact all X.outer (fun _ hb => hb) I.ok.funs
theorem Inv.stack (I : Inv X pins σ H s) : s.heap.FunFrames X.base X.stack := by
  rcases I.ok.stk with e | ⟨e, hf⟩
  · rw [e]; exact I.funs
  · rw [e]
    obtain ⟨m, hn, _⟩ := I.loc
    refine .cons (by rw [I.ok.kind]; decide) hf hn ?_ I.funs
    exact Heap.get?_none_of_le (Nat.le_trans I.ok.bsz I.ok.above)
theorem Inv.stkSub (I : Inv X pins σ H s) : ∀ b ∈ frs X.stack, b ∈ X.env.locals :: X.fs := fun b hb => by
  rcases I.ok.stk with e | ⟨e, hf⟩
  · rw [e] at hb; exact List.mem_cons_of_mem _ hb
  · rw [e] at hb
    unfold frs at hb
    rw [List.filterMap_cons, hf] at hb
    exact hb
theorem Inv.stkFree (I : Inv X pins σ H s) : ∀ b ∈ frs X.stack, H b = none := fun b hb => by
  rcases List.mem_cons.mp (I.stkSub b hb) with e | hb
  · rw [e]; exact I.free
  · obtain ⟨_, o, ho, _⟩ := I.ok.funs.mem hb
    exact I.base.free b o ho (I.ok.frf b hb) fun z => I.ok.exfs b z hb
theorem Inv.step {g' : Array GenState} {t' : Nat} {d' : Drawn} {ch : List Addr} (I : Inv X pins σ H s)
    (hch : ∀ b ∈ ch, (b ∈ X.ex ∨ X.s₀.heap.objs.size ≤ b) ∧ b ≠ X.env.locals ∧ (∀ x c, X.env.cells.lookup x = some c → c ≠ b) ∧ ∀ p ∈ X.pn ++ pins, p.1 ≠ b)
    (keep : ∀ b o, b ≠ X.env.locals → b ∉ X.fs → b ∉ ch → s.heap.get? b = some o → H b = none → h'.get? b = some o)
    (slot : ∀ b o, b ≠ X.env.locals → b ∈ X.fs → b ∉ ch → s.heap.get? b = some o → H b = none → ∃ sl, h'.get? b = some { o with slots := sl }) (free : ∀ b o, b ∉ ch → s.heap.get? b = some o → H b = none → H' b = none)
    (there : ∀ b o, b ∉ ch → s.heap.get? b = some o → ∃ o', h'.get? b = some o')
    (tups : ∀ b xs, H b = some (.tup xs) → H' b = some (.tup xs)) (frzs : ∀ b o u, H b = some (.frz o u) → H' b = some (.frz o u)) (tbls : ∀ b ps, H b = some (.tbl ps) → ∃ more, H' b = some (.tbl (ps ++ more)))
    (ns : ∀ m, s.heap.Ns X.env.locals m → h'.Ns X.env.locals m) (hok : HOk X.prog X.w H' h') (hg : AllBare g') :
    Inv X pins σ H' { s with heap := h', gens := g', drawn := d', toks := t' } := by
  have neL : ∀ b o, X.s₀.heap.get? b = some o → b ≠ X.env.locals := fun b o e => Nat.ne_of_lt (Nat.lt_of_lt_of_le (Heap.lt_size e) I.ok.above)
  have neC : ∀ b o, X.s₀.heap.get? b = some o → b ∉ X.ex → b ∉ ch := fun b o e hx hb => by
    rcases (hch b hb).1 with z | z
    · exact hx z
    · exact absurd (Nat.lt_of_lt_of_le (Heap.lt_size e) z) (Nat.lt_irrefl _)
  have cellK : ∀ x c, X.env.cells.lookup x = some c → ∀ v, s.heap.IsCell c v → h'.IsCell c v := fun x c e v ⟨o, ho, hd⟩ => by
    have nch : c ∉ ch := fun z => (hch c z).2.2.1 x c e rfl
    by_cases hc : c ∈ X.fs
    · obtain ⟨sl, q⟩ := slot c o (I.cne x c e) hc nch ho (I.freeC x c e)
      exact ⟨_, q, hd⟩
    · exact ⟨o, keep c o (I.cne x c e) hc nch ho (I.freeC x c e), hd⟩
  refine ⟨I.ok, I.os, hg, ⟨fun b o e n hb hx => ?_, fun b o e n hb hx => ?_, fun b o e n hx => ?_, fun b o e hx => ?_, fun b xs e => tups b xs (I.base.tups b xs e), fun b o xs e => frzs b o xs (I.base.frzs b o xs e), fun b ps e => ?_⟩, ?_, fun x c e => ?_, ?_, fun x c e => ?_, fun p hp => ?_, hok, I.len⟩
  · exact keep b o (neL b o e) hb (neC b o e hx) (I.base.keep b o e n hb hx) (I.base.free b o e n hx)
  · obtain ⟨sl, e1⟩ := I.base.slot b o e n hb hx
    obtain ⟨sl', e2⟩ := slot b _ (neL b o e) hb (neC b o e hx) e1 (I.base.free b o e n hx)
    exact ⟨sl', e2⟩
  · obtain ⟨o', e1⟩ := I.base.there b o e hx
    exact free b o' (neC b o e hx) e1 (I.base.free b o e n hx)
  · obtain ⟨o', e1⟩ := I.base.there b o e hx
    exact there b o' (neC b o e hx) e1
  · obtain ⟨m1, e1⟩ := I.base.tbls b ps e
    obtain ⟨m2, e2⟩ := tbls b _ e1
    exact ⟨m1 ++ m2, by rw [e2, Array.append_assoc]⟩
  · obtain ⟨m, hn, hl⟩ := I.loc
    refine ⟨m, ns m hn, fun i x v e1 e2 e3 => ?_⟩
    obtain ⟨u, r, l⟩ := hl i x v e1 e2 e3
    refine ⟨u, r, ?_⟩
    rcases l with l | ⟨k, c, e, z⟩
    · exact .inl l
    · exact .inr ⟨k, c, e, cellK x c e _ z⟩
  · obtain ⟨v, z⟩ := I.cell x c e
    exact ⟨v, cellK x c e v z⟩
  · obtain ⟨m, ⟨o, _, _, ho, _⟩, _⟩ := I.loc
    exact free _ o (fun z => (hch _ z).2.1 rfl) ho I.free
  · obtain ⟨v, o, ho, hd⟩ := I.cell x c e
    exact free c o (fun z => (hch c z).2.2.1 x c e rfl) ho (I.freeC x c e)
  · obtain ⟨e, n, ne, nf, d⟩ := I.pin p hp
    have nch : p.1 ∉ ch := fun z => (hch p.1 z).2.2.2 p hp rfl
    exact ⟨keep p.1 p.2 ne nf nch e n, free p.1 p.2 nch e n, ne, nf, d⟩
theorem Inv.un {t' : Nat} (I : Inv X pins σ H s) (u : Un X.fs [] H H' s.heap h') (hok : HOk X.prog X.w H' h') : Inv X pins σ H' { s with heap := h', toks := t' } := by
  obtain ⟨m, ⟨o, es, ep, ho, r⟩, _⟩ := id I.loc
  obtain ⟨sl, hL⟩ := u.any ho I.free (by simp)
  exact I.step (g' := s.gens) (d' := s.drawn) (ch := []) (fun _ z => nomatch z) (fun b o _ hb _ e n => u.keep b o e n hb (by simp)) (fun b o _ hb _ e n => u.slot b o e n hb (by simp)) (fun b o _ e n => u.free b o e n (by simp)) (fun b o _ e => u.there b o e (by simp)) u.tups u.frzs u.tbls (fun m' hm => by
    obtain ⟨o', es', ep', ho', r'⟩ := hm
    rw [ho] at ho'; cases ho'
    exact ⟨_, es', ep', hL, r'⟩) hok I.bare
theorem Inv.call {g' : Array GenState} {t' : Nat} {d' : Drawn} {ch : List Addr} (I : Inv X pins σ H s) (u : Un (frs X.stack) ch H H' s.heap h') (hok : HOk X.prog X.w H' h') (hg : AllBare g')
    (hch : ∀ b ∈ ch, (b ∈ X.ex ∨ X.s₀.heap.objs.size ≤ b) ∧ b ≠ X.env.locals ∧ (∀ x c, X.env.cells.lookup x = some c → c ≠ b) ∧ ∀ p ∈ X.pn ++ pins, p.1 ≠ b) :
    Inv X pins σ H' { s with heap := h', gens := g', drawn := d', toks := t' } := by
  obtain ⟨m, ⟨o, es, ep, ho, r⟩, _⟩ := id I.loc
  obtain ⟨sl, hL⟩ := u.any ho I.free fun z => (hch _ z).2.1 rfl
  exact I.step (ch := ch) hch (fun b o hL hb hc e n => u.keep b o e n (fun z => (List.mem_cons.mp (I.stkSub b z)).elim hL hb) hc) (fun b o _ _ hc e n => u.any e n hc) (fun b o hc e n => u.free b o e n hc) (fun b o hc e => u.there b o e hc) u.tups u.frzs u.tbls (fun m' hm => by
    obtain ⟨o', es', ep', ho', r'⟩ := hm
    rw [ho] at ho'; cases ho'
    exact ⟨_, es', ep', hL, r'⟩) hok hg
theorem Inv.turned {t' : Nat} {it : Addr} (I : Inv X pins σ H s) (k : ∀ b o, b ≠ it → s.heap.get? b = some o → h'.get? b = some o) (hn : H it = none) (hL : it ≠ X.env.locals)
    (h1 : it ∈ X.ex ∨ X.s₀.heap.objs.size ≤ it) (h2 : ∀ x c, X.env.cells.lookup x = some c → c ≠ it) (h3 : ∀ p ∈ X.pn ++ pins, p.1 ≠ it) : Inv X pins σ H { s with heap := h', toks := t' } := by
  have nit : ∀ b u, H b = some u → b ≠ it := fun b u e z => by rw [z, hn] at e; cases e
  refine I.step (g' := s.gens) (d' := s.drawn) (ch := [it]) (fun b hb => ?_) (fun b o _ _ hc e _ => k b o (fun z => hc (by simp [z])) e) (fun b o _ _ hc e _ => ⟨o.slots, k b o (fun z => hc (by simp [z])) e⟩) (fun _ _ _ _ n => n)
    (fun b o hc e => ⟨o, k b o (fun z => hc (by simp [z])) e⟩) (fun _ _ e => e) (fun _ _ _ e => e) (fun b ps e => ⟨#[], by rw [e]; simp⟩) (fun m hm => ?_) (fun b u e => ?_) I.bare
  · have e : b = it := by simpa using hb
    subst e
    exact ⟨h1, hL, h2, h3⟩
  · obtain ⟨o, es, ep, ho, r⟩ := hm
    exact ⟨o, es, ep, k _ o (Ne.symm hL) ho, r⟩
  · refine (I.hok b u e).stay (fun c v hc q => k c v ?_ q) (fun _ q => q) fun _ _ q => q
    rcases hc with z | z
    · rw [z]; exact nit b u e
    · exact nit c _ z
theorem Inv.tok (I : Inv X pins σ H s) (t : Nat) : Inv X pins σ H { s with toks := t } := I.un (h' := s.heap) (t' := t) Un.refl I.hok
theorem Inv.kept {t' : Nat} (I : Inv X pins σ H s) (k : ∀ b u, s.heap.get? b = some u → h'.get? b = some u) : Inv X pins σ H { s with heap := h', toks := t' } := I.un (Un.kept k) (I.hok.kept k)
theorem Inv.laid {a : Addr} {o : HO} {t' : Nat} (I : Inv X pins σ H s) (k : ∀ b u, s.heap.get? b = some u → h'.get? b = some u) (hp : s.heap.objs.size ≤ a) (new : ObjOk X.prog X.w (upd H a o) h' a o) :
    Inv X pins σ (upd H a o) { s with heap := h', toks := t' } := I.un (Un.laid k hp (I.hok.fresh hp)) (I.hok.laid k hp new)
theorem Inv.write {x e : Addr} {o : HO} {t' : Nat} (I : Inv X pins σ H s) (mu : Mut (H x)) (he : e = x ∨ H e = some (.own x)) (k : ∀ b u, b ≠ e → s.heap.get? b = some u → h'.get? b = some u) (heo : ∃ u, h'.get? e = some u)
    (new : ObjOk X.prog X.w (upd H x o) h' x o) : Inv X pins σ (upd H x o) { s with heap := h', toks := t' } := I.un (Un.write mu he k heo) (I.hok.write mu he k heo new)
theorem Inv.pins_of {pins' : List (Addr × Obj)} (I : Inv X pins σ H s) (h : ∀ p ∈ pins', s.heap.get? p.1 = some p.2 ∧ H p.1 = none ∧ p.1 ≠ X.env.locals ∧ p.1 ∉ X.fs ∧ ∀ v, p.2.data ≠ .cell v) : Inv X pins' σ H s :=
  ⟨I.ok, I.os, I.bare, I.base, I.loc, I.cell, I.free, I.freeC, fun p hp => (List.mem_append.mp hp).elim (fun z => I.pin p (List.mem_append_left _ z)) (h p), I.hok, I.len⟩
theorem nodup_ix {N : List Str} (hN : N.Nodup) {i j : Nat} {x : Str} (a : N[i]? = some x) (b : N[j]? = some x) : i = j := by
  obtain ⟨h1, e1⟩ := List.getElem?_eq_some_iff.mp a
  obtain ⟨h2, e2⟩ := List.getElem?_eq_some_iff.mp b
  exact (List.getElem_inj hN).mp (e1.trans e2.symm)
theorem store_ok2 {M : Model} {A : Around} {E : Value → Shared → Prop} {i : Nat} {x : Str} {v : V} {u : Value} {Q : Unit → Shared → Prop} (I : Inv X pins σ H s) (hN : X.N.Nodup) (hi : X.N[i]? = some x) (hx : Loc X.env.scope x) (r : RelV v u)
    (h : ∀ s', Inv X pins (σ.set i (some v)) H s' → (∃ a, Heap.SameBut a s.heap s'.heap ∧ (a = X.env.locals ∨ X.env.cells.lookup x = some a)) → Q () s') (hf : X.fn x = true ∨ X.env.scope.names.lookup x = some .local := by first | exact .inl rfl | exact .inr rfl | assumption) : wpAny M A (storeName X.env x u) Q E s := by
  obtain ⟨m, hn, hl⟩ := id I.loc
  have hcls : (X.env.scope.kind == .class || (X.env.scope.kind == .module && X.env.locals != X.env.globals)) = false := by rw [I.ok.kind]; rfl
  have hiσ : i < σ.length := by rw [I.len]; exact (List.getElem?_eq_some_iff.mp hi).1
  have cne := I.cne
  have tracked : ∀ {a : Addr} {h' : Heap}, (∃ o, s.heap.get? a = some o ∧ H a = none) → Heap.SameBut a s.heap h' → HOk X.prog X.w H h' := fun {a h'} ha hs b ob e => by
    obtain ⟨_, _, hfree⟩ := ha
    refine (I.hok b ob e).stay (fun c w' hc q => (hs.2 c ?_).trans q) (fun _ q => q) fun _ _ q => q
    rintro rfl
    rcases hc with rfl | hc
    · rw [hfree] at e; cases e
    · rw [hfree] at hc; cases hc
  rcases hx with hk | hk
  · refine wpAny_storeName_local hk hn (fun h' hn' hs => ?_) hcls
    obtain ⟨oL, _, _, hoL, _⟩ := id hn
    refine h _ ⟨I.ok, I.os, I.bare, ⟨fun b o e n hb hx => ?_, fun b o e n hb hx => ?_, I.base.free, fun b o e hx => ?_, I.base.tups, I.base.frzs, I.base.tbls⟩, ⟨_, hn', fun j y v' e1 e2 e3 => ?_⟩, fun y c e => ?_, I.free, I.freeC, fun p hp => ?_, tracked ⟨oL, hoL, I.free⟩ hs, by simpa using I.len⟩ ⟨_, hs, .inl rfl⟩
    · exact (hs.2 b (Nat.ne_of_lt (Nat.lt_of_lt_of_le (Heap.lt_size e) I.ok.above))).trans (I.base.keep b o e n hb hx)
    · obtain ⟨sl, e1⟩ := I.base.slot b o e n hb hx
      exact ⟨sl, (hs.2 b (Nat.ne_of_lt (Nat.lt_of_lt_of_le (Heap.lt_size e) I.ok.above))).trans e1⟩
    · obtain ⟨o', e1⟩ := I.base.there b o e hx
      exact ⟨o', (hs.2 b (Nat.ne_of_lt (Nat.lt_of_lt_of_le (Heap.lt_size e) I.ok.above))).trans e1⟩
    · by_cases hj : j = i
      · subst hj
        rw [hi] at e1; cases e1
        rw [List.getElem?_set_self hiσ] at e2
        cases e2
        exact ⟨u, r, .inl ⟨hk, by simp⟩⟩
      · rw [List.getElem?_set_ne (Ne.symm hj)] at e2
        obtain ⟨u', r', q⟩ := hl j y v' e1 e2 e3
        refine ⟨u', r', ?_⟩
        rcases q with ⟨k, e⟩ | ⟨k, c, e, z⟩
        · refine .inl ⟨k, ?_⟩
          have : y ≠ x := fun e => hj (nodup_ix hN e1 (e ▸ hi))
          simp [this, e]
        · exact .inr ⟨k, c, e, z.sameBut hs (cne y c e)⟩
    · obtain ⟨w', z⟩ := I.cell y c e
      exact ⟨w', z.sameBut hs (cne y c e)⟩
    · obtain ⟨e, n, ne, nf, d⟩ := I.pin p hp
      exact ⟨(hs.2 p.1 ne).trans e, n, ne, nf, d⟩
  · have hfn : X.fn x = true := by
      rcases hf with z | z
      · exact z
      · rw [z] at hk; cases hk
    obtain ⟨c, hc⟩ := I.ok.has x (.inl hk)
    obtain ⟨w', z⟩ := I.cell x c hc
    refine wpAny_storeName_cell I.ok.kind hk hc z (fun h' hc' hs => ?_)
    obtain ⟨oc, hoc, hocd⟩ := id z
    refine h { s with heap := h' } ⟨I.ok, I.os, I.bare, ⟨fun b o e n hb hx => ?_, fun b o e n hb hx => ?_, I.base.free, fun b o e hx => ?_, I.base.tups, I.base.frzs, I.base.tbls⟩, ⟨m, hn.sameBut hs (Ne.symm (cne x c hc)), fun j y v' e1 e2 e3 => ?_⟩, fun y c' e => ?_, I.free, I.freeC, fun p hp => ?_, tracked ⟨oc, hoc, I.freeC x c hc⟩ hs, by simpa using I.len⟩ ⟨c, hs, .inr hc⟩
    · exact (hs.2 b (Nat.ne_of_lt (Nat.lt_of_lt_of_le (Heap.lt_size e) (I.ok.cab x c hfn hc)))).trans (I.base.keep b o e n hb hx)
    · obtain ⟨sl, e1⟩ := I.base.slot b o e n hb hx
      exact ⟨sl, (hs.2 b (Nat.ne_of_lt (Nat.lt_of_lt_of_le (Heap.lt_size e) (I.ok.cab x c hfn hc)))).trans e1⟩
    · obtain ⟨o', e1⟩ := I.base.there b o e hx
      exact ⟨o', (hs.2 b (Nat.ne_of_lt (Nat.lt_of_lt_of_le (Heap.lt_size e) (I.ok.cab x c hfn hc)))).trans e1⟩
    · by_cases hj : j = i
      · subst hj
        rw [hi] at e1; cases e1
        rw [List.getElem?_set_self hiσ] at e2
        cases e2
        exact ⟨u, r, .inr ⟨.inl hk, c, hc, hc'⟩⟩
      · rw [List.getElem?_set_ne (Ne.symm hj)] at e2
        obtain ⟨u', r', q⟩ := hl j y v' e1 e2 e3
        refine ⟨u', r', ?_⟩
        rcases q with q | ⟨k, c', e, z'⟩
        · exact .inl q
        · refine .inr ⟨k, c', e, z'.sameBut hs ?_⟩
          rintro rfl
          exact hj (nodup_ix hN e1 (I.ok.inj _ _ _ e hc ▸ hi))
    · by_cases hcc : c' = c
      · subst hcc; exact ⟨_, hc'⟩
      · obtain ⟨w2, z2⟩ := I.cell y c' e
        exact ⟨w2, z2.sameBut hs hcc⟩
    · obtain ⟨e, n, ne, nf, d⟩ := I.pin p hp
      refine ⟨(hs.2 p.1 ?_).trans e, n, ne, nf, d⟩
      intro q
      rw [q, hoc] at e
      have q' : oc = p.2 := Option.some.inj e
      exact d w' (by rw [← q']; exact hocd)
theorem store_ok {M : Model} {A : Around} {E : Value → Shared → Prop} {i : Nat} {x : Str} {v : V} {u : Value} {Q : Unit → Shared → Prop} (I : Inv X pins σ H s) (hN : X.N.Nodup) (hi : X.N[i]? = some x) (hx : Loc X.env.scope x) (r : RelV v u)
    (h : ∀ s', Inv X pins (σ.set i (some v)) H s' → Q () s') (hf : X.fn x = true ∨ X.env.scope.names.lookup x = some .local := by first | exact .inl rfl | exact .inr rfl | assumption) : wpAny M A (storeName X.env x u) Q E s :=
  store_ok2 I hN hi hx r (fun s' I' _ => h s' I') hf
theorem Inv.call' {s' : Shared} {ch : List Addr} (I : Inv X pins σ H s) (ho : s'.os = s.os) (u : Un (frs X.stack) ch H H' s.heap s'.heap) (hok : HOk X.prog X.w H' s'.heap) (hg : AllBare s'.gens)
    (hch : ∀ b ∈ ch, (b ∈ X.ex ∨ X.s₀.heap.objs.size ≤ b) ∧ b ≠ X.env.locals ∧ (∀ x c, X.env.cells.lookup x = some c → c ≠ b) ∧ ∀ p ∈ X.pn ++ pins, p.1 ≠ b) : Inv X pins σ H' s' := by
  obtain ⟨h', g', d', t', o'⟩ := s'
  have e : o' = s.os := ho
  subst e
  exact I.call (g' := g') (t' := t') (d' := d') u hok hg hch
end
noncomputable abbrev XK := Value → Option Addr → Hp → Prop
noncomputable abbrev St := List (Option V)
noncomputable abbrev VK := V → Hp → Prop
noncomputable abbrev TE := St → Hp → VK → Prop
noncomputable abbrev TT := St → Hp → (Bool → Hp → Prop) → Prop
noncomputable abbrev TA := St → Hp → (List V → Hp → Prop) → Prop
structure Ends where
  nx : St → Hp → Prop
  rt : VK
  bk : St → Hp → Prop := fun _ _ => False
  ct : St → Hp → Prop := fun _ _ => False
noncomputable abbrev TS := Ends → St → Hp → Prop
noncomputable def EP (X : Cx) (pins : List (Addr × Obj)) (σ : St) (Q : VK) (u : Value) (s' : Shared) : Prop := ∃ v H', Inv X pins σ H' s' ∧ RelV v u ∧ Q v H'
noncomputable def TP (X : Cx) (pins : List (Addr × Obj)) (σ : St) (Q : Bool → Hp → Prop) (b : Bool) (s' : Shared) : Prop := ∃ H', Inv X pins σ H' s' ∧ Q b H'
noncomputable def AP (X : Cx) (pins : List (Addr × Obj)) (σ : St) (Q : List V → Hp → Prop) (us : List Value) (s' : Shared) : Prop := ∃ vs H', Inv X pins σ H' s' ∧ Vals vs us ∧ Q vs H'
noncomputable def SP (X : Cx) (pins : List (Addr × Obj)) (D : Ends) (f : Flow) (s' : Shared) : Prop :=
  match f with
  | .next => ∃ σ' H', Inv X pins σ' H' s' ∧ D.nx σ' H'
  | .brk => ∃ σ' H', Inv X pins σ' H' s' ∧ D.bk σ' H'
  | .cont => ∃ σ' H', Inv X pins σ' H' s' ∧ D.ct σ' H'
  | .ret u => ∃ v σ' H', Inv X pins σ' H' s' ∧ RelV v u ∧ D.rt v H'
noncomputable def PE (X : Cx) (e : Expr) (t : TE) : Prop :=
  ∀ (pins : List (Addr × Obj)) (s : Shared) (σ : St) (H : Hp) (Q : VK), Inv X pins σ H s → t σ H Q → wpAny (model X.prog X.w) X.A (eval e X.env) (EP X pins σ Q) X.xe s
noncomputable def PT (X : Cx) (e : Expr) (t : TT) : Prop :=
  ∀ (pins : List (Addr × Obj)) (s : Shared) (σ : St) (H : Hp) (Q : Bool → Hp → Prop), Inv X pins σ H s → t σ H Q → wpAny (model X.prog X.w) X.A (isTrue e X.env (eval e X.env)) (TP X pins σ Q) X.xe s
noncomputable def PW (X : Cx) (e : Expr) (t : TT) : Prop :=
  ∀ (whole : Sem Value) (pins : List (Addr × Obj)) (s : Shared) (σ : St) (H : Hp) (Q : Bool → Hp → Prop), Inv X pins σ H s → t σ H Q → wpAny (model X.prog X.w) X.A (isTrue e X.env whole) (TP X pins σ Q) X.xe s
theorem PW.pt {X : Cx} {e : Expr} {t : TT} (h : PW X e t) : PT X e t := h _
noncomputable def PA (X : Cx) (es : List Expr) (t : TA) : Prop :=
  ∀ (pos : Pos) (pins : List (Addr × Obj)) (s : Shared) (σ : St) (H : Hp) (Q : List V → Hp → Prop), Inv X pins σ H s → t σ H Q → wpAny (model X.prog X.w) X.A (spliced (backTo pos (starEach es X.env))) (AP X pins σ Q) X.xe s
noncomputable def PS (X : Cx) (st : Stmt) (t : TS) : Prop :=
  ∀ (pins : List (Addr × Obj)) (s : Shared) (σ : St) (H : Hp) (D : Ends), Inv X pins σ H s → t D σ H → wpAny (model X.prog X.w) X.A (exec st X.env) (SP X pins D) X.xe s
noncomputable def PSs (X : Cx) (st : List Stmt) (t : TS) : Prop :=
  ∀ (pins : List (Addr × Obj)) (s : Shared) (σ : St) (H : Hp) (D : Ends), Inv X pins σ H s → t D σ H → wpAny (model X.prog X.w) X.A (execs st X.env) (SP X pins D) X.xe s
theorem thn {α : Type} {t : Sem α} {Q Q' : α → Shared → Prop} {M : Model} {A : Around} {E : Value → Shared → Prop} {s : Shared} (h : wpAny M A t Q E s) (hQ : ∀ a s, Q a s → Q' a s) : wpAny M A t Q' E s := wpAny_mono h hQ fun _ _ x => x
end L2
namespace L2
open PySem PySem.Spec PyProof.Rows
section
variable {X : Cx}
noncomputable def tVar (i : Nat) : TE := fun σ H Q => ∃ v, σ[i]? = some (some v) ∧ Q v H
noncomputable def tC (v : V) : TE := fun _ H Q => Q v H
theorem pe_var {i : Nat} {x : Str} {pos : Pos} (hN : X.N[i]? = some x) (hv : Vis X.env.scope x) (hd : (x == ("__debug__" : Str)) = false := by decide) (hcd : (x == ("__classdict__" : Str)) = false := by decide) : PE X (.Name x pos) (tVar i) := by
  intro pins s σ H Q I h
  obtain ⟨v, e, h⟩ := h
  obtain ⟨m, hn, hl⟩ := I.loc
  obtain ⟨u, r, l⟩ := hl i x v hN e hv
  have fin : EP X pins σ Q u s := ⟨v, H, I, r, h⟩
  rcases l with ⟨hk, hm⟩ | ⟨hk, c, hc, hcell⟩
  · exact wpAny_Name (wpAny_loadName_local I.ok.kind hk hn hm fin) hd
  · rcases hk with hk | hk
    · exact wpAny_Name (wpAny_loadName_cell I.ok.kind hk hc hcell fin) hd
    · exact wpAny_Name (wpAny_loadName_free I.ok.kind hk hc hcell fin hcd) hd
theorem pe_int {i j pos} : PE X (.Constant (.int i) j pos) (tC (.int i)) := fun _ _ _ H _ I h => wpAny_Constant_int ⟨.int i, H, I.tok _, ⟨_, rfl⟩, h⟩
theorem pe_bl {b j pos} : PE X (.Constant (.bool b) j pos) (tC (.bl b)) := fun _ _ _ H _ I h => Constant_bool ⟨.bl b, H, I, rfl, h⟩
noncomputable def Gl (X : Cx) (x : Str) : Prop := X.env.kindOf x = some .globalImplicit
theorem ld_glob {E : Value → Shared → Prop} {pins : List (Addr × Obj)} {s : Shared} {σ : St} {H : Hp} {x : Str} {u : Value} {pos : Pos} {Q : Value → Shared → Prop} (I : Inv X pins σ H s) (hg : Gl X x) (hm : X.mg x = some u) (h : Q u s)
    (hd : (x == ("__debug__" : Str)) = false := by decide) : wpAny (model X.prog X.w) X.A (eval (.Name x pos) X.env) Q E s :=
  Calls.Name_function_global I.ok.kind hg (Calls.loadGlobal_global (by rw [I.ok.glob]; exact I.mod.glob.keeps I.bk) hm h) hd
theorem ld_blt {E : Value → Shared → Prop} {pins : List (Addr × Obj)} {s : Shared} {σ : St} {H : Hp} {x : Str} {u : Value} {pos : Pos} {Q : Value → Shared → Prop} (I : Inv X pins σ H s) (hg : Gl X x) (hm : X.mg x = none) (hv : bootBuiltins x = some u) (h : Q u s)
    (hn : x ≠ "__name__" := by decide) (hd : (x == ("__debug__" : Str)) = false := by decide) : wpAny (model X.prog X.w) X.A (eval (.Name x pos) X.env) Q E s := by
  obtain ⟨mb, h1, h2⟩ := I.mod.blt
  exact Calls.Name_function_global I.ok.kind hg (Calls.loadGlobal_builtin (by rw [I.ok.glob]; exact I.mod.glob.keeps I.bk) hm (by rw [I.ok.blt]; exact h1.keeps I.bk) ((h2 x hn).trans hv) h) hd
theorem pe_glob {x : Str} {v : V} {u : Value} {pos : Pos} (hg : Gl X x) (hm : X.mg x = some u) (r : RelV v u) (hd : (x == ("__debug__" : Str)) = false := by decide) : PE X (.Name x pos) (tC v) :=
  fun _ _ _ H _ I h => ld_glob I hg hm ⟨v, H, I, r, h⟩ hd
noncomputable def t2I (ta tb : TE) (k : Int → Int → Hp → Prop) : St → Hp → Prop := fun σ H => ta σ H fun x H1 => tb σ H1 fun y H2 => ∃ i j, x = .int i ∧ y = .int j ∧ k i j H2
noncomputable def tAdd (ta tb : TE) : TE := fun σ H Q => t2I ta tb (fun i j H2 => Q (.int (i + j)) H2) σ H
noncomputable def tSub (ta tb : TE) : TE := fun σ H Q => t2I ta tb (fun i j H2 => Q (.int (i - j)) H2) σ H
noncomputable def tMul (ta tb : TE) : TE := fun σ H Q => t2I ta tb (fun i j H2 => (-(2 ^ 64) < i ∧ i < 2 ^ 64) ∧ Q (.int (i * j)) H2) σ H
variable {a b : Expr} {ta tb : TE} {pos : Pos}
noncomputable def PC (X : Cx) (op : CmpOp) (a b : Expr) (t : TE) : Prop :=
  ∀ (pins : List (Addr × Obj)) (s : Shared) (σ : St) (H : Hp) (Q : VK), Inv X pins σ H s → t σ H Q →
    wpAny (model X.prog X.w) X.A (eval a X.env) (fun v s₁ => wpAny (model X.prog X.w) X.A (eval b X.env) (fun u s₂ => wpAny (model X.prog X.w) X.A (compareOp op v u) (EP X pins σ Q) X.xe s₂) X.xe s₁) X.xe s
noncomputable def tCmp (p : Int → Int → Bool) (ta tb : TE) : TE := fun σ H Q => t2I ta tb (fun i j H2 => Q (.bl (p i j)) H2) σ H
noncomputable abbrev tLt : TE → TE → TE := tCmp fun i j => decide (i < j)
noncomputable abbrev tLe : TE → TE → TE := tCmp fun i j => decide (i ≤ j)
noncomputable abbrev tGt : TE → TE → TE := tCmp fun i j => decide (j < i)
noncomputable abbrev tGe : TE → TE → TE := tCmp fun i j => decide (j ≤ i)
noncomputable abbrev tEqI : TE → TE → TE := tCmp fun i j => decide (i = j)
noncomputable abbrev tNeI : TE → TE → TE := tCmp fun i j => !decide (i = j)
noncomputable def tIsN (ta : TE) : TE := fun σ H Q => ta σ H fun x H1 => Q (.bl (decide (x = .non))) H1
noncomputable def tNotN (ta : TE) : TE := fun σ H Q => ta σ H fun x H1 => Q (.bl (!decide (x = .non))) H1
noncomputable def tB (t : TE) : TT := fun σ H Q => t σ H fun x H1 => ∃ c, x = .bl c ∧ Q c H1
theorem pt_val {e : Expr} {t : TE} (h : PE X e t) (he : ∀ whole, isTrue e X.env whole = (do let v ← whole; standAt e.pos; holding [v] (truthy v)) := by intro _; rfl) : PT X e (tB t) := by
  intro pins s σ H Q I hw
  refine isTrue_plain (thn (h pins s σ H _ I hw) fun v s1 ⟨x, H1, I1, r1, q1⟩ => ?_) (he _)
  obtain ⟨d, rfl, q⟩ := q1
  cases r1
  exact wpAny_truthy_bool ⟨H1, I1, q⟩
variable {tA tB' : TT} {rest : List Expr}
noncomputable def tAnd (t u : TT) : TT := fun σ H Q => t σ H fun c H1 => if c = true then u σ H1 Q else Q false H1
noncomputable def tOr (t u : TT) : TT := fun σ H Q => t σ H fun c H1 => if c = true then Q true H1 else u σ H1 Q
noncomputable def tNot (t : TT) : TT := fun σ H Q => t σ H fun c H1 => Q (!c) H1
theorem pw_and1 (ha : PT X a tA) : PW X (.BoolOp .And [a] pos) tA := by
  intro wh pins s σ H Q I h
  refine isTrue_and (thn (ha pins s σ H Q I h) fun c s1 e => ?_)
  cases c with
  | true => exact isTrue_and_nil e
  | false => exact e
theorem pw_or1 (ha : PT X a tA) : PW X (.BoolOp .Or [a] pos) tA := by
  intro wh pins s σ H Q I h
  refine isTrue_or (thn (ha pins s σ H Q I h) fun c s1 e => ?_)
  cases c with
  | false => exact isTrue_or_nil e
  | true => exact e
theorem pw_and (ha : PT X a tA) (hb : PW X (.BoolOp .And (b :: rest) pos) tB') : PW X (.BoolOp .And (a :: b :: rest) pos) (tAnd tA tB') := by
  intro wh pins s σ H Q I h
  refine isTrue_and (thn (ha pins s σ H _ I h) fun c s1 ⟨H1, I1, q1⟩ => ?_)
  cases c with
  | true => exact hb wh pins s1 σ H1 Q I1 q1
  | false => exact ⟨H1, I1, q1⟩
theorem pw_or (ha : PT X a tA) (hb : PW X (.BoolOp .Or (b :: rest) pos) tB') : PW X (.BoolOp .Or (a :: b :: rest) pos) (tOr tA tB') := by
  intro wh pins s σ H Q I h
  refine isTrue_or (thn (ha pins s σ H _ I h) fun c s1 ⟨H1, I1, q1⟩ => ?_)
  cases c with
  | true => exact ⟨H1, I1, q1⟩
  | false => exact hb wh pins s1 σ H1 Q I1 q1
theorem pt_not (ha : PT X a tA) : PT X (.UnaryOp .Not a pos) (tNot tA) := by
  intro pins s σ H Q I h
  exact isTrue_not (ha pins s σ H (fun c H1 => Q (!c) H1) I h)
noncomputable def tAndV (ta tb : TE) : TE := fun σ H Q => ta σ H fun x H1 => ∃ c, x = .bl c ∧ if c = true then tb σ H1 Q else Q (.bl false) H1
noncomputable def tOrV (ta tb : TE) : TE := fun σ H Q => ta σ H fun x H1 => ∃ c, x = .bl c ∧ if c = true then Q (.bl true) H1 else tb σ H1 Q
noncomputable def tNotV (ta : TE) : TE := fun σ H Q => ta σ H fun x H1 => ∃ c, x = .bl c ∧ Q (.bl (!c)) H1
theorem pe_one {op} {t : TE} (h : PE X a t) : PE X (.BoolOp op [a] pos) t := fun pins s σ H Q I hw => BoolOp_one (h pins s σ H Q I hw)
theorem pe_and (ha : PE X a ta) (hb : PE X (.BoolOp .And (b :: rest) pos) tb) : PE X (.BoolOp .And (a :: b :: rest) pos) (tAndV ta tb) := by
  intro pins s σ H Q I h
  refine BoolOp_and (thn (ha pins s σ H _ I h) fun v s1 ⟨x, H1, I1, r1, q1⟩ => ?_)
  obtain ⟨c, rfl, q1⟩ := q1
  cases r1
  refine wpAny_truthy_bool ?_
  cases c with
  | true => exact hb pins s1 σ H1 Q I1 q1
  | false => exact ⟨.bl false, H1, I1, rfl, q1⟩
theorem pe_not (ha : PE X a ta) : PE X (.UnaryOp .Not a pos) (tNotV ta) := by
  intro pins s σ H Q I h
  refine UnaryOp_ (thn (ha pins s σ H _ I h) fun v s1 ⟨x, H1, I1, r1, q1⟩ => ?_)
  obtain ⟨c, rfl, q1⟩ := q1
  cases r1
  exact not_of (wpAny_truthy_bool ⟨.bl (!c), H1, I1, rfl, q1⟩)
noncomputable def tIf (t : TT) (ta tb : TE) : TE := fun σ H Q => t σ H fun c H1 => if c = true then ta σ H1 Q else tb σ H1 Q
end
end L2
namespace L2
open PySem PySem.Spec PyProof.Rows
noncomputable def SqL (K : PySem.W.Frag) (H : Hp) (a : Addr) (xs : List V) : Prop :=
  Rd H a (.lst xs) ∨
    ∃ (o : Obj) (its : Array Value) (n : Nat), K.lookup a = some o ∧ o.cls = .type "list" ∧ o.dict = none ∧ o.data = .seq its n ∧ its.size ≤ sizeLine ∧ Vals xs its.toList
noncomputable def SqT (K : PySem.W.Frag) (H : Hp) (a : Addr) (xs : List V) : Prop :=
  Rd H a (.tup xs) ∨
    ∃ (o : Obj) (its : Array Value) (n : Nat), K.lookup a = some o ∧ (o.cls = .type "tuple" ∧ o.dict = none) ∧ o.data = .seq its n ∧ its.size ≤ sizeLine ∧ Vals xs its.toList
noncomputable def absV : Value → Option V
  | .none => some .non
  | .bool b => some (.bl b)
  | .int i _ => some (.int i)
  | .str x _ => some (.str x)
  | .bytes b _ => some (.byt b)
  | .float b _ => some (.flt b)
  | .ref a => some (.ref a)
  | .type n => some (.ty n)
  | _ => none
theorem RelV.abs {x : V} {u : Value} (r : RelV x u) : absV u = some x := by
  cases x with
  | non => cases r; rfl
  | bl _ => cases r; rfl
  | int _ => obtain ⟨t, rfl⟩ := r; rfl
  | str _ => obtain ⟨t, rfl⟩ := r; rfl
  | byt _ => obtain ⟨t, rfl⟩ := r; rfl
  | flt _ => obtain ⟨t, rfl⟩ := r; rfl
  | ref _ => cases r; rfl
  | ty _ => cases r; rfl
theorem RelV.inj {x y : V} {u : Value} (r : RelV x u) (q : RelV y u) : x = y := Option.some.inj (r.abs.symm.trans q.abs)
theorem Vals.inj : ∀ {xs ys : List V} {us : List Value}, Vals xs us → Vals ys us → xs = ys
  | _, _, _, .nil, .nil => rfl
  | _, _, _, .cons r t, .cons r' t' => by rw [r.inj r', Vals.inj t t']
section
variable {X : Cx} {pins : List (Addr × Obj)} {σ : St} {H : Hp} {s : Shared} {a : Addr} {xs ys : List V}
theorem SqL.of {K : PySem.W.Frag} (h : H a = some (.lst xs)) : SqL K H a xs := .inl (.inl h)
theorem SqT.of {K : PySem.W.Frag} (h : H a = some (.tup xs)) : SqT K H a xs := .inl (.inl h)
theorem Inv.list (I : Inv X pins σ H s) (h : SqL X.K H a xs) : ∃ its : List Value, Vals xs its ∧ PlainL s.heap a its.toArray ∧ xs.length ≤ sizeLine := by
  rcases h with h | ⟨o, its, n, hk, hc, hd, hs, hz, r⟩
  · obtain ⟨z, its, n, r, e⟩ := h.ok I.hok
    exact ⟨its, r, ⟨_, n, e, rfl, rfl, rfl⟩, z⟩
  · refine ⟨its.toList, r, ⟨o, n, I.kIn a o hk, hc, hd, by simpa using hs⟩, ?_⟩
    have e := r.length
    simp only [Array.length_toList] at e
    omega
theorem Inv.tuple (I : Inv X pins σ H s) (h : SqT X.K H a xs) : ∃ its : List Value, Vals xs its ∧ IsTup s.heap a its.toArray ∧ xs.length ≤ sizeLine := by
  rcases h with h | ⟨o, its, n, hk, hc, hs, hz, r⟩
  · obtain ⟨z, its, r, p, _⟩ := h.ok I.hok
    exact ⟨its, r, p, z⟩
  · refine ⟨its.toList, r, ⟨o, I.kIn a o hk, hc.1, n, by simpa using hs⟩, ?_⟩
    have e := r.length
    simp only [Array.length_toList] at e
    omega
theorem Inv.list_inj (I : Inv X pins σ H s) (h : SqL X.K H a xs) (h' : SqL X.K H a ys) : xs = ys := by
  obtain ⟨its, r, ⟨o, n, e, _, _, d⟩, _⟩ := I.list h
  obtain ⟨its', r', ⟨o', n', e', _, _, d'⟩, _⟩ := I.list h'
  rw [e] at e'; cases e'
  rw [d] at d'
  injection d' with d1 _
  have : its = its' := by simpa using congrArg Array.toList d1
  subst this
  exact r.inj r'
theorem Inv.tuple_inj (I : Inv X pins σ H s) (h : SqT X.K H a xs) (h' : SqT X.K H a ys) : xs = ys := by
  obtain ⟨its, r, ⟨o, e, _, n, d⟩, _⟩ := I.tuple h
  obtain ⟨its', r', ⟨o', e', _, n', d'⟩, _⟩ := I.tuple h'
  rw [e] at e'; cases e'
  rw [d] at d'
  injection d' with d1 _
  have : its = its' := by simpa using congrArg Array.toList d1
  subst this
  exact r.inj r'
end
noncomputable abbrev Cx.wish (X : Cx) (E : Value → Shared → Prop) : Cx := { X with xe := E }
noncomputable abbrev Cx.nox (X : Cx) : Cx := X.wish fun _ _ => False
theorem Cx.Ok.wish {X : Cx} (ok : X.Ok) (E : Value → Shared → Prop) : (X.wish E).Ok :=
  ⟨ok.mod, ok.kind, ok.glob, ok.blt, ok.above, ok.inj, ok.has, ok.cab, ok.hd, ok.frames, ok.stk, ok.exf, ok.bs, ok.bsz, ok.noex, ok.exfs, ok.funs, ok.frf⟩
theorem Cx.Ok.unwish {X : Cx} {E : Value → Shared → Prop} (ok : (X.wish E).Ok) : X.Ok :=
  ⟨ok.mod, ok.kind, ok.glob, ok.blt, ok.above, ok.inj, ok.has, ok.cab, ok.hd, ok.frames, ok.stk, ok.exf, ok.bs, ok.bsz, ok.noex, ok.exfs, ok.funs, ok.frf⟩
section
variable {X : Cx} {pins : List (Addr × Obj)} {σ : St} {H : Hp} {s : Shared} {E : Value → Shared → Prop}
theorem Inv.wish (I : Inv X pins σ H s) (E : Value → Shared → Prop) : Inv (X.wish E) pins σ H s := ⟨I.ok.wish E, I.os, I.bare, I.base, I.loc, I.cell, I.free, I.freeC, I.pin, I.hok, I.len⟩
theorem Inv.unwish (I : Inv (X.wish E) pins σ H s) : Inv X pins σ H s := ⟨I.ok.unwish, I.os, I.bare, I.base, I.loc, I.cell, I.free, I.freeC, I.pin, I.hok, I.len⟩
theorem SP.unwish {D : Ends} {f : Flow} {s' : Shared} (h : SP (X.wish E) pins D f s') : SP X pins D f s' := by
  cases f with
  | next => obtain ⟨σ', H', I, q⟩ := h; exact ⟨σ', H', I.unwish, q⟩
  | brk => obtain ⟨σ', H', I, q⟩ := h; exact ⟨σ', H', I.unwish, q⟩
  | cont => obtain ⟨σ', H', I, q⟩ := h; exact ⟨σ', H', I.unwish, q⟩
  | ret u => obtain ⟨v, σ', H', I, r, q⟩ := h; exact ⟨v, σ', H', I.unwish, r, q⟩
theorem PE.nox {e : Expr} {t : TE} (h : PE X.nox e t) : PE X e t := fun pins s σ H Q I hw =>
  wpAny_mono (h pins s σ H Q (I.wish _) hw) (fun _ _ ⟨v, H', I', r, q⟩ => ⟨v, H', I'.unwish, r, q⟩) fun _ _ z => False.elim z
theorem PT.nox {e : Expr} {t : TT} (h : PT X.nox e t) : PT X e t := fun pins s σ H Q I hw =>
  wpAny_mono (h pins s σ H Q (I.wish _) hw) (fun _ _ ⟨H', I', q⟩ => ⟨H', I'.unwish, q⟩) fun _ _ z => False.elim z
theorem PSs.nox {st : List Stmt} {t : TS} (h : PSs X.nox st t) : PSs X st t := fun pins s σ H D I hw =>
  wpAny_mono (h pins s σ H D (I.wish _) hw) (fun _ _ q => q.unwish) fun _ _ z => False.elim z
end
section
variable {X : Cx} {st : Stmt} {rest : List Stmt} {t u : TS} {e : Expr} {te : TE} {pos : Pos}
noncomputable def tNext : TS := fun D σ H => D.nx σ H
noncomputable def tSeq (t u : TS) : TS := fun D σ H => t { D with nx := u D } σ H
theorem pss_nil : PSs X [] tNext := fun _ _ σ H _ I h => wpAny_execs_nil ⟨σ, H, I, h⟩
theorem pss_cons (h1 : PS X st t) (h2 : PSs X rest u) : PSs X (st :: rest) (tSeq t u) := by
  intro pins s σ H D I h
  refine wpAny_execs_cons (thn (h1 pins s σ H { D with nx := u D } I h) fun f s1 q => ?_)
  cases f with
  | next =>
    obtain ⟨σ', H', I', q⟩ := q
    exact h2 pins s1 σ' H' D I' q
  | ret v => exact q
  | brk => exact q
  | cont => exact q
theorem pss_one (h1 : PS X st t) : PSs X [st] t := by
  intro pins s σ H D I h
  refine wpAny_execs_cons (thn (h1 pins s σ H D I h) fun f s1 q => ?_)
  cases f with
  | next => exact wpAny_execs_nil q
  | ret v => exact q
  | brk => exact q
  | cont => exact q
noncomputable def tBreak : TS := fun D σ H => D.bk σ H
noncomputable def tCont : TS := fun D σ H => D.ct σ H
theorem Inv.quiet {pins : List (Addr × Obj)} {σ : St} {H : Hp} {s : Shared} (I : Inv X pins σ H s) : interactive X.env = false := by simp [interactive, I.ok.kind]
noncomputable def tDrop (te : TE) : TS := fun D σ H => te σ H fun _ H1 => D.nx σ H1
theorem ps_expr (he : PE X e te) (hs : swapsWith e none pos.line X.env = pure false := by rfl) : PS X (.Expr e pos) (tDrop te) := by
  intro pins s σ H D I h
  exact wpAny_Expr_any (thn (he pins s σ H _ I h) fun v s1 ⟨x, H1, I1, r1, q1⟩ => ⟨σ, H1, I1, q1⟩) I.quiet hs
noncomputable def tRet (te : TE) : TS := fun D σ H => te σ H D.rt
theorem ps_ret (he : PE X e te) : PS X (.Return (some e) pos) (tRet te) := by
  intro pins s σ H D I h
  exact wpAny_Return_some (thn (he pins s σ H _ I h) fun v s1 ⟨x, H1, I1, r1, q1⟩ => ⟨x, σ, H1, I1, r1, q1⟩)
noncomputable def tRetN : TS := fun D _ H => D.rt .non H
noncomputable def tIfS (c : TT) (t u : TS) : TS := fun D σ H => c σ H fun b H1 => if b = true then t D σ H1 else u D σ H1
theorem ps_if {c : Expr} {a b : List Stmt} {tc : TT} (hc : PT X c tc) (ha : PSs X a t) (hb : PSs X b u) : PS X (.If c a b pos) (tIfS tc t u) := by
  intro pins s σ H D I h
  refine wpAny_If (thn (hc pins s σ H _ I h) fun d s1 ⟨H1, I1, q1⟩ => ?_)
  cases d with
  | true => exact ha pins s1 σ H1 D I1 q1
  | false => exact hb pins s1 σ H1 D I1 q1
noncomputable def tNever : TS := fun _ _ _ => False
theorem ps_never : PS X st tNever := fun _ _ _ _ _ _ h => h.elim
end
noncomputable abbrev TG := V → St → Hp → (St → Hp → Prop) → Prop
noncomputable abbrev TGs := List V → St → Hp → (St → Hp → Prop) → Prop
noncomputable def PG (X : Cx) (target : Expr) (t : TG) : Prop :=
  ∀ (pins : List (Addr × Obj)) (s : Shared) (σ : St) (H : Hp) (v : V) (u : Value) (Q : St → Hp → Prop), Inv X pins σ H s → RelV v u → t v σ H Q →
    wpAny (model X.prog X.w) X.A (assign target X.env u) (fun _ s' => ∃ σ' H', Inv X pins σ' H' s' ∧ Q σ' H') X.xe s
noncomputable def PGs (X : Cx) (ts : List Expr) (t : TGs) : Prop :=
  ∀ (pins : List (Addr × Obj)) (s : Shared) (σ : St) (H : Hp) (vs : List V) (us : List Value) (Q : St → Hp → Prop), Inv X pins σ H s → Vals vs us → t vs σ H Q →
    wpAny (model X.prog X.w) X.A (assignInOrder ((assignEach ts X.env).map (·.2)) us) (fun _ s' => ∃ σ' H', Inv X pins σ' H' s' ∧ Q σ' H') X.xe s
noncomputable abbrev TSet := V → V → V → Hp → (Hp → Prop) → Prop
noncomputable def PSet (X : Cx) (t : TSet) : Prop :=
  ∀ (pins : List (Addr × Obj)) (s : Shared) (σ : St) (H : Hp) (o i v : V) (ov iv u : Value) (Q : Hp → Prop), Inv X pins σ H s → RelV o ov → RelV i iv → RelV v u → t o i v H Q →
    wpAny (model X.prog X.w) X.A (setItem ov iv u) (fun _ s' => ∃ H', Inv X pins σ H' s' ∧ Q H') X.xe s
noncomputable abbrev TIp := V → V → Hp → VK → Prop
noncomputable def PIp (X : Cx) (op : Operator) (t : TIp) : Prop :=
  ∀ (pins : List (Addr × Obj)) (s : Shared) (σ : St) (H : Hp) (x y : V) (v u : Value) (Q : VK), Inv X pins σ H s → RelV x v → RelV y u → t x y H Q →
    wpAny (model X.prog X.w) X.A (inplaceOp op v u) (EP X pins σ Q) X.xe s
section
variable {X : Cx} {pos : Pos}
noncomputable def gName (i : Nat) : TG := fun v σ H Q => Q (σ.set i (some v)) H
theorem pg_name {i : Nat} {x : Str} (hN : X.N.Nodup) (hi : X.N[i]? = some x) (hx : Loc X.env.scope x) (hf : X.fn x = true ∨ X.env.scope.names.lookup x = some .local := by first | exact .inl rfl | exact .inr rfl | assumption) : PG X (.Name x pos) (gName i) := by
  intro pins s σ H v u Q I r h
  exact wpAny_assign_Name (store_ok I hN hi hx r (fun s' I' => ⟨_, H, I', h⟩) hf)
noncomputable def gNil : TGs := fun vs σ H Q => vs = [] ∧ Q σ H
noncomputable def gCons (t : TG) (u : TGs) : TGs := fun vs σ H Q => ∃ v r, vs = v :: r ∧ t v σ H fun σ' H' => u r σ' H' Q
theorem pgs_nil : PGs X [] gNil := by
  intro pins s σ H vs us Q I r h
  obtain ⟨e, h⟩ := h
  subst e
  cases r
  exact assignInOrder_nil ⟨σ, H, I, h⟩
theorem pgs_cons {e : Expr} {es : List Expr} {t : TG} {u : TGs} (h1 : PG X e t) (h2 : PGs X es u)
    (hs : (assignEach (e :: es) X.env).map (·.2) = assign e X.env :: (assignEach es X.env).map (·.2) := by rfl) : PGs X (e :: es) (gCons t u) := by
  intro pins s σ H vs us Q I r h
  obtain ⟨v, vr, e1, h⟩ := h
  subst e1
  cases r with
  | cons r rr =>
    rw [hs]
    refine assignInOrder_cons (thn (h1 pins s σ H _ _ _ I r h) fun _ s1 ⟨σ1, H1, I1, q1⟩ => ?_)
    exact h2 pins s1 σ1 H1 _ _ Q I1 rr q1
noncomputable def gTup (K : PySem.W.Frag) (n : Nat) (t : TGs) : TG := fun v σ H Q => ∃ a xs, v = .ref a ∧ SqT K H a xs ∧ xs.length = n ∧ t xs σ H Q
theorem pg_tup {es : List Expr} {k : Nat} {t : TGs} {n : Nat} (hc : X.calm = true) (h : PGs X es t)
    (hn : (assignEach es X.env).length = n := by rfl) (hst : (assignEach es X.env).findIdx? (·.1) = none := by rfl) : PG X (.Tuple es k pos) (gTup X.K n t) := by
  intro pins s σ H v u Q I r hw
  obtain ⟨a, xs, e1, hq, hl, hw⟩ := hw
  subst e1
  cases r
  obtain ⟨its, rv, ht, hz⟩ := I.tuple hq
  refine assign_Tuple_tuple (I.ok.hd hc) ht (by simp [hn, ← hl, rv.length]) hst fun h' hx => ?_
  have I1 : Inv X pins σ H { s with heap := h' } := I.kept (t' := s.toks) fun b o e => hx b o (Nat.ne_of_lt (Heap.lt_size e)) e
  exact h pins _ σ H xs _ Q I1 (by simpa using rv) hw
noncomputable def gSub (to ti : TE) (t : TSet) : TG := fun v σ H Q => to σ H fun o H1 => ti σ H1 fun i H2 => t o i v H2 fun H3 => Q σ H3
theorem pg_sub {o i : Expr} {to ti : TE} {t : TSet} (ho : PE X o to) (hi : PE X i ti) (hs : PSet X t)
    (ha : ∀ v, assign (.Subscript o i pos) X.env v = (do
      let ov ← holding [v] (eval o X.env)
      let iv ← holding [v, ov] (eval i X.env)
      standAt pos
      holding [v, ov, iv] (setItem ov iv v)
      release [v, ov, iv] []) := by intro _; rfl) : PG X (.Subscript o i pos) (gSub to ti t) := by
  intro pins s σ H v u Q I r h
  rw [ha]
  refine wpAny_bind (wpAny_holding (thn (ho pins s σ H _ I h) fun ov s1 ⟨x, H1, I1, r1, q1⟩ => ?_))
  refine wpAny_bind (wpAny_holding (thn (hi pins s1 σ H1 _ I1 q1) fun iv s2 ⟨y, H2, I2, r2, q2⟩ => ?_))
  refine wpAny_bind (wpAny_standAt (wpAny_bind (wpAny_holding (thn (hs pins s2 σ H2 x y v ov iv u _ I2 r1 r2 r q2) fun _ s3 ⟨H3, I3, q3⟩ => ?_))))
  exact wpAny_release ⟨σ, H3, I3, q3⟩
noncomputable def tAsg (te : TE) (g : TG) : TS := fun D σ H => te σ H fun x H1 => g x σ H1 D.nx
theorem ps_asg {tg e : Expr} {te : TE} {g : TG} (he : PE X e te) (hg : PG X tg g) (hs : swapsWithSole [tg] e pos.line X.env = pure false := by rfl) (hw : swappedStores [tg] e X.env = pure none := by rfl)
    (h1 : (assignEach [tg] X.env).map (·.2) = [assign tg X.env] := by rfl) : PS X (.Assign [tg] e pos) (tAsg te g) := by
  intro pins s σ H D I h
  refine wpAny_Assign_stores (thn (he pins s σ H _ I h) fun v s1 ⟨x, H1, I1, r1, q1⟩ => ?_) hs hw
  rw [h1]
  exact thn (hg pins s1 σ H1 x v _ I1 r1 q1) fun _ s2 q => q
theorem ps_set {i : Nat} {x : Str} {e : Expr} {te : TE} {pos' : Pos} (hN : X.N.Nodup) (hi : X.N[i]? = some x) (hx : Loc X.env.scope x) (he : PE X e te) (hs : swapsWith e (some (.Name x pos')) pos.line X.env = pure false := by rfl) (hf : X.fn x = true ∨ X.env.scope.names.lookup x = some .local := by first | exact .inl rfl | exact .inr rfl | assumption) :
    PS X (.Assign [.Name x pos'] e pos) (tAsg te (gName i)) := by
  intro pins s σ H D I h
  refine wpAny_Assign_Name (thn (he pins s σ H _ I h) fun v s1 ⟨y, H1, I1, r1, q1⟩ => ?_) hs
  exact store_ok I1 hN hi hx r1 (fun s2 I2 => ⟨_, H1, I2, q1⟩) hf
noncomputable def tPar (i j : Nat) (ta : TA) : TS := fun D σ H => ta σ H fun vs H1 => ∃ v w, vs = [v, w] ∧ D.nx ((σ.set i (some v)).set j (some w)) H1
theorem ps_par {i j : Nat} {x y : Str} {a b : Expr} {ta : TA} {px py pt : Pos} {kt k2 pt2} (hc : X.calm = true) (hN : X.N.Nodup) (hi : X.N[i]? = some x) (hj : X.N[j]? = some y) (hij : i ≠ j)
    (hx : X.env.scope.names.lookup x = some .local) (hy : X.env.scope.names.lookup y = some .local) (ha : PA X [a, b] ta)
    (hw : swappedStores [.Tuple [.Name x px, .Name y py] kt pt] (.Tuple [a, b] k2 pt2) X.env = pure (some [x, y]))
    (hs : swapsWithSole [.Tuple [.Name x px, .Name y py] kt pt] (.Tuple [a, b] k2 pt2) pos.line X.env = pure false := by rfl) :
    PS X (.Assign [.Tuple [.Name x px, .Name y py] kt pt] (.Tuple [a, b] k2 pt2) pos) (tPar i j ta) := by
  intro pins s σ H D I h
  rw [exec_Assign_arm]
  refine wpAny_bind (wpAny_standAt ?_)
  rw [hs]
  refine wpAny_bind (wpAny_pure ?_)
  rw [if_neg (by decide)]
  refine wpAny_bind (Tuple_ (thn (ha _ pins s σ H _ I h) fun us s1 ⟨vs, H1, I1, r1, q1⟩ => ?_))
  obtain ⟨v, w, e1, q1⟩ := q1
  subst e1
  obtain ⟨u1, u2, rfl, rv, rw'⟩ : ∃ u1 u2, us = [u1, u2] ∧ RelV v u1 ∧ RelV w u2 := by
    cases r1 with
    | cons p q =>
      cases q with
      | cons p' q' =>
        cases q'
        exact ⟨_, _, rfl, p, p'⟩
  refine wpAny_newObj_type ?_ (by show 2 ≤ sizeLine; decide)
  have I2 : Inv X pins σ H1 { s1 with heap := s1.heap.push { cls := .type "tuple", data := .seq [u1, u2].toArray } } := I1.kept (t' := s1.toks) fun b o e => Heap.get?_push_of_some _ e
  rw [hw]
  refine wpAny_bind (wpAny_pure ?_)
  show wpAny (model X.prog X.w) X.A (do rule "assign.swapped-stores"; let items ← unpackItems (.ref s1.heap.objs.size) 2 none; assignInOrder [fun v => bindName X.env y v, fun v => bindName X.env x v] items.reverse; pure Flow.next) _ _ _
  refine wpAny_bind (wpAny_rule (wpAny_bind (unpackItems_tuple (items := #[u1, u2]) (I.ok.hd hc) (IsTup.new s1.heap _) fun h' hx' => ?_)))
  have I3 := I2.kept (h' := h') (t' := s1.toks) fun b o e => hx' b o (Nat.ne_of_lt (Heap.lt_size e)) e
  show wpAny _ _ (assignInOrder [fun v => bindName X.env y v, fun v => bindName X.env x v] [u2, u1] >>= fun _ => pure Flow.next) _ _ _
  refine wpAny_bind (assignInOrder_cons (wpAny_bindName (store_ok I3 hN hj (.inl hy) rw' (fun s2 I4 => ?_) (.inr hy))))
  refine assignInOrder_cons (wpAny_bindName (store_ok I4 hN hi (.inl hx) rv (fun s3 I5 => assignInOrder_nil (wpAny_pure ?_)) (.inr hx)))
  rw [List.set_comm _ _ (Ne.symm hij)] at I5
  exact ⟨_, H1, I5, q1⟩
noncomputable def tAug (i : Nat) (te : TE) (ti : TIp) : TS := fun D σ H => ∃ x, σ[i]? = some (some x) ∧ te σ H fun y H1 => ti x y H1 fun z H2 => D.nx (σ.set i (some z)) H2
noncomputable def tAugS (to ti te : TE) (tget : V → V → Hp → VK → Prop) (tip : TIp) (tset : TSet) : TS := fun D σ H => to σ H fun o H1 => ti σ H1 fun i H2 => tget o i H2 fun x H3 => te σ H3 fun y H4 => tip x y H4 fun z H5 => tset o i z H5 fun H6 => D.nx σ H6
noncomputable def PGet (X : Cx) (t : V → V → Hp → VK → Prop) : Prop :=
  ∀ (pins : List (Addr × Obj)) (s : Shared) (σ : St) (H : Hp) (o i : V) (ov iv : Value) (Q : VK), Inv X pins σ H s → RelV o ov → RelV i iv → t o i H Q →
    wpAny (model X.prog X.w) X.A (getItem ov iv) (EP X pins σ Q) X.xe s
noncomputable def ipI (f : Int → Int → Int) : TIp := fun x y H Q => ∃ i j, x = .int i ∧ y = .int j ∧ Q (.int (f i j)) H
end
section
variable {X : Cx} {pos : Pos}
noncomputable def tWhile (c : TT) (tb : TS) : TS := fun D σ H => ∃ W : Nat → St → Hp → Prop, (∃ m, W m σ H) ∧ ∀ m σ H, W m σ H →
  c σ H fun b H1 => if b = true then ∃ N : St → Hp → Prop, (∀ σ' H', N σ' H' → ∃ m', m' < m ∧ W m' σ' H') ∧ tb { D with nx := N, ct := N, bk := D.nx } σ H1 else D.nx σ H1
theorem ps_while {c : Expr} {body : List Stmt} {tc : TT} {tb : TS} (hp : PassesOwn (model X.prog X.w) X.A X.env X.xe) (hc : PT X c tc) (hb : PSs X body tb) : PS X (.While c body [] pos) (tWhile tc tb) := by
  intro pins s σ H D I h
  obtain ⟨W, ⟨m0, w0⟩, turn⟩ := h
  refine wpAny_While (codeAny_whileLoop (fun n s' => ∃ σ' H', Inv X pins σ' H' s' ∧ W n σ' H') ?_ m0 ⟨σ, H, I, w0⟩)
  rintro n s1 ⟨σ1, H1, I1, w1⟩
  refine wpAny_passesOwn hp (thn (hc pins s1 σ1 H1 _ I1 (turn n σ1 H1 w1)) fun b s2 ⟨H2, I2, q2⟩ => ?_)
  cases b with
  | true =>
    obtain ⟨N, hN, q2⟩ := q2
    rw [if_pos rfl]
    refine wpAny_passesOwn hp (thn (hb pins s2 σ1 H2 _ I2 q2) fun f s3 q3 => ?_)
    cases f with
    | next =>
      obtain ⟨σ3, H3, I3, n3⟩ := q3
      obtain ⟨m', hm, w3⟩ := hN σ3 H3 n3
      exact ⟨m', hm, σ3, H3, I3, w3⟩
    | cont =>
      obtain ⟨σ3, H3, I3, n3⟩ := q3
      obtain ⟨m', hm, w3⟩ := hN σ3 H3 n3
      exact ⟨m', hm, σ3, H3, I3, w3⟩
    | brk => exact q3
    | ret v => exact q3
  | false =>
    rw [if_neg Bool.false_ne_true]
    exact wpAny_execs_nil ⟨σ1, H2, I2, q2⟩
end
structure It where
  go : Nat → Hp → Prop
  yld : Nat → Hp → V → Hp → Prop
  stop : Nat → Hp → Prop
noncomputable def FpOk (X : Cx) (pins : List (Addr × Obj)) (H : Hp) (b : Addr) : Prop :=
  H b = none ∧ b ≠ X.env.locals ∧ b ∉ X.fs ∧ (b ∈ X.ex ∨ X.s₀.heap.objs.size ≤ b) ∧ (∀ x c, X.env.cells.lookup x = some c → c ≠ b) ∧ ∀ p ∈ X.pn ++ pins, p.1 ≠ b
theorem Inv.fpOk {X : Cx} {pins : List (Addr × Obj)} {σ : St} {H H' : Hp} {s : Shared} {b : Addr} (I : Inv X pins σ H s) (hb : s.heap.objs.size ≤ b) (hn : H' b = none) : FpOk X pins H' b := by
  refine ⟨hn, Nat.ne_of_gt (Nat.lt_of_lt_of_le I.lt hb), I.nofs hb, .inr (Nat.le_trans I.sz hb), fun x c e z => ?_, fun p hp z => ?_⟩
  · obtain ⟨v, q⟩ := I.cell x c e
    exact absurd (Nat.lt_of_lt_of_le q.lt (by rw [z]; exact hb)) (Nat.lt_irrefl _)
  · exact absurd (Nat.lt_of_lt_of_le (Heap.lt_size (I.pin p hp).1) (by rw [z]; exact hb)) (Nat.lt_irrefl _)
structure Turn (P : Program) (w : World) (K : PySem.W.Frag) (tg : Expr) (J : It) (fp : List Addr) (it : Addr) (tn : Nat → Heap → Prop) : Prop where
  mem : it ∈ fp
  obj : ∀ i h, tn i h → ∀ b ∈ fp, ∃ o, h.get? b = some o ∧ ∀ v, o.data ≠ .cell v
  keep : ∀ i h h', tn i h → (∀ b ∈ fp, ∀ o, h.get? b = some o → h'.get? b = some o) → tn i h'
  item : ∀ (X : Cx), X.prog = P → X.w = w → X.K = K → X.calm = true → ∀ (i : Nat) (pins : List (Addr × Obj)) (s : Shared) (σ : St) (H : Hp) (E : Value → Shared → Prop), Inv X pins σ H s → (∀ b ∈ fp, FpOk X pins H b) → tn i s.heap → J.go i H →
    wpAny (model P w) X.A (pyNext (.ref it)) (fun r s1 => ∃ u, r = some u ∧
      wpAny (model P w) X.A (letOwnedTupleGo tg (.ref it) u) (fun _ s2 => ∃ x H', Inv X pins σ H' s2 ∧ RelV x u ∧ J.yld i H x H' ∧ tn (i + 1) s2.heap ∧ ∀ b ∈ fp, H' b = none) E s1) E s
  done : ∀ (X : Cx), X.prog = P → X.w = w → X.K = K → X.calm = true → ∀ (i : Nat) (pins : List (Addr × Obj)) (s : Shared) (σ : St) (H : Hp) (E : Value → Shared → Prop), Inv X pins σ H s → (∀ b ∈ fp, FpOk X pins H b) → tn i s.heap → J.stop i H →
    wpAny (model P w) X.A (pyNext (.ref it)) (fun r s1 => r = none ∧ Inv X pins σ H s1) E s
  self : ∀ (A : Around) (i : Nat) (s : Shared) (Q : Value → Shared → Prop) (E : Value → Shared → Prop), tn i s.heap → Q (.ref it) s → wpAny (model P w) A (pyIter (.ref it)) Q E s
noncomputable abbrev TI := St → Hp → (It → Hp → Prop) → Prop
noncomputable def PIE (X : Cx) (pins : List (Addr × Obj)) (σ : St) (tg : Expr) (R : It → Hp → Prop) (itv : Value) (s2 : Shared) : Prop :=
  ∃ (it : Addr) (fp : List Addr) (tn : Nat → Heap → Prop) (J : It) (H' : Hp), itv = .ref it ∧ Inv X pins σ H' s2 ∧ Turn X.prog X.w X.K tg J fp it tn ∧ tn 0 s2.heap ∧ (∀ b ∈ fp, FpOk X pins H' b) ∧ R J H'
noncomputable def PI (X : Cx) (tg iter : Expr) (wi : TI) : Prop :=
  ∀ (pins : List (Addr × Obj)) (s : Shared) (σ : St) (H : Hp) (R : It → Hp → Prop), Inv X pins σ H s → wi σ H R →
    wpAny (model X.prog X.w) X.A (eval iter X.env) (fun v s1 => wpAny (model X.prog X.w) X.A (pyIter v) (PIE X pins σ tg R) X.xe s1) X.xe s
theorem go_of {M : Model} {A : Around} {E : Value → Shared → Prop} {s : Shared} {tg : Expr} {it : Addr} {u : Value} {o : Obj} {n : String} {vs : Array Value} {Q : Unit → Shared → Prop} (ho : s.heap.get? it = some o) (hc : o.cls = .type n) (hd : o.data = .fields vs)
    (hn : ["enumerate", "zip", "dict_itemiterator", "dict_reverseitemiterator", "odict_iterator", "itertools.zip_longest", "itertools.pairwise"].contains n = false) (hQ : Q () s) : wpAny M A (letOwnedTupleGo tg (.ref it) u) Q E s := by
  unfold letOwnedTupleGo
  cases tg <;> first
    | exact wpAny_pure hQ
    | (cases u <;> first
        | exact wpAny_pure hQ
        | (refine wpAny_bind (wpAny_load ho ?_)
           rw [hc, hd]
           show wpAny M A (if (["enumerate", "zip", "dict_itemiterator", "dict_reverseitemiterator", "odict_iterator", "itertools.zip_longest", "itertools.pairwise"].contains n && vs[0]? == some (rawInt _)) = true then _ else _) Q E s
           rw [if_neg (by intro h; rw [hn, Bool.false_and] at h; cases h)]
           exact wpAny_pure hQ))
noncomputable def Itl (K : PySem.W.Frag) (a : Addr) : It :=
  ⟨fun i H => ∃ xs x, SqL K H a xs ∧ xs[i]? = some x, fun i H x H' => H' = H ∧ ∀ xs, SqL K H a xs → xs[i]? = some x, fun i H => ∃ xs, SqL K H a xs ∧ xs.length ≤ i⟩
noncomputable def Itt (K : PySem.W.Frag) (a : Addr) : It :=
  ⟨fun i H => ∃ xs x, SqT K H a xs ∧ xs[i]? = some x, fun i H x H' => H' = H ∧ ∀ xs, SqT K H a xs → xs[i]? = some x, fun i H => ∃ xs, SqT K H a xs ∧ xs.length ≤ i⟩
noncomputable def Itr (lo : Int) (n : Nat) : It := ⟨fun i _ => i < n, fun i H x H' => H' = H ∧ x = .int (lo + i), fun i _ => n ≤ i⟩
theorem turn_list {P : Program} {w : World} {K : PySem.W.Frag} {tg : Expr} (a it : Addr) : Turn P w K tg (Itl K a) [it] it (fun i h => h.IsListIter it a i) where
  mem := by simp
  obj := fun i h st b hb => by
    have e : b = it := by simpa using hb
    subst e
    obtain ⟨o, e, c, d⟩ := st
    exact ⟨o, e, fun v z => by rw [d] at z; cases z⟩
  keep := fun i h h' st k => st.at fun o e => k it (by simp) o e
  item := by
    intro X hP hw hK hc i pins s σ H E I hf st hg
    subst hP hw hK
    obtain ⟨xs, x, hq, hx⟩ := hg
    obtain ⟨its, rv, p, hz⟩ := I.list hq
    obtain ⟨u, hu, ru⟩ := rv.get hx
    obtain ⟨f0, f1, f2, f3, f4, f5⟩ := hf it (by simp)
    refine wpAny_pyNext_list_item st p.isList (x := u) (by simpa using hu) fun h' st' sb => ?_
    have I1 : Inv X pins σ H { s with heap := h' } := I.turned (t' := s.toks) (fun b o hb e => (sb.2 b hb).trans e) f0 f1 f3 f4 f5
    obtain ⟨o, e, c, d⟩ := id st'
    exact ⟨u, rfl, go_of (s := { s with heap := h' }) e c d (by decide) ⟨x, H, I1, ru, ⟨rfl, fun ys hy => by rw [I.list_inj hy hq]; exact hx⟩, st', fun b hb => (hf b hb).1⟩⟩
  done := by
    intro X hP hw hK hc i pins s σ H E I hf st hg
    subst hP hw hK
    obtain ⟨xs, hq, hx⟩ := hg
    obtain ⟨its, rv, p, hz⟩ := I.list hq
    obtain ⟨f0, f1, f2, f3, f4, f5⟩ := hf it (by simp)
    have hl := rv.length
    exact wpAny_pyNext_list_end (I.ok.hd hc) st p.isList (by simp; omega) fun h' eb => ⟨rfl, I.turned (t' := s.toks) (fun b o hb e => eb b o hb e) f0 f1 f3 f4 f5⟩
  self := fun _ _ _ _ _ st h => wpAny_pyIter_listiter st h
theorem turn_tuple {P : Program} {w : World} {K : PySem.W.Frag} {tg : Expr} (a it : Addr) : Turn P w K tg (Itt K a) [it] it (fun i h => h.IsTupleIter it a i) where
  mem := by simp
  obj := fun i h st b hb => by
    have e : b = it := by simpa using hb
    subst e
    obtain ⟨o, e, c, d⟩ := st
    exact ⟨o, e, fun v z => by rw [d] at z; cases z⟩
  keep := fun i h h' st k => st.at fun o e => k it (by simp) o e
  item := by
    intro X hP hw hK hc i pins s σ H E I hf st hg
    subst hP hw hK
    obtain ⟨xs, x, hq, hx⟩ := hg
    obtain ⟨its, rv, p, hz⟩ := I.tuple hq
    obtain ⟨u, hu, ru⟩ := rv.get hx
    obtain ⟨f0, f1, f2, f3, f4, f5⟩ := hf it (by simp)
    refine wpAny_pyNext_tuple_item st (show s.heap.IsTuple a its.toArray from p) (x := u) (by simpa using hu) fun h' st' sb => ?_
    have I1 : Inv X pins σ H { s with heap := h' } := I.turned (t' := s.toks) (fun b o hb e => (sb.2 b hb).trans e) f0 f1 f3 f4 f5
    obtain ⟨o, e, c, d⟩ := id st'
    exact ⟨u, rfl, go_of (s := { s with heap := h' }) e c d (by decide) ⟨x, H, I1, ru, ⟨rfl, fun ys hy => by rw [I.tuple_inj hy hq]; exact hx⟩, st', fun b hb => (hf b hb).1⟩⟩
  done := by
    intro X hP hw hK hc i pins s σ H E I hf st hg
    subst hP hw hK
    obtain ⟨xs, hq, hx⟩ := hg
    obtain ⟨its, rv, p, hz⟩ := I.tuple hq
    obtain ⟨f0, f1, f2, f3, f4, f5⟩ := hf it (by simp)
    have hl := rv.length
    exact wpAny_pyNext_tuple_end (I.ok.hd hc) st (show s.heap.IsTuple a its.toArray from p) (by simp; omega) fun h' eb => ⟨rfl, I.turned (t' := s.toks) (fun b o hb e => eb b o hb e) f0 f1 f3 f4 f5⟩
  self := fun _ _ _ _ _ st h => wpAny_pyIter_tupleiter st h
theorem turn_range {P : Program} {w : World} {K : PySem.W.Frag} {tg : Expr} (it : Addr) (lo : Int) (n : Nat) : Turn P w K tg (Itr lo n) [it] it (fun i h => IsRangeIter h it (lo + (i : Nat) * 1) ((n : Int) - (i : Nat)) 1) where
  mem := by simp
  obj := fun i h st b hb => by
    have e : b = it := by simpa using hb
    subst e
    exact ⟨_, st, fun v z => by
      have z' : Data.fields _ = Data.cell v := z
      cases z'⟩
  keep := fun i h h' st k => k it (by simp) _ st
  item := by
    intro X hP hw hK hc i pins s σ H E I hf st hg
    subst hP hw hK
    obtain ⟨f0, f1, f2, f3, f4, f5⟩ := hf it (by simp)
    have W := Walks.range (prog := X.prog) (w := X.w) (I.ok.hd hc) it lo 1 n
    refine W.item i s _ _ hg st fun v h' tk hv st' kk => ?_
    obtain ⟨t, rfl⟩ := hv
    have I1 : Inv X pins σ H { s with heap := h', toks := tk } := I.turned (fun b o hb e => kk b o (by simpa using hb) e) f0 f1 f3 f4 f5
    refine ⟨_, rfl, go_of (s := { s with heap := h', toks := tk }) (n := "range_iterator") st' rfl rfl (by decide) ⟨.int (lo + i), H, I1, ⟨t, ?_⟩, ⟨rfl, rfl⟩, st', fun b hb => (hf b hb).1⟩⟩
    rw [Int.mul_one]
  done := by
    intro X hP hw hK hc i pins s σ H E I hf st hg
    subst hP hw hK
    obtain ⟨f0, f1, f2, f3, f4, f5⟩ := hf it (by simp)
    exact wpAny_pyNext_range_end (I.ok.hd hc) st (by have : n ≤ i := hg; omega) fun h' eb => ⟨rfl, I.turned (t' := s.toks) (fun b o hb e => eb b o hb e) f0 f1 f3 f4 f5⟩
  self := fun _ _ _ _ _ st h => wpAny_pyIter_rangeiter st h
end L2
namespace L2
open PySem PySem.Spec PyProof.Rows
section
variable {X : Cx} {tg : Expr}
noncomputable def iList (K : PySem.W.Frag) (tl : TE) : TI := fun σ H R => tl σ H fun x H1 => ∃ a, x = .ref a ∧ (∃ xs, SqL K H1 a xs) ∧ R (Itl K a) H1
noncomputable def iTup (K : PySem.W.Frag) (tl : TE) : TI := fun σ H R => tl σ H fun x H1 => ∃ a, x = .ref a ∧ (∃ xs, SqT K H1 a xs) ∧ R (Itt K a) H1
theorem range_it {pins : List (Addr × Obj)} {σ : St} {H : Hp} {s : Shared} {R : It → Hp → Prop} {E : Value → Shared → Prop} {lo hi : Int} {t u v : Tok} {tk : Nat} (I : Inv X pins σ H s) (h1 : -(2 ^ 62) ≤ lo) (h2 : lo < 2 ^ 62) (h3 : -(2 ^ 62) ≤ hi) (h4 : hi < 2 ^ 62)
    (q : R (Itr lo (hi - lo).toNat) H) : wpAny (model X.prog X.w) X.A (pyIter (.ref s.heap.objs.size)) (PIE X pins σ tg R) E { s with heap := s.heap.push { cls := .type "range", data := .fields #[.int lo t, .int hi u, .int 1 v] }, toks := tk } := by
  refine wpAny_pyIter_range (IsRange.new ..) (small_one h1 h2 h3 h4) ?_
  have I1 : Inv X pins σ H { s with heap := s.heap.push { cls := .type "range", data := .fields #[.int lo t, .int hi u, .int 1 v] }, toks := tk } := I.kept fun b o e => Heap.get?_push_of_some _ e
  refine ⟨(s.heap.push { cls := .type "range", data := .fields #[.int lo t, .int hi u, .int 1 v] }).objs.size, [(s.heap.push { cls := .type "range", data := .fields #[.int lo t, .int hi u, .int 1 v] }).objs.size], _, _, H, rfl,
    I1.kept (t' := tk) fun b o e => Heap.get?_push_of_some _ e, turn_range _ lo (hi - lo).toNat, ?_, fun b hb => ?_, q⟩
  · have e1 : lo + ((0 : Nat) : Int) * 1 = lo := by simp
    have e2 : (((hi - lo).toNat : Nat) : Int) - ((0 : Nat) : Int) = Builtin.Range.rangeSize lo hi 1 := by rw [rangeSize_one]; split <;> omega
    show IsRangeIter _ _ (lo + ((0 : Nat) : Int) * 1) ((((hi - lo).toNat : Nat) : Int) - ((0 : Nat) : Int)) 1
    rw [e1, e2]
    exact Heap.get?_push_size _ rfl
  · have e : b = (s.heap.push { cls := .type "range", data := .fields #[.int lo t, .int hi u, .int 1 v] }).objs.size := by simpa using hb
    subst e
    exact I1.fpOk (Nat.le_refl _) (I1.hok.fresh (Nat.le_refl _))
noncomputable def iRng1 (ta : TA) : TI := fun σ H R => ta σ H fun vs H1 => ∃ j : Int, vs = [.int j] ∧ -(2 ^ 62) ≤ j ∧ j < 2 ^ 62 ∧ R (Itr 0 j.toNat) H1
noncomputable def iRng2 (ta : TA) : TI := fun σ H R => ta σ H fun vs H1 => ∃ i j : Int, vs = [.int i, .int j] ∧ (-(2 ^ 62) ≤ i ∧ i < 2 ^ 62 ∧ -(2 ^ 62) ≤ j ∧ j < 2 ^ 62) ∧ R (Itr i (j - i).toNat) H1
theorem pi_range1 {a : Expr} {ta : TA} {p pos : Pos} (hg : Gl X "range") (hm : X.mg "range" = none) (ha : PA X [a] ta) (hs : starEach [a] X.env = [(false, eval a X.env)] := by rfl) : PI X tg (.Call (.Name "range" p) [a] [] pos) (iRng1 ta) := by
  intro pins s σ H R I h
  refine Call_ (ld_blt I hg hm boot_range (PyProof.Rows.callWith_type1 (thn (ha pos pins s σ H _ I h) fun us s1 ⟨vs, H1, I1, r1, q1⟩ => ?_) hs rfl))
  obtain ⟨j, e, q1, q2, q⟩ := q1
  subst e
  cases r1 with
  | cons r rr =>
    cases rr
    obtain ⟨t, rfl⟩ := r
    exact call_range_1 (range_it I1 (by omega) (by omega) q1 q2 (by simpa using q))
noncomputable def tFor (wi : TI) (g : TG) (tb : TS) : TS := fun D σ H => wi σ H fun J H1 => ∃ W : Nat → Nat → St → Hp → Prop, (∃ m, W 0 m σ H1) ∧ ∀ i m σ H, W i m σ H →
  (J.stop i H ∧ D.nx σ H) ∨ (J.go i H ∧ ∃ N : St → Hp → Prop, (∀ σ' H', N σ' H' → ∃ m', m' < m ∧ W (i + 1) m' σ' H') ∧ ∀ x H', J.yld i H x H' → g x σ H' fun σ2 H2 => tb { D with nx := N, ct := N, bk := D.nx } σ2 H2)
noncomputable def pinsAt (fp : List Addr) (h : Heap) : List (Addr × Obj) := fp.filterMap fun b => (h.get? b).map fun o => (b, o)
theorem mem_pinsAt {fp : List Addr} {h : Heap} {b : Addr} {o : Obj} (hb : b ∈ fp) (e : h.get? b = some o) : (b, o) ∈ pinsAt fp h := List.mem_filterMap.mpr ⟨b, hb, by rw [e]; rfl⟩
theorem of_pinsAt {fp : List Addr} {h : Heap} {p : Addr × Obj} (hp : p ∈ pinsAt fp h) : p.1 ∈ fp ∧ h.get? p.1 = some p.2 := by
  obtain ⟨b, hb, e⟩ := List.mem_filterMap.mp hp
  cases q : h.get? b with
  | none => rw [q] at e; cases e
  | some o =>
    rw [q] at e
    have e' : (b, o) = p := Option.some.inj e
    subst e'
    exact ⟨hb, q⟩
theorem Inv.pinned {pins : List (Addr × Obj)} {σ : St} {H : Hp} {s : Shared} {fp : List Addr} (I : Inv X pins σ H s) (hf : ∀ b ∈ fp, FpOk X pins H b) (ho : ∀ b ∈ fp, ∃ o, s.heap.get? b = some o ∧ ∀ v, o.data ≠ .cell v) : Inv X (pins ++ pinsAt fp s.heap) σ H s :=
  I.pins_of fun p hp => (List.mem_append.mp hp).elim (fun z => I.pin p (List.mem_append_right _ z)) fun z => by
    obtain ⟨hb, e⟩ := of_pinsAt z
    obtain ⟨f0, f1, f2, _⟩ := hf p.1 hb
    obtain ⟨o, e', d⟩ := ho p.1 hb
    rw [e] at e'; cases e'
    exact ⟨e, f0, f1, f2, d⟩
theorem Inv.unpinned {pins pl : List (Addr × Obj)} {σ : St} {H : Hp} {s : Shared} (I : Inv X (pins ++ pl) σ H s) : Inv X pins σ H s := I.pins_of fun p hp => I.pin p (List.mem_append_right _ (List.mem_append_left _ hp))
theorem ps_for {iter : Expr} {body : List Stmt} {wi : TI} {g : TG} {tb : TS} {pos : Pos} (hp : PassesOwn (model X.prog X.w) X.A X.env X.xe) (hc : X.calm = true) (hi : PI X tg iter wi) (hg : PG X tg g) (hb : PSs X body tb)
    (hs : ∀ x, foldedSetIterable iter X.env x = pure x := by intro _; rfl) : PS X (.For tg iter body [] pos) (tFor wi g tb) := by
  intro pins s σ H D I h
  refine wpAny_For (thn (hi pins s σ H _ I h) fun v s1 h1 => thn h1 fun itv s2 h2 => ?_) hs
  obtain ⟨it, fp, tn, J, H2, e, I2, T, st2, f2, W, ⟨m0, w0⟩, turn⟩ := h2
  subst e
  have stat : ∀ {H' : Hp}, (∀ b ∈ fp, H' b = none) → ∀ b ∈ fp, FpOk X pins H' b := fun hn b hb => ⟨hn b hb, (f2 b hb).2⟩
  refine codeAny_forLoop_any (fun n s' => ∃ i σ' H', Inv X pins σ' H' s' ∧ tn i s'.heap ∧ (∀ b ∈ fp, H' b = none) ∧ W i n σ' H') ?_ m0 ⟨0, σ, H2, I2, st2, fun b hb => (f2 b hb).1, w0⟩
  rintro n s3 ⟨i, σ3, H3, I3, st3, fr3, w3⟩
  rcases turn i n σ3 H3 w3 with ⟨stop, qn⟩ | ⟨go, N, hN, step⟩
  · refine wpAny_passesOwn hp (thn (T.done X rfl rfl rfl hc i pins s3 σ3 H3 X.xe I3 (stat fr3) st3 stop) fun r s4 ⟨hr, I4⟩ => ?_)
    subst hr
    exact wpAny_execs_nil ⟨σ3, H3, I4, qn⟩
  · refine wpAny_passesOwn hp (thn (T.item X rfl rfl rfl hc i pins s3 σ3 H3 X.xe I3 (stat fr3) st3 go) fun r s4 ⟨u, hr, h4⟩ => ?_)
    subst hr
    refine wpAny_passesOwn hp (thn h4 fun _ s5 ⟨x, H5, I5, r5, y5, st5, fr5⟩ => ?_)
    have I5' := I5.pinned (stat fr5) (T.obj _ _ st5)
    refine wpAny_passesOwn hp (thn (hg _ s5 σ3 H5 x u _ I5' r5 (step x H5 y5)) fun _ s6 ⟨σ6, H6, I6, q6⟩ => ?_)
    refine wpAny_passesOwn hp (thn (hb _ s6 σ6 H6 _ I6 q6) fun f s7 q7 => ?_)
    have again : ∀ {σ7 : St} {H7 : Hp}, Inv X (pins ++ pinsAt fp s5.heap) σ7 H7 s7 → N σ7 H7 → ∃ m, m < n ∧ ∃ i σ' H', Inv X pins σ' H' s7 ∧ tn i s7.heap ∧ (∀ b ∈ fp, H' b = none) ∧ W i m σ' H' := fun {σ7 H7} I7 n7 => by
      obtain ⟨m', hm, w7⟩ := hN σ7 H7 n7
      refine ⟨m', hm, i + 1, σ7, H7, I7.unpinned, T.keep _ _ _ st5 fun b hb o e => (I7.pin (b, o) (List.mem_append_right _ (List.mem_append_right _ (mem_pinsAt hb e)))).1, fun b hb => ?_, w7⟩
      obtain ⟨o, e, d⟩ := T.obj _ _ st5 b hb
      exact (I7.pin (b, o) (List.mem_append_right _ (List.mem_append_right _ (mem_pinsAt hb e)))).2.1
    cases f with
    | next => obtain ⟨σ7, H7, I7, n7⟩ := q7; exact again I7 n7
    | cont => obtain ⟨σ7, H7, I7, n7⟩ := q7; exact again I7 n7
    | brk => obtain ⟨σ7, H7, I7, q7⟩ := q7; exact ⟨σ7, H7, I7.unpinned, q7⟩
    | ret v => obtain ⟨x7, σ7, H7, I7, r7, q7⟩ := q7; exact ⟨x7, σ7, H7, I7.unpinned, r7, q7⟩
end
theorem for_range {lo : Int} {n : Nat} {g : TG} {tb : TS} {D : Ends} {σ : St} {H : Hp} (Pv : Nat → St → Hp → Prop) (h0 : Pv 0 σ H)
    (hs : ∀ i σ H, i < n → Pv i σ H → g (.int (lo + i)) σ H fun σ2 H2 => tb { D with nx := Pv (i + 1), ct := Pv (i + 1), bk := D.nx } σ2 H2) (hd : ∀ σ H, Pv n σ H → D.nx σ H) :
    ∃ W : Nat → Nat → St → Hp → Prop, (∃ m, W 0 m σ H) ∧ ∀ i m σ H, W i m σ H →
      ((Itr lo n).stop i H ∧ D.nx σ H) ∨ ((Itr lo n).go i H ∧ ∃ N : St → Hp → Prop, (∀ σ' H', N σ' H' → ∃ m', m' < m ∧ W (i + 1) m' σ' H') ∧ ∀ x H', (Itr lo n).yld i H x H' → g x σ H' fun σ2 H2 => tb { D with nx := N, ct := N, bk := D.nx } σ2 H2) := by
  refine ⟨fun i m σ H => m = n - i ∧ i ≤ n ∧ Pv i σ H, ⟨n, by simp, Nat.zero_le _, h0⟩, ?_⟩
  rintro i m σ H ⟨rfl, hi, p⟩
  by_cases hlt : i < n
  · refine .inr ⟨hlt, Pv (i + 1), fun σ' H' p' => ⟨n - (i + 1), by omega, rfl, hlt, p'⟩, fun x H' y => ?_⟩
    obtain ⟨e, y⟩ := y
    subst e y
    exact hs i σ _ hlt p
  · have e : i = n := by omega
    subst e
    exact .inl ⟨Nat.le_refl _, hd σ H p⟩
end L2
namespace L2
open PySem PySem.Spec PyProof.Rows
noncomputable abbrev R2 := V → V → Hp → VK → Prop
noncomputable def OpR (X : Cx) (f : Value → Value → Sem Value) (r : R2) : Prop :=
  ∀ (pins : List (Addr × Obj)) (s : Shared) (σ : St) (H : Hp) (x y : V) (v u : Value) (Q : VK), Inv X pins σ H s → RelV x v → RelV y u → r x y H Q →
    wpAny (model X.prog X.w) X.A (f v u) (EP X pins σ Q) X.xe s
noncomputable def UnR (X : Cx) (f : Value → Sem Value) (r : V → Hp → VK → Prop) : Prop :=
  ∀ (pins : List (Addr × Obj)) (s : Shared) (σ : St) (H : Hp) (x : V) (v : Value) (Q : VK), Inv X pins σ H s → RelV x v → r x H Q →
    wpAny (model X.prog X.w) X.A (f v) (EP X pins σ Q) X.xe s
noncomputable def CallR (X : Cx) (f : Value) (r : List V → Hp → VK → Prop) : Prop :=
  ∀ (pins : List (Addr × Obj)) (s : Shared) (σ : St) (H : Hp) (xs : List V) (us : List Value) (Q : VK), Inv X pins σ H s → Vals xs us → r xs H Q →
    wpAny (model X.prog X.w) X.A (call f us) (EP X pins σ Q) X.xe s
noncomputable def TruR (X : Cx) (r : V → Hp → (Bool → Hp → Prop) → Prop) : Prop :=
  ∀ (pins : List (Addr × Obj)) (s : Shared) (σ : St) (H : Hp) (x : V) (v : Value) (Q : Bool → Hp → Prop), Inv X pins σ H s → RelV x v → r x H Q →
    wpAny (model X.prog X.w) X.A (truthy v) (TP X pins σ Q) X.xe s
noncomputable def tOp (r : R2) (ta tb : TE) : TE := fun σ H Q => ta σ H fun x H1 => tb σ H1 fun y H2 => r x y H2 Q
noncomputable def tUn (r : V → Hp → VK → Prop) (ta : TE) : TE := fun σ H Q => ta σ H fun x H1 => r x H1 Q
noncomputable def rI (C : Int → Int → Prop) (g : Int → Int → V) : R2 := fun x y H Q => ∃ i j, x = .int i ∧ y = .int j ∧ C i j ∧ Q (g i j) H
noncomputable def rI0 (g : Int → Int → V) : R2 := fun x y H Q => ∃ i j, x = .int i ∧ y = .int j ∧ Q (g i j) H
noncomputable def rU (g : Int → V) : V → Hp → VK → Prop := fun x H Q => ∃ i, x = .int i ∧ Q (g i) H
section
variable {X : Cx} {a b c : Expr} {ta tb tc : TE} {pos : Pos}
theorem binT (ha : PE X a ta) (hb : PE X b tb) {pins : List (Addr × Obj)} {s : Shared} {σ : St} {H : Hp} {R : V → V → Hp → Prop} (I : Inv X pins σ H s)
    (h : ta σ H fun x H1 => tb σ H1 fun y H2 => R x y H2) {Q : Value → Shared → Prop} {f : Value → Value → Sem Value}
    (hf : ∀ v u s2 x y H2, Inv X pins σ H2 s2 → RelV x v → RelV y u → R x y H2 → wpAny (model X.prog X.w) X.A (f v u) Q X.xe s2) :
    wpAny (model X.prog X.w) X.A (eval a X.env) (fun v s₁ => wpAny (model X.prog X.w) X.A (eval b X.env) (fun u s₂ => wpAny (model X.prog X.w) X.A (f v u) Q X.xe s₂) X.xe s₁) X.xe s := by
  refine thn (ha pins s σ H _ I h) fun v s1 ⟨x, H1, I1, r1, q1⟩ => ?_
  refine thn (hb pins s1 σ H1 _ I1 q1) fun u s2 ⟨y, H2, I2, r2, q2⟩ => ?_
  exact hf v u s2 x y H2 I2 r1 r2 q2
theorem pe_op {op : Operator} {r : R2} (ho : OpR X (binaryOp op) r) (ha : PE X a ta) (hb : PE X b tb) : PE X (.BinOp a op b pos) (tOp r ta tb) := by
  intro pins s σ H Q I h
  exact wpAny_BinOp (binT ha hb I h fun v u s2 x y H2 I2 rx ry q => ho pins s2 σ H2 x y v u Q I2 rx ry q)
theorem pe_un {op : UnaryOp} {r : V → Hp → VK → Prop} (ho : UnR X (unaryOp op) r) (ha : PE X a ta) : PE X (.UnaryOp op a pos) (tUn r ta) := by
  intro pins s σ H Q I h
  exact UnaryOp_ (thn (ha pins s σ H _ I h) fun v s1 ⟨x, H1, I1, r1, q1⟩ => ho pins s1 σ H1 x v Q I1 r1 q1)
theorem opI {f : Value → Value → Sem Value} {C : Int → Int → Prop} {g : Int → Int → Int}
    (rule : ∀ (i j : Int) (t u : Tok) (s : Shared) (Q : Value → Shared → Prop) (E : Value → Shared → Prop), C i j → Q (.int (g i j) s.toks) { s with toks := s.toks + 1 } → wpAny (model X.prog X.w) X.A (f (.int i t) (.int j u)) Q E s) :
    OpR X f (rI C fun i j => .int (g i j)) := by
  intro pins s σ H x y v u Q I rx ry h
  obtain ⟨i, j, rfl, rfl, hc, q⟩ := h
  obtain ⟨t, rfl⟩ := rx
  obtain ⟨t', rfl⟩ := ry
  exact rule i j t t' s _ _ hc ⟨.int (g i j), H, I.tok _, ⟨_, rfl⟩, q⟩
theorem opI0 {f : Value → Value → Sem Value} {g : Int → Int → Int}
    (rule : ∀ (i j : Int) (t u : Tok) (s : Shared) (Q : Value → Shared → Prop) (E : Value → Shared → Prop), Q (.int (g i j) s.toks) { s with toks := s.toks + 1 } → wpAny (model X.prog X.w) X.A (f (.int i t) (.int j u)) Q E s) :
    OpR X f (rI0 fun i j => .int (g i j)) := by
  intro pins s σ H x y v u Q I rx ry h
  obtain ⟨i, j, rfl, rfl, q⟩ := h
  obtain ⟨t, rfl⟩ := rx
  obtain ⟨t', rfl⟩ := ry
  exact rule i j t t' s _ _ ⟨.int (g i j), H, I.tok _, ⟨_, rfl⟩, q⟩
theorem opB0 {f : Value → Value → Sem Value} {g : Int → Int → Bool}
    (rule : ∀ (i j : Int) (t u : Tok) (s : Shared) (Q : Value → Shared → Prop) (E : Value → Shared → Prop), Q (.bool (g i j)) s → wpAny (model X.prog X.w) X.A (f (.int i t) (.int j u)) Q E s) :
    OpR X f (rI0 fun i j => .bl (g i j)) := by
  intro pins s σ H x y v u Q I rx ry h
  obtain ⟨i, j, rfl, rfl, q⟩ := h
  obtain ⟨t, rfl⟩ := rx
  obtain ⟨t', rfl⟩ := ry
  exact rule i j t t' s _ _ ⟨.bl (g i j), H, I, rfl, q⟩
noncomputable def CDiv (i j : Int) : Prop := 0 < j ∧ j < 1073741824
noncomputable def CDivN (i j : Int) : Prop := j ≠ 0 ∧ j.natAbs < 1073741824
noncomputable def CPow (i j : Int) : Prop := 0 ≤ j ∧ j ≤ 1000000 ∧ i.natAbs < 2 ^ 64
noncomputable def CMul (i j : Int) : Prop := (-(2 ^ 64) < i ∧ i < 2 ^ 64) ∨ (-(2 ^ 64) < j ∧ j < 2 ^ 64)
theorem CMul.ok {i j : Int} (h : CMul i j) : IntMulOk i j := by
  rcases h with ⟨h1, h2⟩ | ⟨h1, h2⟩
  · exact .of_left (intBits_le_64 h1 h2)
  · exact .of_right (intBits_le_64 h1 h2)
theorem op_add : OpR X (binaryOp .Add) (rI0 fun i j => .int (i + j)) := opI0 fun _ _ _ _ _ _ _ q => add_int q
theorem op_sub : OpR X (binaryOp .Sub) (rI0 fun i j => .int (i - j)) := opI0 fun _ _ _ _ _ _ _ q => sub_int q
theorem op_modN : OpR X (binaryOp .Mod) (rI (fun _ j => j ≠ 0) fun i j => .int (i.fmod j)) := opI fun _ _ _ _ _ _ _ hc q => mod_int' hc q
theorem op_pow : OpR X (binaryOp .Pow) (rI CPow fun i j => .int (i ^ j.toNat)) := opI fun _ _ _ _ _ _ _ hc q => pow_int_small hc.1 hc.2.1 hc.2.2 q
theorem unI {f : Value → Sem Value} {g : Int → Int}
    (rule : ∀ (i : Int) (t : Tok) (s : Shared) (Q : Value → Shared → Prop) (E : Value → Shared → Prop), Q (.int (g i) s.toks) { s with toks := s.toks + 1 } → wpAny (model X.prog X.w) X.A (f (.int i t)) Q E s) :
    UnR X f (rU fun i => .int (g i)) := by
  intro pins s σ H x v Q I rx h
  obtain ⟨i, rfl, q⟩ := h
  obtain ⟨t, rfl⟩ := rx
  exact rule i t s _ _ ⟨.int (g i), H, I.tok _, ⟨_, rfl⟩, q⟩
theorem un_neg : UnR X (unaryOp .USub) (rU fun i => .int (-i)) := unI fun _ _ _ _ _ q => neg_int q
end
noncomputable def scal : V → V → Bool
  | .non, .non => true | .non, .int _ => true | .int _, .non => true | .non, .bl _ => true | .bl _, .non => true | .non, .str _ => true | .str _, .non => true
  | .int _, .int _ => true | .bl _, .bl _ => true | .str _, .str _ => true | .byt _, .byt _ => true
  | .int _, .str _ => true | .str _, .int _ => true | .bl _, .str _ => true | .str _, .bl _ => true
  | _, _ => false
noncomputable def rEq : R2 := fun x y H Q => scal x y = true ∧ Q (.bl (decide (x = y))) H
noncomputable def rNe : R2 := fun x y H Q => scal x y = true ∧ Q (.bl (!decide (x = y))) H
section
variable {X : Cx} {a b c : Expr} {ta tb tc : TE} {pos : Pos}
theorem op_lt : OpR X (compareOp .Lt) (rI0 fun i j => .bl (decide (i < j))) := opB0 fun _ _ _ _ _ _ _ q => lt_int q
theorem op_le : OpR X (compareOp .LtE) (rI0 fun i j => .bl (decide (i ≤ j))) := opB0 fun _ _ _ _ _ _ _ q => le_int q
theorem op_gt : OpR X (compareOp .Gt) (rI0 fun i j => .bl (decide (j < i))) := opB0 fun _ _ _ _ _ _ _ q => gt_int q
noncomputable def isObj : HO → Bool
  | .lst _ => true
  | .ins _ _ _ => true
  | _ => false
theorem OpR.or {f : Value → Value → Sem Value} {r r' : R2} (h : OpR X f r) (h' : OpR X f r') : OpR X f (fun x y H Q => r x y H Q ∨ r' x y H Q) := by
  intro pins s σ H x y v u Q I rx ry q
  rcases q with q | q
  · exact h pins s σ H x y v u Q I rx ry q
  · exact h' pins s σ H x y v u Q I rx ry q
theorem nomark (b : Expr) {op : CmpOp} (h : op ≠ .In := by decide) (h2 : op ≠ .NotIn := by decide) : behindInMarks op b = false := by
  have e1 : (op == CmpOp.In) = false := by cases op <;> first | rfl | exact absurd rfl h
  have e2 : (op == CmpOp.NotIn) = false := by cases op <;> first | rfl | exact absurd rfl h2
  cases b <;> simp [behindInMarks, e1, e2]
theorem pe_cmpR {op : CmpOp} {r : R2} (ho : OpR X (compareOp op) r) (ha : PE X a ta) (hb : PE X b tb) (hm : behindInMarks op b = false) : PE X (.Compare a [op] [b] pos) (tOp r ta tb) := by
  intro pins s σ H Q I h
  exact wpAny_Compare1 (binT ha hb I h fun v u s2 x y H2 I2 rx ry q => ho pins s2 σ H2 x y v u Q I2 rx ry q) hm
noncomputable def tTest (t : TE) : TT := fun σ H Q => t σ H fun x H' => ∃ k, x = .bl k ∧ Q k H'
theorem pt_cmpR {op : CmpOp} {r : R2} (ho : OpR X (compareOp op) r) (ha : PE X a ta) (hb : PE X b tb) (hm : behindInMarks op b = false) : PT X (.Compare a [op] [b] pos) (tTest (tOp r ta tb)) := by
  intro pins s σ H Q I h
  refine wpAny_isTrue_Compare1 (thn (ha pins s σ H _ I h) fun v s1 ⟨x, H1, I1, r1, q1⟩ => thn (hb pins s1 σ H1 _ I1 q1) fun u s2 ⟨y, H2, I2, r2, q2⟩ =>
    thn (ho pins s2 σ H2 x y v u _ I2 r1 r2 q2) fun c s3 ⟨z, H3, I3, r3, k, e, q3⟩ => ?_) hm
  subst e
  cases r3
  exact wpAny_truthy_bool ⟨H3, I3, q3⟩
noncomputable def tChain (r r' : R2) (ta tb tc : TE) : TE := fun σ H Q => ta σ H fun x H1 => tb σ H1 fun y H2 => r x y H2 fun z H3 => ∃ k, z = .bl k ∧
  (if k = true then tc σ H3 fun w' H4 => r' y w' H4 Q else Q (.bl false) H3)
noncomputable def TruV (K : PySem.W.Frag) (x : V) (H : Hp) (k : Bool) : Prop :=
  match x with
  | .non => k = false
  | .bl b => k = b
  | .int i => k = (i != 0)
  | .str y => y.length ≤ sizeLine ∧ k = ((y.length : Int) != 0)
  | .byt y => y.size ≤ sizeLine ∧ k = ((y.size : Int) != 0)
  | .ref p => (∃ xs, SqL K H p xs ∧ k = !xs.isEmpty) ∨ (∃ xs, SqT K H p xs ∧ k = !xs.isEmpty) ∨ ∃ kvs, H p = some (.dK kvs) ∧ k = !kvs.isEmpty
  | _ => False
theorem line63 : (sizeLine : Nat) < 2 ^ 63 := by rw [sizeLine_eq]; decide
noncomputable def PlainIxT (b : Expr) : Prop := ∀ o i, subscripted b false o i = operate [o, i] (getItem o i)
theorem vals1 {x : V} {us : List Value} (r : Vals [x] us) : ∃ u, us = [u] ∧ RelV x u := by
  cases r with
  | cons r1 r2 => cases r2; exact ⟨_, rfl, r1⟩
theorem vals2 {x y : V} {us : List Value} (r : Vals [x, y] us) : ∃ u w', us = [u, w'] ∧ RelV x u ∧ RelV y w' := by
  cases r with
  | cons r1 r2 =>
    cases r2 with
    | cons r3 r4 => cases r4; exact ⟨_, _, rfl, r1, r3⟩
theorem call_abs : CallR X (.builtin "abs") (fun xs H Q => ∃ i, xs = [.int i] ∧ Q (.int (if i < 0 then -i else i)) H) := by
  intro pins s σ H xs us Q I r h
  obtain ⟨i, rfl, q⟩ := h
  obtain ⟨u, rfl, t, rfl⟩ := vals1 r
  exact call_abs_int fun u tk => ⟨.int (if i < 0 then -i else i), H, I.tok _, ⟨_, rfl⟩, q⟩
theorem call_max2 (hc : X.calm = true) : CallR X (.builtin "max") (fun xs H Q => ∃ i j, xs = [.int i, .int j] ∧ Q (.int (if j > i then j else i)) H) := by
  intro pins s σ H xs us Q I r h
  obtain ⟨i, j, rfl, q⟩ := h
  obtain ⟨u, w', rfl, ⟨t, rfl⟩, ⟨t', rfl⟩⟩ := vals2 r
  refine max_two_ints (I.ok.hd hc) fun h' tk k => ⟨_, H, I.kept k, ?_, q⟩
  by_cases hj : j > i
  · rw [if_pos hj, if_pos hj]; exact ⟨_, rfl⟩
  · rw [if_neg hj, if_neg hj]; exact ⟨_, rfl⟩
theorem call_min2 (hc : X.calm = true) : CallR X (.builtin "min") (fun xs H Q => ∃ i j, xs = [.int i, .int j] ∧ Q (.int (if j < i then j else i)) H) := by
  intro pins s σ H xs us Q I r h
  obtain ⟨i, j, rfl, q⟩ := h
  obtain ⟨u, w', rfl, ⟨t, rfl⟩, ⟨t', rfl⟩⟩ := vals2 r
  refine min_two_ints (I.ok.hd hc) fun h' tk k => ⟨_, H, I.kept k, ?_, q⟩
  by_cases hj : j < i
  · rw [if_pos hj, if_pos hj]; exact ⟨_, rfl⟩
  · rw [if_neg hj, if_neg hj]; exact ⟨_, rfl⟩
theorem call_int1 : CallR X (.type "int") (fun xs H Q => (∃ i, xs = [.int i] ∧ Q (.int i) H) ∨ ∃ k, xs = [.bl k] ∧ Q (.int (if k then 1 else 0)) H) := by
  intro pins s σ H xs us Q I r h
  rcases h with ⟨i, rfl, q⟩ | ⟨k, rfl, q⟩
  · obtain ⟨u, rfl, t, rfl⟩ := vals1 r
    exact call_int_int ⟨.int i, H, I, ⟨_, rfl⟩, q⟩
  · obtain ⟨u, rfl, r1⟩ := vals1 r
    cases r1
    exact call_int_bool ⟨.int (if k then 1 else 0), H, I.tok _, ⟨_, rfl⟩, q⟩
noncomputable def LenV (K : PySem.W.Frag) (x : V) (H : Hp) (n : Nat) : Prop :=
  match x with
  | .str y => y.length ≤ sizeLine ∧ n = y.length
  | .byt y => y.size ≤ sizeLine ∧ n = y.size
  | .ref p => (∃ xs, SqL K H p xs ∧ n = xs.length) ∨ ∃ xs, SqT K H p xs ∧ n = xs.length
  | _ => False
end
end L2
namespace L2
open PySem PySem.Spec PyProof.Rows
structure ObjM (h : Heap) (x dx C : Addr) (mA : Str → Option Value) : Prop where
  obj : h.get? x = some (PySem.W.instObj C dx)
  ns : h.Ns1 dx mA
  ne : dx ≠ x
theorem lookIn_ns {h : Heap} {dx : Addr} {mA : Str → Option Value} (n : h.Ns1 dx mA) : ∃ od, h.get? dx = some od ∧ ∀ name, PySem.W.lookIn name od = some (mA name) := by
  obtain ⟨o, es, ep, ho, hd, hk, _, hm⟩ := n
  refine ⟨o, ho, fun name => ?_⟩
  have e := hm name
  unfold nsFind findBy at e
  rw [← Array.find?_toList] at e
  unfold PySem.W.lookIn
  rw [hd]
  dsimp only
  split
  · rename_i y q
    rw [q] at e
    exact congrArg some e
  · rename_i q
    rw [q] at e
    have a : es.toList.any (·.refKey) = false := by
      rw [List.any_eq_false]
      intro y hy
      obtain ⟨z, t, hkey⟩ := hk y (Array.mem_toList_iff.mp hy)
      simp [DictEntry.refKey, hkey]
    have a' : ¬ es.toList.any (·.refKey) = true := by rw [a]; exact Bool.false_ne_true
    rw [if_neg a']
    exact congrArg some e
theorem ObjM.look {h : Heap} {x dx C : Addr} {mA : Str → Option Value} (I : ObjM h x dx C mA) : ∃ od, PySem.W.InstAt h x (PySem.W.instObj C dx) C (some od) ∧ ∀ name, PySem.W.lookIn name od = some (mA name) :=
  let ⟨od, ho, hl⟩ := lookIn_ns I.ns
  ⟨od, ⟨I.obj, rfl, rfl, ho⟩, hl⟩
section
variable {prog : Program} {w : World} {A : Around} {E : Value → Shared → Prop} {s : Shared} {K : PySem.W.Frag} {x dx C f : Addr} {mA : Str → Option Value} {name : Str} {v : Value}
end
noncomputable def putF (f : Str) (v : V) : List (Str × V) → List (Str × V)
  | [] => [(f, v)]
  | (g, x) :: r => if g = f then (g, v) :: r else (g, x) :: putF f v r
section
variable {P : Program} {w : World} {H H' : Hp} {h h' : Heap} {a C dx : Addr} {fs fs' : List (Str × V)}
end
structure Cls (K : PySem.W.Frag) (C : Addr) : Prop where
  pg : PySem.W.plainGet K C Str.empty = true
  hd : PySem.W.hasDictIn K C = true
  po : PySem.W.plainOver K C = true
  sa : PySem.W.findIn K (.ref C) "__setattr__" = some (some (.builtin "object.__setattr__"))
theorem Cls.get {K : PySem.W.Frag} {C : Addr} (c : Cls K C) (f : Str) : PySem.W.plainGet K C f = true := c.pg
noncomputable def NoAttr (K : PySem.W.Frag) (C : Addr) (f : Str) : Prop := PySem.W.findIn K (.ref C) f = some none
structure Con (K : PySem.W.Frag) (C : Addr) (f : Str) (v : V) (u : Value) : Prop where
  at_ : PySem.W.findIn K (.ref C) f = some (some u)
  rel : RelV v u
  get : PySem.W.specialIn K u "__get__" = some none
  cp : PySem.W.copiedNames.contains f = false
structure Meth (K : PySem.W.Frag) (C : Addr) (m : Str) (f : Addr) : Prop where
  at_ : PySem.W.findIn K (.ref C) m = some (some (.ref f))
  fn : PySem.W.isFn K (.ref f) = true
  kp : PySem.W.keepIn K (.ref f) = true
section
variable {X : Cx} {pins : List (Addr × Obj)} {σ : St} {H : Hp} {s : Shared} {a C dx : Addr} {fs : List (Str × V)} {f : Str} {v : V} {A : Around} {E : Value → Shared → Prop}
theorem Inv.made (I : Inv X pins σ H s) : Inv X pins σ (upd (upd H s.heap.objs.size (.own (s.heap.objs.size + 1))) (s.heap.objs.size + 1) (.ins C s.heap.objs.size []))
    { s with heap := (s.heap.push PySem.W.emptyDict).push (PySem.W.instObj C s.heap.objs.size) } := by
  have e1 : (s.heap.push PySem.W.emptyDict).get? s.heap.objs.size = some PySem.W.emptyDict := Heap.get?_push_size s.heap rfl
  have e2 : ((s.heap.push PySem.W.emptyDict).push (PySem.W.instObj C s.heap.objs.size)).get? (s.heap.objs.size + 1) = some (PySem.W.instObj C s.heap.objs.size) := by
    have := Heap.get?_push_size (s.heap.push PySem.W.emptyDict) (o := PySem.W.instObj C s.heap.objs.size) rfl
    rwa [Heap.size_push] at this
  have e3 : (s.heap.push PySem.W.emptyDict).Ns s.heap.objs.size (fun _ => none) := ⟨PySem.W.emptyDict, #[], _, e1, rfl, (fun e he => absurd he (by simp)), fun _ => rfl⟩
  have I1 := I.laid (a := s.heap.objs.size) (o := .own (s.heap.objs.size + 1)) (h' := s.heap.push PySem.W.emptyDict) (t' := s.toks) (fun b u q => Heap.get?_push_of_some _ q) (Nat.le_refl _) ⟨_, e1⟩
  refine I1.laid (a := s.heap.objs.size + 1) (o := .ins C s.heap.objs.size []) (t' := s.toks) (fun b u q => Heap.get?_push_of_some _ q) (Nat.le_of_eq (Heap.size_push _ _)) ?_
  have ne : s.heap.objs.size ≠ s.heap.objs.size + 1 := Nat.ne_of_lt (Nat.lt_succ_self _)
  refine ⟨by rw [upd_ne ne, upd_same], Nat.zero_le _, ne, e2, fun _ => none, (Heap.Ns1.of_empty e3).at fun o q => Heap.get?_push_of_some _ q, fun _ => True.intro, fun y hy => absurd rfl hy⟩
end
noncomputable def tFld (K : PySem.W.Frag) (ta : TE) (f : Str) : TE := fun σ H Q => ta σ H fun x H1 => ∃ a C dx fs v, x = .ref a ∧ H1 a = some (.ins C dx fs) ∧ Cls K C ∧ NoAttr K C f ∧ fs.lookup f = some v ∧ Q v H1
noncomputable def tCon (K : PySem.W.Frag) (ta : TE) (f : Str) : TE := fun σ H Q => ta σ H fun x H1 => ∃ a C dx fs v u, x = .ref a ∧ H1 a = some (.ins C dx fs) ∧ Cls K C ∧ Con K C f v u ∧ fs.lookup f = none ∧ Q v H1
noncomputable def sFld (K : PySem.W.Frag) (ta tv : TE) (f : Str) : TS := fun D σ H => tv σ H fun y H1 => ta σ H1 fun x H2 => ∃ a C dx fs, x = .ref a ∧ H2 a = some (.ins C dx fs) ∧ Cls K C ∧ NoAttr K C f ∧ fs.length < 1000 ∧
  D.nx σ (upd H2 a (.ins C dx (putF f y fs)))
noncomputable def InOp (X : Cx) (op : Operator) (rd : V → V → Hp → VK → Prop) : Prop :=
  ∀ (pins : List (Addr × Obj)) (s : Shared) (σ : St) (H : Hp) (x y : V) (u v : Value) (Q : VK), Inv X pins σ H s → RelV x u → RelV y v → rd x y H Q → wpAny (model X.prog X.w) X.A (inplaceOp op u v) (EP X pins σ Q) X.xe s
noncomputable def sFldAug (K : PySem.W.Frag) (ta tv : TE) (rd : V → V → Hp → VK → Prop) (f : Str) : TS := fun D σ H => ta σ H fun x H1 => ∃ a C dx fs v, x = .ref a ∧ H1 a = some (.ins C dx fs) ∧ Cls K C ∧ NoAttr K C f ∧ fs.lookup f = some v ∧
  tv σ H1 fun y H2 => rd v y H2 fun z H3 => ∃ dx' fs', H3 a = some (.ins C dx' fs') ∧ fs'.length < 1000 ∧ D.nx σ (upd H3 a (.ins C dx' (putF f z fs')))
section
variable {X : Cx} {o e value : Expr} {f : Str} {pos pos' tpos : Pos} {ta tv : TE}
noncomputable def rAdd : V → V → Hp → VK → Prop := fun x y H Q => ∃ i j, x = .int i ∧ y = .int j ∧ Q (.int (i + j)) H
noncomputable def rSub : V → V → Hp → VK → Prop := fun x y H Q => ∃ i j, x = .int i ∧ y = .int j ∧ Q (.int (i - j)) H
end
section
variable {X : Cx} {pins : List (Addr × Obj)} {σ : St} {H : Hp} {s : Shared} {A : Around} {E : Value → Shared → Prop} {Q : Value → Shared → Prop} {c : Value} {b : Bool}
inductive TyOf (K : PySem.W.Frag) (H : Hp) : V → Value → Prop where
  | non : TyOf K H .non (.type "NoneType")
  | bl (x : Bool) : TyOf K H (.bl x) (.type "bool")
  | int (i : Int) : TyOf K H (.int i) (.type "int")
  | str (x : Str) : TyOf K H (.str x) (.type "str")
  | flt (x : UInt64) : TyOf K H (.flt x) (.type "float")
  | lst {a : Addr} {xs : List V} (e : H a = some (.lst xs)) : TyOf K H (.ref a) (.type "list")
  | frz {a : Addr} {o : Obj} {xs : List V} (e : H a = some (.frz o (.lst xs))) : TyOf K H (.ref a) (.type "list")
  | tup {a : Addr} {xs : List V} (e : H a = some (.tup xs)) : TyOf K H (.ref a) (.type "tuple")
  | dK {a : Addr} {kvs : List (Key × V)} (e : H a = some (.dK kvs)) : TyOf K H (.ref a) (.type "dict")
  | dT {a : Addr} {kvs : List (List Key × V)} (e : H a = some (.dT kvs)) : TyOf K H (.ref a) (.type "dict")
  | ins {a C dx : Addr} {fs : List (Str × V)} (e : H a = some (.ins C dx fs)) (cl : Cls K C) (ha : PySem.W.findIn K (.ref C) "__class__" = some (some (.builtin "object.__class__")))
      (hn : PySem.W.specialIn K (.builtin "object.__class__") "__get__" = some (some (.builtin "getset_descriptor.__get__"))) (htk : PySem.W.takesIn K (.builtin "object.__class__") = some true)
      (hm : PySem.W.mroIn K C (.type "object") = some true) : TyOf K H (.ref a) (.ref C)
end
end L2
namespace L2
open PySem PySem.Spec PyProof.Rows
structure Room (k : Nat) (A : Around) : Prop where
  hd : A.handled = none
  dp : A.depth + 3 * k + 5 < recursionLimit
  un : A.units + 16 * k + 200 < cLine
  gd : A.guards = some []
theorem Room.mono {j k : Nat} {A : Around} (r : Room k A) (h : j ≤ k) : Room j A := ⟨r.hd, by have := r.dp; omega, by have := r.un; omega, r.gd⟩
theorem Room.deeper {k : Nat} {A : Around} (r : Room (k + 1) A) (env : Env) : Room k (A.deeper env) :=
  ⟨r.hd, by have := r.dp; show A.depth + 1 + 3 * k + 5 < _; omega, by have := r.un; show A.units + 3 + 16 * k + 200 < _; omega, r.gd⟩
theorem Room.in1 {k : Nat} {A : Around} (r : Room (k + 1) A) : Room k A.in1 :=
  ⟨r.hd, by have := r.dp; show A.depth + 3 * k + 5 < _; omega, by have := r.un; show A.units + 1 + 16 * k + 200 < _; omega, r.gd⟩
theorem Room.depth {k : Nat} {A : Around} (r : Room k A) : A.depth < recursionLimit := by have := r.dp; omega
theorem Room.units {k : Nat} {A : Around} (r : Room k A) : A.units + 64 < cLine := by have := r.un; omega
noncomputable def tNil : TA := fun _ H Q => Q [] H
noncomputable def tCons (ta : TE) (tr : TA) : TA := fun σ H Q => ta σ H fun x H1 => tr σ H1 fun xs H2 => Q (x :: xs) H2
section
variable {X : Cx} {e : Expr} {es : List Expr} {te : TE} {t : TA} {pos : Pos}
theorem pa_nil : PA X [] tNil := fun _ _ _ _ H Q I h => Calls.spliced_nil ⟨[], H, I, .nil, h⟩
theorem pa_cons (ha : PE X e te) (hr : PA X es t) (hs : starEach (e :: es) X.env = (false, eval e X.env) :: starEach es X.env := by rfl) : PA X (e :: es) (tCons te t) := by
  intro pos pins s σ H Q I h
  rw [hs]
  show wpAny _ _ (spliced ((false, eval e X.env) :: backTo pos (starEach es X.env))) _ _ s
  refine Calls.spliced_cons (thn (ha pins s σ H _ I h) fun u s1 ⟨x, H1, I1, r1, q1⟩ => ?_)
  exact thn (hr pos pins s1 σ H1 _ I1 q1) fun us s2 ⟨xs, H2, I2, r2, q2⟩ => ⟨x :: xs, H2, I2, .cons r1 r2, q2⟩
noncomputable def tTup (t : TA) : TE := fun σ H Q => t σ H fun xs H1 => xs.length ≤ sizeLine ∧ ∀ p, H1 p = none → Q (.ref p) (upd H1 p (.tup xs))
noncomputable def tLst (t : TA) : TE := fun σ H Q => t σ H fun xs H1 => xs.length ≤ sizeLine ∧ ∀ p, H1 p = none → Q (.ref p) (upd H1 p (.lst xs))
theorem pe_tup {x1} (h : PA X es t) : PE X (.Tuple es x1 pos) (tTup t) := by
  intro pins s σ H Q I hq
  refine wpAny_Tuple_spliced (thn (h pos pins s σ H _ I hq) fun us s1 ⟨xs, H1, I1, r, z, q⟩ => ⟨by rw [← r.length]; exact z, ?_⟩)
  have hf : H1 s1.heap.objs.size = none := I1.hok.fresh (Nat.le_refl _)
  refine ⟨.ref s1.heap.objs.size, upd H1 s1.heap.objs.size (.tup xs), I1.laid (t' := s1.toks) (fun b u e => Heap.get?_push_of_some _ e) (Nat.le_refl _) ?_, rfl, q _ hf⟩
  exact ⟨z, us, r, ⟨_, Heap.get?_push_size _ rfl, rfl, _, rfl⟩, ⟨_, Heap.get?_push_size _ rfl, rfl⟩⟩
theorem pe_lst (h : PA X es t) : PE X (.List es pos) (tLst t) := by
  intro pins s σ H Q I hq
  refine wpAny_List_spliced (thn (h pos pins s σ H _ I hq) fun us s1 ⟨xs, H1, I1, r, z, q⟩ => ⟨by rw [← r.length]; exact z, ?_⟩)
  have hf : H1 s1.heap.objs.size = none := I1.hok.fresh (Nat.le_refl _)
  refine ⟨.ref s1.heap.objs.size, upd H1 s1.heap.objs.size (.lst xs), I1.laid (t' := s1.toks) (fun b u e => Heap.get?_push_of_some _ e) (Nat.le_refl _) ?_, rfl, q _ hf⟩
  exact ⟨z, us, 0, r, Heap.get?_push_size _ rfl⟩
end
noncomputable abbrev Sp := List V → Hp → VK → XK → Prop
noncomputable abbrev CXT := List Env → Hp → Shared → XK → Value → Shared → Prop
structure Env0 (P : Program) (w : World) (K : PySem.W.Frag) (mg : Str → Option Value) (base : Heap) (A : Around) (outer : List Env) (s : Shared) (H : Hp) : Prop where
  frames : A.frames = some outer
  mod : Mod K mg base
  bs : ∀ b o, base.get? b = some o → s.heap.get? b = some o ∧ H b = none
  bsz : base.objs.size ≤ s.heap.objs.size
  funs : s.heap.FunFrames base outer
  frf : ∀ b ∈ frs outer, H b = none
  hok : HOk P w H s.heap
  bare : AllBare s.gens
noncomputable def CE (outer : List Env) (P : Program) (w : World) (H : Hp) (s : Shared) (Q : VK) (u : Value) (s' : Shared) : Prop :=
  ∃ v H', s'.os = s.os ∧ AllBare s'.gens ∧ Un (frs outer) [] H H' s.heap s'.heap ∧ HOk P w H' s'.heap ∧ RelV v u ∧ Q v H'
noncomputable def CR (CX : CXT) (outer : List Env) (P : Program) (w : World) (H : Hp) (s : Shared) (Q : VK) (E : XK) (r : Result) (s' : Shared) : Prop :=
  match r with
  | .ok (.ret u) => CE outer P w H s Q u s'
  | .ok _ => False
  | .error e => CX outer H s E e s'
structure FnOk (P : Program) (w : World) (K : PySem.W.Frag) (mg : Str → Option Value) (base : Heap) (CX : CXT) (k : Nat) (f : Addr) (fd : FuncData) (ps : List Str) (sp : Sp) : Prop where
  len : ∀ vs H Q E, sp vs H Q E → vs.length = ps.length
  run : ∀ (A : Around) (outer : List Env) (s : Shared) (H : Hp) (args : Args) (us : List Value) (vs : List V) (Q : VK) (E : XK), Room k A → Env0 P w K mg base A outer s H → BindsTo s fd args (ps.zip us) → Vals vs us → sp vs H Q E →
    codeAny (model P w) A (.call (.ref f) args) (CR CX outer P w H s Q E) s
theorem FnOk.mono {P : Program} {w : World} {K : PySem.W.Frag} {mg : Str → Option Value} {base : Heap} {CX : CXT} {j k : Nat} {f : Addr} {fd : FuncData} {ps : List Str} {sp : Sp} (F : FnOk P w K mg base CX j f fd ps sp) (h : j ≤ k) :
    FnOk P w K mg base CX k f fd ps sp := ⟨F.len, fun A outer s H args us vs Q E hr => F.run A outer s H args us vs Q E (hr.mono h)⟩
theorem FnOk.imp {P : Program} {w : World} {K : PySem.W.Frag} {mg : Str → Option Value} {base : Heap} {CX : CXT} {k : Nat} {f : Addr} {fd : FuncData} {ps : List Str} {sp sp' : Sp} (F : FnOk P w K mg base CX k f fd ps sp)
    (h : ∀ vs H Q E, sp' vs H Q E → sp vs H Q E) : FnOk P w K mg base CX k f fd ps sp' :=
  ⟨fun vs H Q E q => F.len vs H Q E (h _ _ _ _ q), fun A outer s H args us vs Q E hr he hb hv hs => F.run A outer s H args us vs Q E hr he hb hv (h _ _ _ _ hs)⟩
theorem Env0.in1 {P : Program} {w : World} {K : PySem.W.Frag} {mg : Str → Option Value} {base : Heap} {A : Around} {outer : List Env} {s : Shared} {H : Hp} (e : Env0 P w K mg base A outer s H) :
    Env0 P w K mg base A.in1 outer s H := ⟨e.frames, e.mod, e.bs, e.bsz, e.funs, e.frf, e.hok, e.bare⟩
section
variable {X : Cx} {pins : List (Addr × Obj)} {σ : St} {H : Hp} {s s' : Shared}
theorem Inv.env0 (I : Inv X pins σ H s) : Env0 X.prog X.w X.K X.mg X.base X.A X.stack s H :=
  ⟨I.ok.frames, I.ok.mod, I.bs, Nat.le_trans I.ok.bsz I.sz, I.stack, I.stkFree, I.hok, I.bare⟩
theorem Inv.after {Q : VK} {u : Value} (I : Inv X pins σ H s) (h : CE X.stack X.prog X.w H s Q u s') : EP X pins σ Q u s' := by
  obtain ⟨v, H', os, bare, un, hok, r, q⟩ := h
  obtain ⟨hh, g, d, t, os'⟩ := s'
  obtain rfl : os' = s.os := os
  exact ⟨v, H', I.call (h' := hh) (g' := g) (d' := d) (t' := t) (ch := []) un hok bare (fun b z => absurd z (by simp)), r, q⟩
end
noncomputable def tCall (sp : Sp) (dvs : List V) (E : XK) (t : TA) : TE := fun σ H Q => t σ H fun vs H1 => sp (vs ++ dvs) H1 Q E
noncomputable def tMeth (C : Addr) (m : Str) (sp : Sp) (dvs : List V) (E : XK) (ta : TE) (t : TA) : TE := fun σ H Q => ta σ H fun x H1 => ∃ a dx fs, x = .ref a ∧ H1 a = some (.ins C dx fs) ∧ fs.lookup m = none ∧
  t σ H1 fun vs H2 => sp (x :: (vs ++ dvs)) H2 Q E
noncomputable def tMake (C : Addr) (sp : Sp) (dvs : List V) (E : XK) (t : TA) : TE := fun σ H Q => t σ H fun vs H1 => ∀ x dx, H1 x = none → H1 dx = none → dx ≠ x →
  sp (.ref x :: (vs ++ dvs)) (upd (upd H1 dx (.own x)) x (.ins C dx [])) (fun v H2 => v = .non ∧ Q (.ref x) H2) E
noncomputable def Binds (K : PySem.W.Frag) (fd : FuncData) (ps : List Str) (ds : List Value) : Prop :=
  ∀ (s : Shared) (us : List Value), K.In s.heap → (us ++ ds).length = ps.length → BindsTo s fd ⟨us, []⟩ (ps.zip (us ++ ds))
theorem Binds.all {K : PySem.W.Frag} {fd : FuncData} {ps : List Str} (h : ∀ us : List Value, us.length = ps.length → bindArgs fd ⟨us, []⟩ = pure (ps.zip us)) : Binds K fd ps [] := fun s us _ hl => by
  rw [List.append_nil] at hl ⊢
  exact .of_eq (h us hl)
noncomputable def Passes (CX : CXT) (X : Cx) (E : XK) : Prop := ∀ (pins : List (Addr × Obj)) (σ : St) (H : Hp) (s : Shared) (e : Value) (s' : Shared), Inv X pins σ H s → CX X.stack H s E e s' → X.xe e s'
section
variable {X : Cx} {CX : CXT} {k : Nat} {f C : Addr} {fd : FuncData} {ps : List Str} {sp : Sp} {dvs : List V} {ds : List Value} {E : XK} {x m : Str} {p pos apos : Pos} {e o : Expr} {es : List Expr} {ta : TE} {t : TA}
theorem run_fn {pins : List (Addr × Obj)} {σ : St} {H : Hp} {s : Shared} {Q : VK} {us : List Value} {vs : List V} (F : FnOk X.prog X.w X.K X.mg X.base CX k f fd ps sp) (hr : Room k X.A) (hb : Binds X.K fd ps ds) (hd : Vals dvs ds) (hx : Passes CX X E)
    (I : Inv X pins σ H s) (r : Vals vs us) (h : sp (vs ++ dvs) H Q E) : wpAny (model X.prog X.w) X.A (call (.ref f) us) (EP X pins σ Q) X.xe s := by
  have r2 : Vals (vs ++ dvs) (us ++ ds) := r.append hd
  have hl : (us ++ ds).length = ps.length := by rw [← r2.length]; exact F.len _ _ _ _ h
  refine wpAny_call (codeAny_mono (F.run X.A X.stack s H ⟨us, []⟩ (us ++ ds) (vs ++ dvs) Q E hr I.env0 (hb s us I.kIn hl) r2 h) fun r s' hq => ?_)
  cases r with
  | error e => exact hx pins σ H s e s' I hq
  | ok fl =>
    cases fl with
    | ret u => exact I.after hq
    | next => exact False.elim hq
    | brk => exact False.elim hq
    | cont => exact False.elim hq
theorem pe_call (F : FnOk X.prog X.w X.K X.mg X.base CX k f fd ps sp) (hr : Room k X.A) (hg : Gl X x) (hm : X.mg x = some (.ref f)) (hk : PySem.W.keepIn X.K (.ref f) = true) (hb : Binds X.K fd ps ds) (hd : Vals dvs ds) (hx : Passes CX X E)
    (ha : PA X (e :: es) t) (hdb : (x == ("__debug__" : Str)) = false := by decide) (he : starEach (e :: es) X.env = (false, eval e X.env) :: starEach es X.env := by rfl) (hpl : (backTo pos (starEach es X.env)).any (·.1) = false := by rfl) :
    PE X (.Call (.Name x p) (e :: es) [] pos) (tCall sp dvs E t) := by
  intro pins s σ H Q I h
  refine wpAny_Call_Name_kw (ld_glob I hg hm ?_ hdb)
  refine PySem.W.callWith_K (h₀ := X.base) I.ok.mod.kin hk (thn (ha pos pins s σ H _ I h) fun us s1 ⟨vs, H1, I1, r, q⟩ => ⟨I1.kIn, ?_⟩) he hpl
  exact run_fn F hr hb hd hx I1 r q
structure Mk (K : PySem.W.Frag) (C f : Addr) : Prop where
  makes : PySem.W.makesIn K C = true
  init : PySem.W.findIn K (.ref C) "__init__" = some (some (.ref f))
  fn : PySem.W.isFn K (.ref f) = true
  kp : PySem.W.keepIn K (.ref C) = true
end
noncomputable def PK (X : Cx) (kws : List Keyword) (t : TA) : Prop :=
  ∀ (pos : Pos) (pins : List (Addr × Obj)) (s : Shared) (σ : St) (H : Hp) (Q : List V → Hp → Prop), Inv X pins σ H s → t σ H Q → wpAny (model X.prog X.w) X.A (evalAll ((backToKw pos (keywordEach kws X.env)).map (·.2))) (AP X pins σ Q) X.xe s
section
variable {X : Cx} {CX : CXT} {k : Nat} {f C : Addr} {fd : FuncData} {ps ks : List Str} {sp : Sp} {E : XK} {x m : Str} {p pos apos kpos : Pos} {e o : Expr} {es : List Expr} {kws : List Keyword} {te ta : TE} {t tk : TA} {nm : Option Str}
structure KBinds (K : PySem.W.Frag) (fd : FuncData) (ps ks : List Str) (g : List Value → List Value → List Value) (gV : List V → List V → List V) : Prop where
  to : ∀ (s : Shared) (us ws : List Value), K.In s.heap → (g us ws).length = ps.length → BindsTo s fd ⟨us, ks.zip ws⟩ (ps.zip (g us ws))
  rel : ∀ {vs : List V} {us : List Value} {zs : List V} {ws : List Value}, Vals vs us → Vals zs ws → Vals (gV vs zs) (g us ws)
noncomputable def tCallK (sp : Sp) (gV : List V → List V → List V) (E : XK) (t tk : TA) : TE := fun σ H Q => t σ H fun vs H1 => tk σ H1 fun zs H2 => sp (gV vs zs) H2 Q E
variable {g : List Value → List Value → List Value} {gV : List V → List V → List V}
end
structure FnScope (N P : List Str) (sc : Scope) : Prop where
  kind : sc.kind = .function
  co : sc.isCoroutine = false
  gen : sc.isGenerator = false
  nd : N.Nodup
  pre : N.take P.length = P
  par : ∀ x ∈ P, sc.names.lookup x = some .local ∨ sc.names.lookup x = some .cell
  nofree : ∀ y ∈ sc.names, y.2 ≠ .free
theorem bindL_out {kindOf : Str → Option NameKind} {x : Str} : ∀ {binds : List (Str × Value)} {m : Str → Option Value}, (∀ v, (x, v) ∉ binds) → bindL kindOf binds m x = m x
  | [], _, _ => rfl
  | (n, v) :: r, m, h => by
    unfold bindL
    rw [bindL_out fun w hw => h w (List.mem_cons_of_mem _ hw)]
    split
    · have : x ≠ n := by rintro rfl; exact h v List.mem_cons_self
      simp [this]
    · rfl
theorem bindC_out {kindOf : Str → Option NameKind} {x : Str} : ∀ {binds : List (Str × Value)} {m : Str → Option Value}, (∀ v, (x, v) ∉ binds) → bindC kindOf binds m x = m x
  | [], _, _ => rfl
  | (n, v) :: r, m, h => by
    unfold bindC
    rw [bindC_out fun w hw => h w (List.mem_cons_of_mem _ hw)]
    split
    · rfl
    · have : x ≠ n := by rintro rfl; exact h v List.mem_cons_self
      simp [this]
theorem bindL_get {kindOf : Str → Option NameKind} {x : Str} {v : Value} : ∀ {P : List Str} {vs : List Value} {i : Nat} {m : Str → Option Value}, P.Nodup → P[i]? = some x → vs[i]? = some v → kindOf x = some .local →
    bindL kindOf (P.zip vs) m x = some v
  | [], _, _, _, _, h, _, _ => by simp at h
  | _ :: _, [], _, _, _, _, h, _ => by simp at h
  | p :: P, w :: vs, 0, m, nd, h1, h2, hk => by
    simp at h1 h2; subst h1; subst h2
    show bindL kindOf ((p, w) :: P.zip vs) m p = _
    unfold bindL
    rw [bindL_out fun v hv => (List.nodup_cons.mp nd).1 (List.of_mem_zip hv).1, if_pos hk]
    simp
  | p :: P, w :: vs, i + 1, m, nd, h1, h2, hk => by
    show bindL kindOf ((p, w) :: P.zip vs) m x = _
    unfold bindL
    exact bindL_get (i := i) (List.nodup_cons.mp nd).2 (by simpa using h1) (by simpa using h2) hk
theorem bindC_get {kindOf : Str → Option NameKind} {x : Str} {v : Value} : ∀ {P : List Str} {vs : List Value} {i : Nat} {m : Str → Option Value}, P.Nodup → P[i]? = some x → vs[i]? = some v → kindOf x ≠ some .local →
    bindC kindOf (P.zip vs) m x = some v
  | [], _, _, _, _, h, _, _ => by simp at h
  | _ :: _, [], _, _, _, _, h, _ => by simp at h
  | p :: P, w :: vs, 0, m, nd, h1, h2, hk => by
    simp at h1 h2; subst h1; subst h2
    show bindC kindOf ((p, w) :: P.zip vs) m p = _
    unfold bindC
    rw [bindC_out fun v hv => (List.nodup_cons.mp nd).1 (List.of_mem_zip hv).1, if_neg hk]
    simp
  | p :: P, w :: vs, i + 1, m, nd, h1, h2, hk => by
    show bindC kindOf ((p, w) :: P.zip vs) m x = _
    unfold bindC
    exact bindC_get (i := i) (List.nodup_cons.mp nd).2 (by simpa using h1) (by simpa using h2) hk
noncomputable def start (N : List Str) (vs : List V) : St := vs.map some ++ List.replicate (N.length - vs.length) none
noncomputable def cxOf (CX : CXT) (P : Program) (w : World) (K : PySem.W.Frag) (mg : Str → Option Value) (base : Heap) (N : List Str) (qual : Str) (scope : Scope) (f : Addr) (cd : Value) (A : Around) (outer : List Env) (s : Shared) (H : Hp) (E : XK) : Cx where
  prog := P
  w := w
  K := K
  mg := mg
  base := base
  A := A.deeper (envOfC qual scope s.heap.objs.size f cd)
  N := N
  s₀ := s
  H₀ := H
  env := envOfC qual scope s.heap.objs.size f cd
  outer := outer
  stack := envOfC qual scope s.heap.objs.size f cd :: outer
  ex := []
  calm := true
  fn := fun _ => true
  pn := []
  xe := fun e s' => wpAny (model P w) (A.deeper (envOfC qual scope s.heap.objs.size f cd)) (leaving (envOfC qual scope s.heap.objs.size f cd) e) (fun _ s'' => CX outer H s E e s'') (fun e' s'' => CX outer H s E e' s'') s'
theorem cell_has {sc : Scope} {n : Nat} {x : Str} (h : sc.names.lookup x = some .cell) : ∃ c, (cellsFrom n sc.names []).lookup x = some c := by
  have q := PySem.W.cellsFrom_some sc.names n [] (.inl h)
  exact Option.isSome_iff_exists.mp q
theorem inv_start {CX : CXT} {P : Program} {w : World} {K : PySem.W.Frag} {mg : Str → Option Value} {base : Heap} {N ps : List Str} {qual : Str} {scope : Scope} {f : Addr} {cd : Value} {A : Around} {outer : List Env} {s s1 : Shared} {H : Hp} {E : XK} {us : List Value} {vs : List V}
    (S : FnScope N ps scope) (hd : A.handled = none) (e0 : Env0 P w K mg base A outer s H) (hl : vs.length = ps.length) (r : Vals vs us)
    (x : InCallC s s.heap.objs.size (bindL (envOfC qual scope s.heap.objs.size f cd).kindOf (ps.zip us) fun _ => none) (cellsFrom (s.heap.objs.size + 1) scope.names []) (bindC (envOfC qual scope s.heap.objs.size f cd).kindOf (ps.zip us) fun _ => none) s1) :
    Inv (cxOf CX P w K mg base N qual scope f cd A outer s H E) [] (start N vs) H s1 := by
  have hpl : ps.length ≤ N.length := by have := congrArg List.length S.pre; rw [List.length_take] at this; omega
  obtain ⟨h1, tk, rfl, hk⟩ := x.done
  have noA : ∀ b : Addr, b ∉ (cxOf CX P w K mg base N qual scope f cd A outer s H E).ex := fun b z => absurd (show b ∈ ([] : List Addr) from z) (by simp)
  refine ⟨⟨e0.mod, S.kind, rfl, rfl, Nat.le_refl _, fun y z c h1 h2 => ?_, fun y hy => ?_, fun y c _ h => ?_, fun _ => hd, Around.frames_deeper e0.frames, .inr ⟨rfl, rfl⟩, fun b z => absurd z (noA b), e0.bs, e0.bsz, fun b _ _ => noA b, fun b z => absurd z (noA b), e0.funs, e0.frf⟩,
    rfl, e0.bare, Un.kept hk, ⟨_, x.toInCall.ns, fun i y v h1 h2 h3 => ?_⟩, fun y c h => ⟨_, x.cell y c h⟩, e0.hok.fresh (Nat.le_refl _), fun y c h => ?_, fun p hp => absurd (show p ∈ ([] : List (Addr × Obj)) from hp) (by simp), e0.hok.kept hk, ?_⟩
  · exact name_of_addr x.apart (PySem.mem_of_lookup h1) (PySem.mem_of_lookup h2)
  · have hy : scope.names.lookup y = some .cell ∨ scope.names.lookup y = some .free := hy
    rcases hy with hy | hy
    · exact cell_has hy
    · exact absurd rfl (S.nofree _ (PySem.mem_of_lookup hy))
  · exact Nat.le_of_lt (x.above y c (PySem.mem_of_lookup h))
  · have hi : i < vs.length := by
      unfold start at h2
      by_cases hi : i < vs.length
      · exact hi
      · rw [List.getElem?_append_right (by simpa using hi)] at h2
        rw [List.getElem?_replicate] at h2
        split at h2 <;> cases h2
    have ha : vs[i]? = some v := by
      unfold start at h2
      rw [List.getElem?_append_left (by simpa using hi), List.getElem?_map] at h2
      cases e : vs[i]? with
      | none => rw [e] at h2; cases h2
      | some a => rw [e] at h2; cases h2; rfl
    obtain ⟨u, hu, rv⟩ := r.get ha
    have hp : ps[i]? = some y := by
      rw [← S.pre, List.getElem?_take_of_lt (by omega)]; exact h1
    have ndP : ps.Nodup := by rw [← S.pre]; exact S.nd.sublist (List.take_sublist _ _)
    refine ⟨u, rv, ?_⟩
    rcases S.par y (List.mem_of_getElem? hp) with k | k
    · exact .inl ⟨k, bindL_get ndP hp hu k⟩
    · obtain ⟨c, e⟩ := cell_has (n := s.heap.objs.size + 1) k
      refine .inr ⟨.inl k, c, e, ?_⟩
      have q := x.cell y c e
      rw [bindC_get ndP hp hu (by show scope.names.lookup y ≠ _; rw [k]; decide)] at q
      exact q
  · exact e0.hok.fresh (Nat.le_of_lt (x.above y c (PySem.mem_of_lookup h)))
  · unfold start
    show _ = N.length
    rw [List.length_append, List.length_map, List.length_replicate]
    omega
theorem fn_of {CX : CXT} {P : Program} {w : World} {K : PySem.W.Frag} {mg : Str → Option Value} {base : Heap} {k : Nat} {f : Addr} {name qual : Str} {params : Arguments} {body : List Stmt} {scope : Scope} {dV kV doc pm cdv ct oc : Value} {an od : Option Addr}
    {osl : Array (Option Value)} {N ps : List Str} {sp : Sp} (lk : K.lookup f = some ⟨oc, od, .func (PySem.W.fnOf name qual params body scope dV kV doc pm an cdv ct), osl⟩) (hcd : PySem.W.codeIn K cdv qual = true) (S : FnScope N ps scope)
    (len : ∀ vs H Q E, sp vs H Q E → vs.length = ps.length)
    (hbody : ∀ (A : Around) (outer : List Env) (s : Shared) (H : Hp) (vs : List V) (Q : VK) (E : XK), Room k (A.deeper (envOfC qual scope s.heap.objs.size f cdv)) → sp vs H Q E →
      ∃ t, PSs (cxOf CX P w K mg base N qual scope f cdv A outer s H E) body t ∧ t { nx := fun _ H' => Q .non H', rt := Q } (start N vs) H) :
    FnOk P w K mg base CX (k + 1) f (PySem.W.fnOf name qual params body scope dV kV doc pm an cdv ct) ps sp := by
  refine ⟨len, fun A outer s H args us vs Q E hr e0 hb r hsp => ?_⟩
  have hl := len _ _ _ _ hsp
  have KX : K.In s.heap := e0.mod.kin.keeps fun b o e => (e0.bs b o e).1
  have lim : s.heap.NoLimit := e0.mod.nolimit.keeps fun b o e => (e0.bs b o e).1
  have hkind : ∀ y ∈ ps.zip us, scope.names.lookup y.1 = some .local ∨ (scope.names.lookup y.1 = some .cell ∧ ((cellsFrom (s.heap.objs.size + 1) scope.names []).lookup y.1).isSome = true) := fun ⟨n, v⟩ hy => by
    rcases S.par n (List.of_mem_zip hy).1 with q | q
    · exact .inl q
    · exact .inr ⟨q, PySem.W.cellsFrom_some _ _ _ (.inl q)⟩
  refine codeAny_call_function hr.depth (KX _ _ lk) rfl S.co S.gen rfl (PySem.W.codeRec_of KX hcd) (hb _ _ _ _ ?_)
  refine wpAny_newFunctionEnv_cells S.kind hkind fun env he s1 x => ?_
  subst he
  refine ⟨lim.keeps x.toInCall.keep, codeAny_func ?_⟩
  obtain ⟨t, ht, hq⟩ := hbody A outer s H vs Q E (hr.deeper _) hsp
  have I : Inv (cxOf CX P w K mg base N qual scope f cdv A outer s H E) [] (start N vs) H s1 := inv_start S hr.hd e0 hl r x
  refine wpAny_mono (ht [] s1 (start N vs) H _ I hq) (fun fl s' hs => ?_) fun e s' hs => hs
  have fin : ∀ {σ' : St} {H' : Hp} {v : V} {u : Value}, Inv (cxOf CX P w K mg base N qual scope f cdv A outer s H E) [] σ' H' s' → RelV v u → Q v H' → CE outer P w H s Q u s' :=
    fun {σ' H' v u} J rv q => ⟨v, H', J.os, J.bare, J.base, J.hok, rv, q⟩
  cases fl with
  | ret u =>
    obtain ⟨v, σ', H', J, rv, q⟩ := hs
    exact fin J rv q
  | next =>
    obtain ⟨σ', H', J, q⟩ := hs
    exact fin (v := V.non) (u := Value.none) J rfl q
  | brk =>
    obtain ⟨_, _, _, q⟩ := hs
    exact False.elim q
  | cont =>
    obtain ⟨_, _, _, q⟩ := hs
    exact False.elim q
end L2
namespace L2
open PySem PySem.Spec PyProof.Rows
section
variable {X : Cx} {x : Str} {p pos : Pos} {e : Expr} {es : List Expr} {t : TA} {id T : String} {r : List V → Hp → VK → Prop}
noncomputable def tCB (r : List V → Hp → VK → Prop) (t : TA) : TE := fun σ H Q => t σ H fun vs H1 => r vs H1 Q
theorem pe_callB (hc : CallR X (.builtin id) r) (hg : Gl X x) (hm : X.mg x = none) (hv : bootBuiltins x = some (.builtin id)) (ha : PA X (e :: es) t) (hn : x ≠ "__name__" := by decide) (hdb : (x == ("__debug__" : Str)) = false := by decide)
    (he : starEach (e :: es) X.env = (false, eval e X.env) :: starEach es X.env := by rfl) (hpl : (backTo pos (starEach es X.env)).any (·.1) = false := by rfl) : PE X (.Call (.Name x p) (e :: es) [] pos) (tCB r t) := by
  intro pins s σ H Q I h
  refine wpAny_Call_Name_kw (ld_blt I hg hm hv ?_ hn hdb)
  exact PyProof.Rows.callWith_builtin1 (thn (ha pos pins s σ H _ I h) fun us s1 ⟨vs, H1, I1, r1, q1⟩ => hc pins s1 σ H1 vs us Q I1 r1 q1) he hpl
theorem pe_callTy (hc : CallR X (.type T) r) (hg : Gl X x) (hm : X.mg x = none) (hv : bootBuiltins x = some (.type T)) (ha : PA X (e :: es) t) (hn : x ≠ "__name__" := by decide) (hdb : (x == ("__debug__" : Str)) = false := by decide)
    (he : starEach (e :: es) X.env = (false, eval e X.env) :: starEach es X.env := by rfl) (hpl : (backTo pos (starEach es X.env)).any (·.1) = false := by rfl) : PE X (.Call (.Name x p) (e :: es) [] pos) (tCB r t) := by
  intro pins s σ H Q I h
  refine wpAny_Call_Name_kw (ld_blt I hg hm hv ?_ hn hdb)
  exact PyProof.Rows.callWith_type1 (thn (ha pos pins s σ H _ I h) fun us s1 ⟨vs, H1, I1, r1, q1⟩ => hc pins s1 σ H1 vs us Q I1 r1 q1) he hpl
end
end L2
namespace HT
open PySem PyProof.Rows
noncomputable def lexLt : List Int → List Int → Bool
  | [], [] => false
  | [], _ :: _ => true
  | _ :: _, [] => false
  | x :: xs, y :: ys => if x = y then lexLt xs ys else decide (x < y)
theorem lexLt_cons (x y : Int) (xs ys : List Int) : lexLt (x :: xs) (y :: ys) = if x = y then lexLt xs ys else decide (x < y) := rfl
theorem lexLt_nil_nil : lexLt [] [] = false := rfl
theorem lexLt_nil_cons (y : Int) (ys : List Int) : lexLt [] (y :: ys) = true := rfl
theorem lexLt_cons_nil (x : Int) (xs : List Int) : lexLt (x :: xs) [] = false := rfl
theorem eqAt_int (A : Around) (s : Shared) (a : Int) (t : Tok) (c : Int) (u : Tok) : ∃ e, SeqAt.EqAt A s (.int a t) (.int c u) e ∧ (e = true ↔ a = c) :=
  ⟨(a == c), SeqAt.EqAt.int_int a t c u, by simp⟩
theorem rcLt_int (A : Around) (s : Shared) (a : Int) (t : Tok) (c : Int) (u : Tok) (prog : Program) (w : World) (E : Value → Shared → Prop) (Q : Value → Shared → Prop) (h : Q (.bool (decide (a < c))) s) :
    wpAny (model prog w) A (richCompare .Lt (.int a t) (.int c u)) Q E s :=
  (PyProof.Rows.lt_int h : wpAny (model prog w) A (compareOp .Lt (.int a t) (.int c u)) Q E s)
section
open PySem.SeqAt
open PySem.AutoSeq1 (wpAny_loadPart')
open PySem.MeetsSeq PySem.MeetsSeq2 PySem.MeetsSeq3
theorem tuple_lt_ints (l b : Addr) (items items2 : Array Value) (n n2 : Nat) (dd dd2 : Option Addr) (sl sl2 : Array (Option Value)) (ns ms : List Int) (hi : IntsAre items.toList ns) (hj : IntsAre items2.toList ms) :
    Meets (Builtin.«tuple.__lt__» ⟨[.ref l, .ref b], []⟩)
      (fun _ R s => s.heap.get? l = some { cls := .type "tuple", dict := dd, data := .seq items n, slots := sl } ∧ s.heap.get? b = some { cls := .type "tuple", dict := dd2, data := .seq items2 n2, slots := sl2 } ∧
        R (.ok (.ret (.bool (lexLt ns ms)))) s) :=
  .of_wp fun prog w A R s h => by
    obtain ⟨hp, g, d, tk, os⟩ := s; obtain ⟨hl, hb, h⟩ := h
    have f2 := AutoSeq1.sub_tuple_tuple
    have z1 : items.size = ns.length := by rw [← hi.length]; simp
    have z2 : items2.size = ms.length := by rw [← hj.length]; simp
    wp_walk using wpAny_loadPart' hl, wpAny_loadPart' hb, wpAny_forIn_list _ (fun rest b s' => b.1 = none ∧ s' = ⟨hp, g, d, tk, os⟩ ∧ ∃ (vs ws : List Value) (ns' ms' : List Int), rest = vs.zip ws ∧
      IntsAre vs ns' ∧ IntsAre ws ms' ∧ ns'.length + items2.size = ms'.length + items.size ∧ R (.ok (.ret (.bool (lexLt ns' ms')))) ⟨hp, g, d, tk, os⟩) _
    case turn =>
      rintro ⟨y, x⟩ rest b s' ⟨hb', rfl, vs, ws, ns', ms', hz, hvi, hwi, hlen, hR⟩
      cases hvi with
      | nil => rw [List.zip_nil_left] at hz; cases hz
      | cons a t hvi' =>
        cases hwi with
        | nil => rw [List.zip_nil_right] at hz; cases hz
        | cons c u hwi' =>
          rw [List.zip_cons_cons] at hz
          injection hz with hyx hrest
          injection hyx with hy hx
          subst hy hx
          rw [lexLt_cons] at hR
          simp only [List.length_cons] at hlen
          obtain ⟨e, he, hiff⟩ := eqAt_int A.in1 ⟨hp, g, d, tk, os⟩ a t c u
          refine wpAny_bind (he prog w _ _ ?_)
          cases e with
          | true =>
            rw [if_pos (hiff.mp rfl)] at hR
            wp_walk
            exact ⟨rfl, rfl, _, _, _, _, hrest, hvi', hwi', by omega, hR⟩
          | false =>
            rw [if_neg (fun q => absurd (hiff.mpr q) Bool.false_ne_true)] at hR
            have hri := rcLt_int A.in1 ⟨hp, g, d, tk, os⟩ a t c u prog w
            wp_walk using hri
            exact ⟨_, rfl, by simpa using hR⟩
    case fin =>
      rintro ⟨b1, b2⟩ s' ⟨hb', rfl, vs, ws, ns', ms', hz, hvi, hwi, hlen, hR⟩
      simp only at hb'
      subst hb'
      have hv : lexLt ns' ms' = decide (items.size < items2.size) := by
        cases hvi with
        | nil =>
          cases hwi with
          | nil =>
            simp only [List.length_nil] at hlen
            rw [lexLt_nil_nil]
            exact (decide_eq_false (by omega)).symm
          | cons c u hw =>
            simp only [List.length_nil, List.length_cons] at hlen
            rw [lexLt_nil_cons]
            exact (decide_eq_true (by omega)).symm
        | cons a t hv =>
          cases hwi with
          | nil =>
            simp only [List.length_nil, List.length_cons] at hlen
            rw [lexLt_cons_nil]
            exact (decide_eq_false (by omega)).symm
          | cons c u hw =>
            rw [List.zip_cons_cons] at hz
            cases hz
      rw [hv] at hR
      wp_walk
      exact ⟨_, rfl, by simpa [Builtin.Tuple.tupleCompareSizes] using hR⟩
    case h =>
      exact ⟨rfl, rfl, items.toList, items2.toList, ns, ms, rfl, hi, hj, by omega, h⟩
end
section
variable {prog : Program} {w : World} {A : Around} {E : Value → Shared → Prop} {s : Shared}
theorem lt_tupInts {l b : Addr} {items items2 : Array Value} {ns ms : List Int} {Q : Value → Shared → Prop} (hl : IsTup s.heap l items) (hb : IsTup s.heap b items2) (hi : IntsAre items.toList ns) (hj : IntsAre items2.toList ms)
    (hu : A.units < cLine) (h : Q (.bool (lexLt ns ms)) s) : wpAny (model prog w) A (compareOp .Lt (.ref l) (.ref b)) Q E s := by
  obtain ⟨⟨cls, dd, data, sl⟩, ho, hc, n, hd⟩ := id hl
  obtain ⟨⟨cls2, dd2, data2, sl2⟩, ho2, hc2, n2, hd2⟩ := id hb
  simp only at hc hd hc2 hd2
  subst hc hd hc2 hd2
  exact richCompare_meets_room (op := .Lt) ⟨_, ho, rfl⟩ ⟨_, ho2, rfl⟩ PySem.F.slot_tuple_lt PySem.F.entry_tuple_lt (PySem.F.args_tuple_lt_2 _ _) (tuple_lt_ints l b items items2 n n2 dd dd2 sl sl2 ns ms hi hj)
    ⟨ho, ho2, show Value.bool (lexLt ns ms) ≠ Value.notImplemented ∧ Q (.bool (lexLt ns ms)) s from ⟨(fun x => nomatch x), h⟩⟩ hu
theorem cat_tup {t b : Addr} {vs ws : List Value} {Q : Value → Shared → Prop} (ht : IsTup s.heap t vs.toArray) (hb : IsTup s.heap b ws.toArray) (hv : vs ≠ [])
    (h1 : ws = [] → Q (.ref t) s) (h2 : ws ≠ [] → Q (.ref s.heap.objs.size) { s with heap := s.heap.push { cls := .type "tuple", data := .seq (vs ++ ws).toArray } })
    (hsz : vs.length + ws.length ≤ sizeLine) : wpAny (model prog w) A (binaryOp .Add (.ref t) (.ref b)) Q E s := by
  obtain ⟨⟨cls, dd, data, sl⟩, ho, hc, n, hd⟩ := id ht
  obtain ⟨⟨cls2, dd2, data2, sl2⟩, ho2, hc2, n2, hd2⟩ := id hb
  simp only at hc hd hc2 hd2
  subst hc hd hc2 hd2
  have e : vs.toArray ++ ws.toArray = (vs ++ ws).toArray := by simp
  by_cases hw : ws = []
  · exact concat_meets ⟨_, ho, rfl⟩ ⟨_, ho2, rfl⟩ noFill_tuple_add seq_tuple_add PySem.F.slot_tuple_add PySem.F.entry_tuple_add (PySem.F.args_tuple_add_2 _ _)
      (tuple_addW1 t b vs.toArray ws.toArray n n2 dd dd2 sl sl2 (by simpa using hv) (by simp [hw])) ⟨ho, ho2, h1 hw⟩
  · refine concat_meets ⟨_, ho, rfl⟩ ⟨_, ho2, rfl⟩ noFill_tuple_add seq_tuple_add PySem.F.slot_tuple_add PySem.F.entry_tuple_add (PySem.F.args_tuple_add_2 _ _)
      (tuple_addW2 t b vs.toArray ws.toArray n n2 dd dd2 sl sl2 (by simpa using hv) (by simpa using hw) (by rw [List.size_toArray, List.size_toArray]; exact hsz)) ⟨ho, ho2, ?_⟩
    rw [e]
    exact h2 hw
noncomputable def sIx (n d : Nat) : Option Int → Nat
  | none => d
  | some v => if v < 0 then (v + (n : Int)).toNat else min v.toNat n
theorem sIx_none (n d : Nat) : sIx n d none = d := rfl
theorem sIx_nat (n d k : Nat) : sIx n d (some (k : Int)) = min k n := by
  show (if (k : Int) < 0 then ((k : Int) + (n : Int)).toNat else min (k : Int).toNat n) = min k n
  rw [if_neg (by omega), Int.toNat_natCast]
theorem sIx_le (n d : Nat) (hd : d ≤ n) (o : Option Int) : sIx n d o ≤ n := by
  cases o with
  | none => exact hd
  | some v =>
    show (if v < 0 then (v + (n : Int)).toNat else min v.toNat n) ≤ n
    by_cases hv : v < 0
    · rw [if_pos hv]; omega
    · rw [if_neg hv]; exact Nat.min_le_right _ _
theorem clip_eq (v : Int) (n d : Nat) : (if v < 0 then max (v + (n : Int)) 0 else min v (n : Int)) = ((sIx n d (some v) : Nat) : Int) := by
  show (if v < 0 then max (v + (n : Int)) 0 else min v (n : Int)) = (((if v < 0 then (v + (n : Int)).toNat else min v.toNat n) : Nat) : Int)
  by_cases hv : v < 0
  · simp only [if_pos hv]; omega
  · simp only [if_neg hv]; omega
theorem adjust_gen (lo hi : Option Int) (n : Nat) : Builtin.Slice.sliceAdjust lo hi 1 (n : Int) = (((sIx n 0 lo : Nat) : Int), ((sIx n n hi : Nat) : Int)) := by
  have h1 : ¬ ((1 : Int) < 0) := by omega
  unfold Builtin.Slice.sliceAdjust
  simp only [h1, if_false]
  refine Prod.ext ?_ ?_
  · cases lo with
    | none => rfl
    | some v => exact clip_eq v n 0
  · cases hi with
    | none => rfl
    | some v => exact clip_eq v n n
theorem places_gen (i j : Nat) : Builtin.Slice.slicePlaces (i : Int) (j : Int) 1 = j - i := by
  unfold Builtin.Slice.slicePlaces
  have h1 : (1 : Int) > 0 := by omega
  simp only [h1, if_true, Int.ediv_one]
  split <;> omega
theorem slicePart_ {v : Value} {o : Option Int} {Q : Option Int → Shared → Prop} (p : IsPart v o) (h : Q o s) : wpAny (model prog w) A (Builtin.Slice.slicePartIndex v) Q E s := by
  cases p with
  | none => exact slicePart_none h
  | int i t => exact slicePart_int h
theorem sliceApplied_gen {sl : Addr} {vl vu : Value} {lo hi : Option Int} {n : Nat} {Q : Int × Int × Nat → Shared → Prop} (hs : s.heap.IsSliceOf sl vl vu .none) (pl : IsPart vl lo) (pu : IsPart vu hi)
    (h : Q (((sIx n 0 lo : Nat) : Int), 1, sIx n n hi - sIx n 0 lo) s) : wpAny (model prog w) A (Builtin.Slice.sliceApplied (.ref sl) (pure (n : Int))) Q E s := by
  obtain ⟨os, hos, hcs, hds⟩ := id hs
  unfold Builtin.Slice.sliceApplied Builtin.Slice.sliceFields
  refine wpAny_bind (wpAny_bind (wpAny_field hos hds (x := vl) rfl (wpAny_bind (wpAny_field hos hds (x := vu) rfl (wpAny_bind (wpAny_field hos hds (x := .none) rfl (wpAny_pure ?_)))))))
  refine wpAny_bind (slicePart_none ?_)
  show wpAny _ _ (if ((1 : Int) == 0) = true then _ else _) _ _ s
  rw [if_neg (by decide)]
  refine wpAny_bind (slicePart_ pl (wpAny_bind (slicePart_ pu (wpAny_bind (wpAny_pure ?_)))))
  show wpAny _ _ (match Builtin.Slice.sliceAdjust lo hi 1 (n : Int) with | (lo, hi) => pure (lo, (1 : Int), Builtin.Slice.slicePlaces lo hi 1)) _ _ s
  rw [adjust_gen lo hi n]
  show wpAny _ _ (pure (((sIx n 0 lo : Nat) : Int), (1 : Int), Builtin.Slice.slicePlaces ((sIx n 0 lo : Nat) : Int) ((sIx n n hi : Nat) : Int) 1)) _ _ s
  rw [places_gen]
  exact wpAny_pure h
theorem pick_gen (xs : Array Value) (i k : Nat) : ((List.range k).filterMap fun (m : Nat) => xs[((i : Int) + (m : Int) * 1).toNat]?).toArray = ((xs.toList.drop i).take k).toArray := by
  have e : (fun (m : Nat) => xs[((i : Int) + (m : Int) * 1).toNat]?) = fun m => xs[i + m]? := by
    funext m
    have : ((i : Int) + (m : Int) * 1).toNat = i + m := by omega
    rw [this]
  rw [e]
  have := pick_run xs i k
  rw [List.filterMap_map] at this
  have e2 : ((fun x => xs[x]?) ∘ fun x => i + x) = fun m => xs[i + m]? := rfl
  rw [e2] at this
  rw [this]
theorem getItem_tuple_cut {t sl : Addr} {items : Array Value} {vl vu : Value} {lo hi : Option Int} {Q : Value → Shared → Prop} (ht : IsTup s.heap t items) (hs : s.heap.IsSliceOf sl vl vu .none) (pl : IsPart vl lo) (pu : IsPart vu hi)
    (hw : ¬ (sIx items.size 0 lo = 0 ∧ sIx items.size items.size hi = items.size))
    (h : Q (.ref s.heap.objs.size) { s with heap := s.heap.push { cls := .type "tuple", data := .seq ((items.toList.drop (sIx items.size 0 lo)).take (sIx items.size items.size hi - sIx items.size 0 lo)).toArray } })
    (hsz : items.size ≤ sizeLine) : wpAny (model prog w) A (getItem (.ref t) (.ref sl)) Q E s := by
  have htake : sizeOk (.seq ((items.toList.drop (sIx items.size 0 lo)).take (sIx items.size items.size hi - sIx items.size 0 lo)).toArray) := by
    show ((items.toList.drop (sIx items.size 0 lo)).take (sIx items.size items.size hi - sIx items.size 0 lo)).toArray.size ≤ sizeLine
    rw [List.size_toArray, List.length_take, List.length_drop, Array.length_toList]
    omega
  have hj : sIx items.size items.size hi ≤ items.size := sIx_le _ _ (Nat.le_refl _) hi
  obtain ⟨os, hos, hcs, hds⟩ := id hs
  have hTs : s.TypeIs (.ref sl) "slice" := ⟨os, hos, hcs⟩
  unfold getItem
  try with_reducible refine wpAny_holding ?_
  first | refine wpAny_bind (wpAny_pure ?_) | skip
  refine wpAny_bind (wpAny_sequenceKey ht.typeIs (by decide) ?_)
  refine wpAny_bind (wpAny_callSpecial?_slot (name := Str.ofString "__getitem__") ht.typeIs PyProof.Rows.slot_tuple_getitem
    (wpAny_call_entry PyProof.Rows.slot_tuple_getitem ht.typeIs entry_tuple_getitem ?_ (args_tuple_getitem _ _)))
  show wpAny _ _ (Builtin.Tuple.tupleItemsOf (.ref t) >>= _) _ _ s
  refine wpAny_bind (tupleItemsOf_ ht ?_)
  refine wpAny_bind (wpAny_typeOf hTs ?_)
  rw [if_pos (by decide)]
  refine wpAny_bind (sliceApplied_gen hs pl pu ?_)
  have hno : ¬ ((((sIx items.size 0 lo : Nat) : Int) == 0 && (1 : Int) == 1 && (sIx items.size items.size hi - sIx items.size 0 lo) == items.size) = true) := by
    intro q
    rw [Bool.and_eq_true, Bool.and_eq_true] at q
    have q1 : ((sIx items.size 0 lo : Nat) : Int) = 0 := eq_of_beq q.1.1
    have q2 : sIx items.size items.size hi - sIx items.size 0 lo = items.size := eq_of_beq q.2
    exact hw ⟨by omega, by omega⟩
  show wpAny _ _ (if (((sIx items.size 0 lo : Nat) : Int) == 0 && (1 : Int) == 1 && (sIx items.size items.size hi - sIx items.size 0 lo) == items.size) = true then _ else _) _ _ s
  rw [if_neg hno, pick_gen]
  first
    | exact wpAny_bind (m := Builtin.Tuple.tupleExact _) (wpAny_newObj_type (wpAny_pure ⟨_, rfl, wpAny_pure h⟩) htake)
    | exact wpAny_bind (m := Builtin.Tuple.tupleExact _) (wpAny_newObj_type (wpAny_bind (wpAny_pure (wpAny_pure ⟨_, rfl, wpAny_pure h⟩))) htake)
    | exact wpAny_bind (wpAny_bind (m := Builtin.Tuple.tupleExact _) (wpAny_newObj_type (wpAny_pure (wpAny_pure ⟨_, rfl, wpAny_pure h⟩)) htake))
    | exact wpAny_bind (wpAny_bind (m := Builtin.Tuple.tupleExact _) (wpAny_newObj_type (wpAny_pure ⟨_, rfl, wpAny_pure h⟩) htake))
end
end HT
namespace L2
open PySem PySem.Spec PyProof.Rows
noncomputable abbrev TO := St → Hp → (Option Int → Hp → Prop) → Prop
noncomputable def PO (X : Cx) (e : Option Expr) (t : TO) : Prop :=
  ∀ (pins : List (Addr × Obj)) (s : Shared) (σ : St) (H : Hp) (Q : Option Int → Hp → Prop), Inv X pins σ H s → t σ H Q →
    wpAny (model X.prog X.w) X.A (evalPart e X.env) (fun u s' => ∃ o H', Inv X pins σ H' s' ∧ IsPart u o ∧ Q o H') X.xe s
noncomputable def tNoPart : TO := fun _ H Q => Q none H
noncomputable def tPart (t : TE) : TO := fun σ H Q => t σ H fun x H1 => ∃ i, x = .int i ∧ Q (some i) H1
theorem intsAre_of {ns : List Int} : ∀ {us : List Value}, Vals (ns.map V.int) us → IntsAre us ns := by
  induction ns with
  | nil => intro us r; rw [List.map_nil] at r; cases r; exact .nil
  | cons n ns ih =>
    intro us r
    rw [List.map_cons] at r
    cases r with
    | cons r1 r2 =>
      obtain ⟨t, e⟩ := r1
      subst e
      exact .cons n t (ih r2)
section
variable {X : Cx} {e : Expr} {te : TE} {lo hi : Option Expr} {tl th : TO} {pos p2 : Pos}
theorem po_none : PO X none tNoPart := by
  intro pins s σ H Q I h
  rw [evalPart_none]
  exact wpAny_pure ⟨none, H, I, .none, h⟩
theorem po_some (h : PE X e te) : PO X (some e) (tPart te) := by
  intro pins s σ H Q I hw
  rw [evalPart_some]
  refine thn (h pins s σ H _ I hw) fun u s1 ⟨x, H1, I1, r1, q1⟩ => ?_
  obtain ⟨i, rfl, q⟩ := q1
  obtain ⟨t, rfl⟩ := r1
  exact ⟨some i, H1, I1, .int i t, q⟩
noncomputable def SlR (X : Cx) (r : V → Option Int → Option Int → Hp → VK → Prop) : Prop :=
  ∀ (pins : List (Addr × Obj)) (s : Shared) (σ : St) (H : Hp) (x : V) (v vl vu : Value) (lo hi : Option Int) (sl : Addr) (Q : VK), Inv X pins σ H s → RelV x v → s.heap.IsSliceOf sl vl vu .none → IsPart vl lo → IsPart vu hi → r x lo hi H Q →
    ∃ T id, typeLookup (.type T) "__getitem__" = pure (some (.builtin id)) ∧ s.TypeIs v T ∧ wpAny (model X.prog X.w) X.A (getItem v (.ref sl)) (EP X pins σ Q) X.xe s
theorem SlR.or {r r' : V → Option Int → Option Int → Hp → VK → Prop} (h : SlR X r) (h' : SlR X r') : SlR X (fun x lo hi H Q => r x lo hi H Q ∨ r' x lo hi H Q) := by
  intro pins s σ H x v vl vu lo hi sl Q I rx hs pl pu q
  rcases q with q | q
  · exact h pins s σ H x v vl vu lo hi sl Q I rx hs pl pu q
  · exact h' pins s σ H x v vl vu lo hi sl Q I rx hs pl pu q
noncomputable def tSl (r : V → Option Int → Option Int → Hp → VK → Prop) (te : TE) (tl th : TO) : TE := fun σ H Q => te σ H fun x H1 => tl σ H1 fun l H2 => th σ H2 fun u H3 => r x l u H3 Q
theorem pe_slice {r : V → Option Int → Option Int → Hp → VK → Prop} (hr : SlR X r) (he : PE X e te) (hl : PO X lo tl) (hu : PO X hi th) : PE X (.Subscript e (.Slice lo hi none p2) pos) (tSl r te tl th) := by
  intro pins s σ H Q I h
  refine Subscript_ (thn (he pins s σ H _ I h) fun v s1 ⟨x, H1, I1, r1, q1⟩ => ?_)
  refine wpAny_Slice (thn (hl pins s1 σ H1 _ I1 q1) fun vl s2 ⟨l, H2, I2, pl, q2⟩ => thn (hu pins s2 σ H2 _ I2 q2) fun vu s3 ⟨u, H3, I3, pu, q3⟩ => ?_)
  rw [evalPart_none]
  refine wpAny_pure ?_
  have I4 : Inv X pins σ H3 { s3 with heap := s3.heap.push { cls := .type "slice", data := .fields #[vl, vu, .none] } } := I3.kept (t' := s3.toks) fun b ob q => Heap.get?_push_of_some _ q
  obtain ⟨T, id, hT, ht, hg⟩ := hr pins { s3 with heap := s3.heap.push { cls := .type "slice", data := .fields #[vl, vu, .none] } } σ H3 x v vl vu l u s3.heap.objs.size Q I4 r1 (Heap.IsSliceOf.new ..) pl pu q3
  show wpAny (model X.prog X.w) X.A (subscriptTail e (.Slice lo hi none p2) v (.ref s3.heap.objs.size)) (EP X pins σ Q) X.xe { s3 with heap := s3.heap.push { cls := .type "slice", data := .fields #[vl, vu, .none] } }
  exact tail_any (ops := [.ref s3.heap.objs.size, v]) ht hT hg (by with_unfolding_all rfl)
noncomputable def cutV (xs : List V) (lo hi : Option Int) : List V := (xs.drop (HT.sIx xs.length 0 lo)).take (HT.sIx xs.length xs.length hi - HT.sIx xs.length 0 lo)
theorem cutV_length (xs : List V) (lo hi : Option Int) : (cutV xs lo hi).length ≤ xs.length := by
  unfold cutV
  rw [List.length_take, List.length_drop]
  omega
noncomputable def rSlT (K : PySem.W.Frag) : V → Option Int → Option Int → Hp → VK → Prop := fun x lo hi H Q => ∃ a xs, x = .ref a ∧ SqT K H a xs ∧
  ¬ (HT.sIx xs.length 0 lo = 0 ∧ HT.sIx xs.length xs.length hi = xs.length) ∧ ∀ p, H p = none → Q (.ref p) (upd H p (.tup (cutV xs lo hi)))
theorem sl_tup : SlR X (rSlT X.K) := by
  intro pins s σ H x v vl vu lo hi sl Q I rx hs pl pu h
  obtain ⟨a, xs, rfl, hx, hw, q⟩ := h
  cases rx
  obtain ⟨its, r, ht, hz⟩ := I.tuple hx
  have hlen : its.toArray.size = xs.length := by rw [List.size_toArray]; exact r.length.symm
  refine ⟨"tuple", _, PyProof.Rows.slot_tuple_getitem.lookup, ht.typeIs, ?_⟩
  refine HT.getItem_tuple_cut ht hs pl pu (by rw [hlen]; exact hw) ?_ (by rw [hlen]; exact hz)
  rw [hlen]
  refine ⟨.ref s.heap.objs.size, _, I.laid (t' := s.toks) (o := .tup (cutV xs lo hi)) (fun b ob q => Heap.get?_push_of_some _ q) (Nat.le_refl _) ?_, rfl, q _ (I.hok.fresh (Nat.le_refl _))⟩
  exact ⟨Nat.le_trans (cutV_length xs lo hi) hz, _, (r.drop (HT.sIx xs.length 0 lo)).take (HT.sIx xs.length xs.length hi - HT.sIx xs.length 0 lo), IsTup.new _ _, NoD.new _ _⟩
noncomputable def rLtT (K : PySem.W.Frag) : R2 := fun x y H Q => ∃ a b ns ms, x = .ref a ∧ y = .ref b ∧ SqT K H a (ns.map V.int) ∧ SqT K H b (ms.map V.int) ∧ Q (.bl (HT.lexLt ns ms)) H
theorem op_ltT (hu : X.A.units < cLine) : OpR X (compareOp .Lt) (rLtT X.K) := by
  intro pins s σ H x y v u Q I rx ry h
  obtain ⟨a, b, ns, ms, rfl, rfl, ha, hb, q⟩ := h
  cases rx
  cases ry
  obtain ⟨its, r1, p1, _⟩ := I.tuple ha
  obtain ⟨its2, r2, p2, _⟩ := I.tuple hb
  have i1 : IntsAre its.toArray.toList ns := intsAre_of r1
  have i2 : IntsAre its2.toArray.toList ms := intsAre_of r2
  exact HT.lt_tupInts p1 p2 i1 i2 hu ⟨.bl (HT.lexLt ns ms), H, I, rfl, q⟩
noncomputable def rCatT (K : PySem.W.Frag) : R2 := fun x y H Q => ∃ a b xs ys, x = .ref a ∧ y = .ref b ∧ SqT K H a xs ∧ SqT K H b ys ∧ xs ≠ [] ∧ xs.length + ys.length ≤ sizeLine ∧
  (ys = [] → Q (.ref a) H) ∧ (ys ≠ [] → ∀ p, H p = none → Q (.ref p) (upd H p (.tup (xs ++ ys))))
theorem Vals.nil_iff {xs : List V} {us : List Value} (r : Vals xs us) : us = [] ↔ xs = [] := by
  cases r with
  | nil => simp
  | cons _ _ => simp
theorem op_catT : OpR X (binaryOp .Add) (rCatT X.K) := by
  intro pins s σ H x y v u Q I rx ry h
  obtain ⟨a, b, xs, ys, rfl, rfl, ha, hb, hx, hz, q1, q2⟩ := h
  cases rx
  cases ry
  obtain ⟨its, r1, p1, _⟩ := I.tuple ha
  obtain ⟨its2, r2, p2, _⟩ := I.tuple hb
  refine HT.cat_tup p1 p2 (fun z => hx (r1.nil_iff.mp z)) (fun z => ⟨.ref a, H, I, rfl, q1 (r2.nil_iff.mp z)⟩) (fun z => ?_) (by rw [← r1.length, ← r2.length]; exact hz)
  refine ⟨.ref s.heap.objs.size, _, I.laid (t' := s.toks) (o := .tup (xs ++ ys)) (fun b ob q => Heap.get?_push_of_some _ q) (Nat.le_refl _) ?_, rfl, q2 (fun w => z (r2.nil_iff.mpr w)) _ (I.hok.fresh (Nat.le_refl _))⟩
  exact ⟨by rw [List.length_append]; exact hz, _, r1.append r2, IsTup.new _ _, NoD.new _ _⟩
end
end L2
namespace L2
open PySem PySem.Spec PyProof.Rows
noncomputable def ixN (n : Nat) (i : Int) : Option Nat := if 0 ≤ i then (if i < n then some i.toNat else none) else if -(n : Int) ≤ i then some (i + n).toNat else none
noncomputable def atI {α : Type} (xs : List α) (i : Int) : Option α := (ixN xs.length i).bind fun j => xs[j]?
theorem ixN_seq {n : Nat} {i : Int} {j : Nat} (h : ixN n i = some j) : seqIndex? i n = some j ∧ j < n ∧ -(n : Int) ≤ i ∧ i < n := by
  unfold ixN at h
  by_cases h0 : 0 ≤ i
  · rw [if_pos h0] at h
    by_cases h1 : i < n
    · rw [if_pos h1] at h
      have e : i.toNat = j := Option.some.inj h
      exact ⟨by rw [seqIndex_of h0 h1, e], by omega, by omega, h1⟩
    · rw [if_neg h1] at h; cases h
  · rw [if_neg h0] at h
    by_cases h1 : -(n : Int) ≤ i
    · rw [if_pos h1] at h
      have e : (i + n).toNat = j := Option.some.inj h
      exact ⟨by rw [seqIndex_neg (by omega) h1, e], by omega, h1, by omega⟩
    · rw [if_neg h1] at h; cases h
theorem atI_get {α : Type} {xs : List α} {i : Int} {v : α} (h : atI xs i = some v) : ∃ j, seqIndex? i xs.length = some j ∧ xs[j]? = some v ∧ j < xs.length ∧ -(xs.length : Int) ≤ i ∧ i < xs.length := by
  unfold atI at h
  cases e : ixN xs.length i with
  | none => rw [e] at h; cases h
  | some j =>
    rw [e] at h
    obtain ⟨h1, h2, h3, h4⟩ := ixN_seq e
    exact ⟨j, h1, h, h2, h3, h4⟩
theorem atI_nat {α : Type} {xs : List α} {j : Nat} {v : α} (h : xs[j]? = some v) : atI xs (j : Int) = some v := by
  have hj : j < xs.length := (List.getElem?_eq_some_iff.mp h).1
  have e : ixN xs.length (j : Int) = some j := by
    unfold ixN
    rw [if_pos (by omega), if_pos (by omega)]; simp
  unfold atI; rw [e]; exact h
noncomputable def PlainIx (b : Expr) : Prop := ∀ o i, subscripted b false o i = operate [o, i] (getItem o i)
noncomputable def IxR (X : Cx) (r : R2) : Prop :=
  ∀ (value slice : Expr) (pins : List (Addr × Obj)) (s : Shared) (σ : St) (H : Hp) (x y : V) (v u : Value) (Q : VK), Inv X pins σ H s → RelV x v → RelV y u → r x y H Q →
    subscripted slice false v u = operate [v, u] (getItem v u) → wpAny (model X.prog X.w) X.A (subscriptTail value slice v u) (EP X pins σ Q) X.xe s
noncomputable def MtR (X : Cx) (id : String) (r : V → List V → Hp → VK → Prop) : Prop :=
  ∀ (pins : List (Addr × Obj)) (s : Shared) (σ : St) (H : Hp) (x : V) (xs : List V) (v : Value) (us : List Value) (Q : VK), Inv X pins σ H s → RelV x v → Vals xs us → r x xs H Q →
    wpAny (model X.prog X.w) X.A (call (.builtin id) (v :: us)) (EP X pins σ Q) X.xe s
section
variable {X : Cx} {a b : Expr} {ta tb : TE} {pos : Pos}
theorem IxR.or {r r' : R2} (h : IxR X r) (h' : IxR X r') : IxR X (fun x y H Q => r x y H Q ∨ r' x y H Q) := by
  intro value slice pins s σ H x y v u Q I rx ry q hs
  rcases q with q | q
  · exact h value slice pins s σ H x y v u Q I rx ry q hs
  · exact h' value slice pins s σ H x y v u Q I rx ry q hs
theorem MtR.or {id : String} {r r' : V → List V → Hp → VK → Prop} (h : MtR X id r) (h' : MtR X id r') : MtR X id (fun x xs H Q => r x xs H Q ∨ r' x xs H Q) := by
  intro pins s σ H x xs v us Q I rx rs q
  rcases q with q | q
  · exact h pins s σ H x xs v us Q I rx rs q
  · exact h' pins s σ H x xs v us Q I rx rs q
theorem pe_ix {r : R2} (hr : IxR X r) (ha : PE X a ta) (hb : PE X b tb) (hs : PlainIx b) : PE X (.Subscript a b pos) (tOp r ta tb) := by
  intro pins s σ H Q I h
  exact Subscript_ (binT ha hb I h fun v u s2 x y H2 I2 rx ry q => hr a b pins s2 σ H2 x y v u Q I2 rx ry q (hs _ _))
noncomputable def rIxL (K : PySem.W.Frag) : R2 := fun x y H Q => ∃ p xs i v, x = .ref p ∧ y = .int i ∧ SqL K H p xs ∧ atI xs i = some v ∧ Q v H
noncomputable def rIxT (K : PySem.W.Frag) : R2 := fun x y H Q => ∃ p xs i v, x = .ref p ∧ y = .int i ∧ SqT K H p xs ∧ atI xs i = some v ∧ Q v H
noncomputable def rIxS : R2 := fun x y H Q => ∃ z i c, x = .str z ∧ y = .int i ∧ z.length ≤ sizeLine ∧ atI z.cps.toList i = some c ∧ Q (.str ⟨#[c]⟩) H
theorem ix_list : IxR X (rIxL X.K) := by
  intro value slice pins s σ H x y v u Q I rx ry h hs
  obtain ⟨p, xs, i, z, rfl, rfl, hq, he, q⟩ := h
  cases rx
  obtain ⟨t, rfl⟩ := ry
  obtain ⟨its, r, pl, hz⟩ := I.list hq
  obtain ⟨j, h1, h2, h3, h4, h5⟩ := atI_get he
  obtain ⟨w, ew, rw'⟩ := r.get h2
  have hl := r.length
  have hn := line63
  have fin : EP X pins σ Q w s := ⟨z, H, I, rw', q⟩
  by_cases h0 : 0 ≤ i
  · have hj : i.toNat = j := by
      rw [seqIndex_of h0 h5] at h1
      exact Option.some.inj h1
    exact item_listR pl.isList h0 (by omega) (by rw [hj]; simpa using ew) fin hs
  · have hj : (i + (its.toArray.size : Int)).toNat = j := by
      rw [seqIndex_neg (by omega) h4] at h1
      rw [List.size_toArray, ← hl]
      exact Option.some.inj h1
    exact subscriptTail_builtinR (x := w) pl.isList.typeIs slot_list_getitem.lookup
      (wpAny_getItem_list_neg (Q := fun r s' => r = w ∧ EP X pins σ Q r s') pl.isList (by omega) (by rw [List.size_toArray] <;> omega) (by omega) (by rw [hj]; simpa using ew) ⟨rfl, fin⟩) hs
theorem ix_tup : IxR X (rIxT X.K) := by
  intro value slice pins s σ H x y v u Q I rx ry h hs
  obtain ⟨p, xs, i, z, rfl, rfl, hq, he, q⟩ := h
  cases rx
  obtain ⟨t, rfl⟩ := ry
  obtain ⟨its, r, pl, hz⟩ := I.tuple hq
  obtain ⟨j, h1, h2, h3, h4, h5⟩ := atI_get he
  obtain ⟨w, ew, rw'⟩ := r.get h2
  have hl := r.length
  have hn := line63
  have fin : EP X pins σ Q w s := ⟨z, H, I, rw', q⟩
  exact subscriptTail_builtinR (x := w) pl.typeIs slot_tuple_getitem.lookup
    (getItem_tuple (j := j) (Q := fun r s' => r = w ∧ EP X pins σ Q r s') pl (by omega) (by omega) (by rw [List.size_toArray, ← hl]; exact h1) (by simpa using ew) ⟨rfl, fin⟩) hs
theorem ix_str : IxR X rIxS := by
  intro value slice pins s σ H x y v u Q I rx ry h hs
  obtain ⟨z, i, c, rfl, rfl, hz, he, q⟩ := h
  obtain ⟨t, rfl⟩ := rx
  obtain ⟨t', rfl⟩ := ry
  obtain ⟨j, h1, h2, h3, h4, h5⟩ := atI_get he
  have hl : z.cps.toList.length = z.length := by simp [Str.length]
  rw [hl] at h1 h4 h5
  have hn := line63
  exact tail_any (typeIs_str s z t) slot_str_getitem.lookup (getItem_str (c := c) (by
    have e1 : decide (i < -(2 ^ 63 : Int)) = false := decide_eq_false (by omega)
    have e2 : decide (i ≥ 2 ^ 63) = false := decide_eq_false (by omega)
    rw [e1, e2, Bool.or_false]) (by rw [h1]; simpa using h2) ⟨.str ⟨#[c]⟩, H, I.tok _, ⟨_, rfl⟩, q⟩) hs
noncomputable def rIx (K : PySem.W.Frag) : R2 := fun x y H Q => rIxL K x y H Q ∨ rIxT K x y H Q ∨ rIxS x y H Q
theorem ix_seq : IxR X (rIx X.K) := ix_list.or (ix_tup.or ix_str)
theorem mapSeq_set (its : List Value) (n j : Nat) (u : Value) : Obj.mapSeq (·.setIfInBounds j u) { cls := .type "list", data := .seq its.toArray n } = { cls := .type "list", data := .seq (its.set j u).toArray n } := by
  simp [Obj.mapSeq]
theorem Inv.lst {pins : List (Addr × Obj)} {σ : St} {H : Hp} {s : Shared} {p : Addr} {xs : List V} (I : Inv X pins σ H s) (h : H p = some (.lst xs)) :
    ∃ (its : List Value) (n : Nat), Vals xs its ∧ s.heap.get? p = some { cls := .type "list", data := .seq its.toArray n } ∧ xs.length ≤ sizeLine := by
  obtain ⟨z, its, n, r, e⟩ := I.hok p _ h
  exact ⟨its, n, r, e, z⟩
theorem Inv.lstUpd {pins : List (Addr × Obj)} {σ : St} {H : Hp} {s : Shared} {p : Addr} {xs ys : List V} {its its' : List Value} {n n' : Nat} {f : Obj → Obj} (I : Inv X pins σ H s) (h : H p = some (.lst xs))
    (ho : s.heap.get? p = some { cls := .type "list", data := .seq its.toArray n }) (hf : f { cls := .type "list", data := .seq its.toArray n } = { cls := .type "list", data := .seq its'.toArray n' }) (r : Vals ys its') (hz : ys.length ≤ sizeLine) (t : Nat) :
    Inv X pins σ (upd H p (.lst ys)) { s with heap := s.heap.update p f, toks := t } := by
  have e : (s.heap.update p f).get? p = some { cls := .type "list", data := .seq its'.toArray n' } := by
    rw [Heap.get?_update_self f ho (by rw [hf] <;> rfl), hf]
  refine I.write (x := p) (e := p) (by rw [h]; trivial) (.inl rfl) (fun b u hb q => (Heap.get?_update_other _ _ (Ne.symm hb)).trans q) ⟨_, e⟩ ?_
  exact ⟨hz, its', n', r, e⟩
noncomputable def rSetL : V → V → V → Hp → (Hp → Prop) → Prop := fun o i v H Q => ∃ p xs k j, o = .ref p ∧ i = .int k ∧ H p = some (.lst xs) ∧ ixN xs.length k = some j ∧ Q (upd H p (.lst (xs.set j v)))
theorem set_list : PSet X rSetL := by
  intro pins s σ H o i v ov iv u Q I ro ri rv h
  obtain ⟨p, xs, k, j, rfl, rfl, hp, hj, q⟩ := h
  cases ro
  obtain ⟨t, rfl⟩ := ri
  obtain ⟨its, n, r, ho, hz⟩ := I.lst hp
  obtain ⟨h1, h2, h3, h4⟩ := ixN_seq hj
  have hl := r.length
  have hn := line63
  have I' : Inv X pins σ (upd H p (.lst (xs.set j v))) { s with heap := s.heap.update p (Obj.mapSeq (·.setIfInBounds j u)) } :=
    I.lstUpd hp ho (mapSeq_set its n j u) (r.set rv j) (by rw [List.length_set]; exact hz) s.toks
  by_cases h0 : 0 ≤ k
  · have hk : k.toNat = j := by
      rw [seqIndex_of h0 h4] at h1
      exact Option.some.inj h1
    exact PySem.W.ki_setAt ho h0 (by omega) (by rw [List.size_toArray, ← hl]; exact h4) (by rw [hk]; exact ⟨_, I', q⟩)
  · have hk : (k + (its.toArray.size : Int)).toNat = j := by
      rw [seqIndex_neg (by omega) h3] at h1
      rw [List.size_toArray, ← hl]
      exact Option.some.inj h1
    exact PySem.W.ki_setBack ho (by omega) (by rw [List.size_toArray, ← hl]; exact h3) (by omega) (by rw [hk]; exact ⟨_, I', q⟩)
theorem slice_bounds (lo hi : Option Int) (n : Nat) : (sliceBounds lo hi none n).1 = ((HT.sIx n 0 lo : Nat) : Int) ∧ (sliceBounds lo hi none n).2.1 = ((HT.sIx n n hi : Nat) : Int) ∧ (sliceBounds lo hi none n).2.2 = 1 := by
  refine ⟨?_, ?_, rfl⟩
  · cases lo with
    | none => simp [sliceBounds, HT.sIx]
    | some i =>
      simp only [sliceBounds, HT.sIx, Option.getD_none, show (1 : Int) > 0 by decide, if_true]
      by_cases h : i < 0
      · simp only [h, if_true] <;> omega
      · simp only [h, if_false] <;> omega
  · cases hi with
    | none => simp [sliceBounds, HT.sIx]
    | some i =>
      simp only [sliceBounds, HT.sIx, Option.getD_none, show (1 : Int) > 0 by decide, if_true]
      by_cases h : i < 0
      · simp only [h, if_true] <;> omega
      · simp only [h, if_false] <;> omega
theorem slicePick_cut (its : List Value) (lo hi : Option Int) : slicePick its.toArray lo hi none = ((its.drop (HT.sIx its.length 0 lo)).take (HT.sIx its.length its.length hi - HT.sIx its.length 0 lo)).toArray := by
  obtain ⟨h1, h2, h3⟩ := slice_bounds lo hi its.toArray.size
  unfold slicePick
  rw [h1, h2, h3]
  simp only [sliceRange_one, pick_run, List.size_toArray] <;> rfl
noncomputable def rSlL (K : PySem.W.Frag) : V → Option Int → Option Int → Hp → VK → Prop := fun x lo hi H Q => ∃ a xs, x = .ref a ∧ SqL K H a xs ∧ ∀ p, H p = none → Q (.ref p) (upd H p (.lst (cutV xs lo hi)))
theorem sl_list : SlR X (rSlL X.K) := by
  intro pins s σ H x v vl vu lo hi sl Q I rx hs pl pu h
  obtain ⟨a, xs, rfl, hx, q⟩ := h
  cases rx
  obtain ⟨its, r, ht, hz⟩ := I.list hx
  have hlen := r.length
  refine ⟨"list", _, slot_list_getitem.lookup, ht.isList.typeIs, ?_⟩
  refine wpAny_getItem_list_slice ht.isList hs pl pu .none (by simp) ?_ (by rw [List.size_toArray] <;> omega)
  rw [slicePick_cut, ← hlen]
  refine ⟨.ref s.heap.objs.size, _, I.laid (t' := s.toks) (o := .lst (cutV xs lo hi)) (fun b ob q => Heap.get?_push_of_some _ q) (Nat.le_refl _) ?_, rfl, q _ (I.hok.fresh (Nat.le_refl _))⟩
  exact ⟨Nat.le_trans (cutV_length xs lo hi) hz, _, 0, (r.drop (HT.sIx xs.length 0 lo)).take (HT.sIx xs.length xs.length hi - HT.sIx xs.length 0 lo), Heap.get?_push_size _ rfl⟩
noncomputable def flatV : V → Bool
  | .non => true
  | .bl _ => true
  | .int _ => true
  | .str _ => true
  | _ => false
noncomputable def eqV : V → V → Bool
  | .non, .non => true
  | .bl a, .bl b => a == b
  | .bl a, .int b => (if a then 1 else 0) == b
  | .int a, .bl b => a == (if b then 1 else 0)
  | .int a, .int b => a == b
  | .str a, .str b => a == b
  | _, _ => false
noncomputable def eqU (x : V) (u : Value) : Bool := match u with
  | .none => eqV .non x
  | .bool b => eqV (.bl b) x
  | .int i _ => eqV (.int i) x
  | .str z _ => eqV (.str z) x
  | _ => false
noncomputable def inV (x : V) (xs : List V) : Bool := xs.any fun y => eqV y x
noncomputable def rIn (K : PySem.W.Frag) (neg : Bool) : R2 := fun x y H Q => ∃ p xs, y = .ref p ∧ (SqL K H p xs ∨ SqT K H p xs) ∧ flatV x = true ∧ xs.all flatV = true ∧ Q (.bl (if neg then !inV x xs else inV x xs)) H
theorem call_len_seq : CallR X (.builtin "len") (fun xs H Q => ∃ p ys, xs = [.ref p] ∧ (SqL X.K H p ys ∨ SqT X.K H p ys) ∧ Q (.int ys.length) H) := by
  intro pins s σ H xs us Q I r h
  obtain ⟨p, ys, rfl, hq, q⟩ := h
  obtain ⟨u, rfl, rx⟩ := vals1 r
  cases rx
  have hn := line63
  rcases hq with hq | hq
  · obtain ⟨its, r', pl, hz⟩ := I.list hq
    have hlen := r'.length
    exact Calls.call_len_list pl.isList (by simp only [List.size_toArray] <;> omega) ⟨.int ys.length, H, I.tok _, ⟨s.toks + 1, by rw [List.size_toArray, hlen]⟩, q⟩
  · obtain ⟨its, r', pl, hz⟩ := I.tuple hq
    have hlen := r'.length
    exact len_tuple pl (by simp only [List.size_toArray] <;> omega) ⟨.int ys.length, H, I.tok _, ⟨s.toks + 1, by rw [List.size_toArray, hlen]⟩, q⟩
theorem CallR.or {f : Value} {r r' : List V → Hp → VK → Prop} (h : CallR X f r) (h' : CallR X f r') : CallR X f (fun xs H Q => r xs H Q ∨ r' xs H Q) := by
  intro pins s σ H xs us Q I rs q
  rcases q with q | q
  · exact h pins s σ H xs us Q I rs q
  · exact h' pins s σ H xs us Q I rs q
theorem call_list_of : CallR X (.type "list") (fun xs H Q => ∃ p ys, xs = [.ref p] ∧ (SqL X.K H p ys ∨ SqT X.K H p ys) ∧ ∀ l, H l = none → Q (.ref l) (upd H l (.lst ys))) := by
  intro pins s σ H xs us Q I r h
  obtain ⟨p, ys, rfl, hq, q⟩ := h
  obtain ⟨u, rfl, rx⟩ := vals1 r
  cases rx
  have fin : ∀ (its : List Value), Vals ys its → ys.length ≤ sizeLine → ∀ (h' : Heap) (c' : Nat), (∀ b o', s.heap.get? b = some o' → h'.get? b = some o') →
      h'.get? s.heap.objs.size = some { cls := .type "list", dict := none, data := .seq its.toArray c', slots := #[] } → EP X pins σ Q (.ref s.heap.objs.size) { s with heap := h' } := fun its r' hz h' c' kp e =>
    ⟨.ref s.heap.objs.size, _, I.laid (t' := s.toks) kp (Nat.le_refl _) (show ObjOk X.prog X.w _ h' _ (.lst ys) from ⟨hz, its, c', r', e⟩), rfl, q _ (I.hok.fresh (Nat.le_refl _))⟩
  rcases hq with hq | hq
  · obtain ⟨its, r', pl, hz⟩ := I.list hq
    have hlen := r'.length
    obtain ⟨o, ho, hc, n, hd⟩ := pl.isList
    exact call_list_seq p (.inl rfl) ho hc hd (fun h' c' kp e => fin its r' hz h' c' kp e) (by simp only [List.size_toArray] <;> omega)
  · obtain ⟨its, r', pl, hz⟩ := I.tuple hq
    have hlen := r'.length
    obtain ⟨o, ho, hc, n, hd⟩ := pl
    exact call_list_seq p (.inr rfl) ho hc hd (fun h' c' kp e => fin its r' hz h' c' kp e) (by simp only [List.size_toArray] <;> omega)
theorem call_tuple_of : CallR X (.type "tuple") (fun xs H Q => ∃ p ys, xs = [.ref p] ∧ ((SqL X.K H p ys ∧ ∀ l, H l = none → Q (.ref l) (upd H l (.tup ys))) ∨ (SqT X.K H p ys ∧ Q (.ref p) H))) := by
  intro pins s σ H xs us Q I r h
  obtain ⟨p, ys, rfl, h⟩ := h
  obtain ⟨u, rfl, rx⟩ := vals1 r
  cases rx
  rcases h with ⟨hq, q⟩ | ⟨hq, q⟩
  · obtain ⟨its, r', pl, hz⟩ := I.list hq
    have hlen := r'.length
    refine call_tuple_list pl.isList (fun h' kp => ?_) (by simp only [List.size_toArray] <;> omega)
    have I1 : Inv X pins σ H { s with heap := h' } := I.kept (t' := s.toks) kp
    have I2 : Inv X pins σ (upd H h'.objs.size (.tup ys)) { s with heap := h'.push { cls := .type "tuple", data := .seq its.toArray } } :=
      I1.laid (t' := s.toks) (fun b o e => Heap.get?_push_of_some _ e) (Nat.le_refl _) (show ObjOk X.prog X.w _ _ _ (.tup ys) from ⟨hz, its, r', IsTup.new _ _, NoD.new _ _⟩)
    exact ⟨.ref h'.objs.size, _, I2, rfl, q _ (I1.hok.fresh (Nat.le_refl _))⟩
  · obtain ⟨its, r', pl, hz⟩ := I.tuple hq
    exact call_tuple_same pl ⟨.ref p, H, I, rfl, q⟩
noncomputable def tyV (K : PySem.W.Frag) (T : String) (x : V) (H : Hp) : Prop := match x with
  | .str _ => T = "str"
  | .int _ => T = "int"
  | .ref p => (T = "list" ∧ ∃ xs, SqL K H p xs) ∨ (T = "tuple" ∧ ∃ o, K.lookup p = some o ∧ o.cls = .type "tuple" ∧ o.dict = none) ∨
      (T = "dict" ∧ ((∃ kvs, H p = some (.dK kvs)) ∨ ∃ kvs, H p = some (.dT kvs))) ∨ (T = "set" ∧ ∃ S n, H p = some (.set S n))
  | _ => False
theorem tyV_is {pins : List (Addr × Obj)} {σ : St} {H : Hp} {s : Shared} {T : String} {x : V} {v : Value} (I : Inv X pins σ H s) (r : RelV x v) (ty : tyV X.K T x H) :
    s.TypeIs v T ∧ ∀ a, v = .ref a → ∃ ob, s.heap.get? a = some ob ∧ ob.dict = none := by
  cases x with
  | str z =>
    obtain ⟨t, rfl⟩ := r
    cases (show T = "str" from ty)
    exact ⟨typeIs_str s z t, fun _ e => nomatch e⟩
  | int i =>
    obtain ⟨t, rfl⟩ := r
    cases (show T = "int" from ty)
    exact ⟨typeIs_int s i t, fun _ e => nomatch e⟩
  | ref p =>
    cases r
    rcases ty with ⟨rfl, xs, hq⟩ | ⟨rfl, o, hk, hc, hd⟩ | ⟨rfl, hk⟩ | ⟨rfl, S, n, hk⟩
    · obtain ⟨its, _, pl, _⟩ := I.list hq
      refine ⟨pl.isList.typeIs, fun a e => ?_⟩
      cases e
      obtain ⟨o, n, e, c, hd, _⟩ := pl
      exact ⟨o, e, hd⟩
    · refine ⟨⟨o, I.kIn p o hk, hc⟩, fun a e => ?_⟩
      cases e
      exact ⟨o, I.kIn _ o hk, hd⟩
    · have z : ∃ o, s.heap.get? p = some o ∧ o.ExactDict := by
        rcases hk with ⟨kvs, hk⟩ | ⟨kvs, hk⟩
        · obtain ⟨_, _, _, _, o, _, _, e, ex, _⟩ := I.hok p _ hk
          exact ⟨o, e, ex⟩
        · obtain ⟨_, _, _, _, o, _, _, e, ex, _⟩ := I.hok p _ hk
          exact ⟨o, e, ex⟩
      obtain ⟨o, e, ex⟩ := z
      refine ⟨⟨o, e, ex.1⟩, fun a e2 => ?_⟩
      cases e2
      exact ⟨o, e, ex.2.1⟩
    · obtain ⟨o, _, _, _, e, ex, _⟩ := I.hok p _ hk
      refine ⟨⟨o, e, ex.1⟩, fun a e2 => ?_⟩
      cases e2
      exact ⟨o, e, ex.2.1⟩
  | _ => exact False.elim ty
noncomputable def tBM0 (K : PySem.W.Frag) (T : String) (r : V → List V → Hp → VK → Prop) (to : TE) : TE := fun σ H Q => to σ H fun x H1 => tyV K T x H1 ∧ r x [] H1 Q
noncomputable def tBM (K : PySem.W.Frag) (T : String) (r : V → List V → Hp → VK → Prop) (to : TE) (t : TA) : TE := fun σ H Q => to σ H fun x H1 => tyV K T x H1 ∧ t σ H1 fun xs H2 => r x xs H2 Q
variable {o e : Expr} {es : List Expr} {to : TE} {t : TA} {name : Str} {apos cpos : Pos} {T id : String} {r : V → List V → Hp → VK → Prop}
theorem pe_bm (pa : PlainAttrs T) (slot : Slot T name id) (hty : typeOf (.builtin id) = pure (.type "method_descriptor")) (hm : MtR X id r) (ho : PE X o to) (ha : PA X (e :: es) t)
    (hbase : attributeBase o name X.env (eval o X.env) = eval o X.env := by rfl)
    (hfew : ((backTo cpos (starEach (e :: es) X.env)).all (fun x => !x.1) && (backToKw cpos (keywordEach [] X.env)).all (fun x => x.1.isSome)
      && decide ((e :: es).length + ([] : List Keyword).length + (if ([] : List Keyword).isEmpty then 0 else 1) < 30)) = true := by rfl)
    (hline : (apos.endLine == cpos.line) = true := by rfl) (hs : starEach (e :: es) X.env = (false, eval e X.env) :: starEach es X.env := by rfl) (hplain : (backTo cpos (starEach es X.env)).any (·.1) = false := by rfl) :
    PE X (.Call (.Attribute o name apos) (e :: es) [] cpos) (tBM X.K T r to t) := by
  intro pins s σ H Q I h
  refine wpAny_Call_method_late hbase hfew hline rfl (thn (ho pins s σ H _ I h) fun v s1 ⟨x, H1, I1, r1, ty, q1⟩ => ?_)
  obtain ⟨h1, h2⟩ := tyV_is I1 r1 ty
  refine ⟨T, id, pa, slot, hty, h1, h2, ?_⟩
  have hA := ha cpos pins s1 σ H1 _ I1 q1
  rw [hs] at hA ⊢
  refine Calls.callWith_builtin (by show (false || (backTo cpos (starEach es X.env)).any (·.1)) = false; rw [hplain] <;> rfl) (Calls.evalArgs_plain ?_)
  exact thn hA fun us s2 ⟨vs, H2, I2, r2, q2⟩ => hm pins s2 σ H2 x vs v us Q I2 r1 r2 q2
/- xs.append(e), list.index on a module's tuple .. are MtR facts of 06m -/
end
end L2
namespace L2
open PySem PySem.Spec PyProof.Rows
noncomputable def MtM (X : Cx) (id : String) (r : V → List V → Hp → VK → Prop) : Prop :=
  ∀ (pins : List (Addr × Obj)) (s : Shared) (σ : St) (H : Hp) (x : V) (xs : List V) (v : Value) (us : List Value) (Q : VK), Inv X pins σ H s → RelV x v → Vals xs us → r x xs H Q →
    wpAny (model X.prog X.w) X.A (call (.builtin id) (v :: us)) (EP X pins σ Q) X.xe s
theorem Vals.one : ∀ {x : V} {us : List Value}, Vals [x] us → ∃ u, us = [u] ∧ RelV x u
  | _, _, .cons r .nil => ⟨_, rfl, r⟩
theorem Vals.two : ∀ {x y : V} {us : List Value}, Vals [x, y] us → ∃ u v, us = [u, v] ∧ RelV x u ∧ RelV y v
  | _, _, _, .cons r (.cons q .nil) => ⟨_, _, rfl, r, q⟩
theorem Vals.zero : ∀ {us : List Value}, Vals [] us → us = []
  | _, .nil => rfl
theorem Vals.dropLast {xs : List V} {us : List Value} (h : Vals xs us) : Vals xs.dropLast us.dropLast := by
  induction h with
  | nil => exact .nil
  | cons r t ih =>
    cases t with
    | nil => exact .nil
    | cons q t' => exact .cons r ih
theorem Vals.eraseIdx : ∀ {xs : List V} {us : List Value} (i : Nat), Vals xs us → Vals (xs.eraseIdx i) (us.eraseIdx i)
  | _, _, _, .nil => .nil
  | _, _, 0, .cons _ t => t
  | _, _, i + 1, .cons r t => .cons r (Vals.eraseIdx i t)
theorem Vals.reverse {xs : List V} {us : List Value} (h : Vals xs us) : Vals xs.reverse us.reverse := by
  induction h with
  | nil => exact .nil
  | cons r t ih => rw [List.reverse_cons, List.reverse_cons]; exact Vals.append ih (.cons r .nil)
section
variable {X : Cx} {pins : List (Addr × Obj)} {σ : St} {H : Hp} {s : Shared} {l b : Addr} {xs ys zs : List V}
theorem Inv.lset {its its' : List Value} {n : Nat} {f : Array Value → Array Value} {t' : Nat} (I : Inv X pins σ H s) (hH : H l = some (.lst xs))
    (e : s.heap.get? l = some { cls := .type "list", data := .seq its.toArray n }) (hf : f its.toArray = its'.toArray) (hv : Vals ys its') (hz : ys.length ≤ sizeLine) :
    Inv X pins σ (upd H l (.lst ys)) { s with heap := s.heap.update l (Obj.mapSeq f), toks := t' } := by
  have q := PySem.IsL.update e f
  rw [hf] at q
  refine I.write (x := l) (e := l) (by rw [hH]; exact trivial) (.inl rfl) (fun b' u hb hu => (Heap.get?_update_other s.heap (Obj.mapSeq f) (Ne.symm hb)).trans hu) ⟨_, q⟩ ?_
  exact ⟨hz, its', _, hv, q⟩
theorem Inv.lnew {its : List Value} {t' : Nat} (I : Inv X pins σ H s) (hv : Vals ys its) (hz : ys.length ≤ sizeLine) :
    Inv X pins σ (upd H s.heap.objs.size (.lst ys)) { s with heap := s.heap.push { cls := .type "list", data := .seq its.toArray }, toks := t' } :=
  I.laid (fun _ _ q => Heap.get?_push_of_some _ q) (Nat.le_refl _) ⟨hz, its, 0, hv, Heap.get?_push_size _ rfl⟩
theorem Inv.fresh (I : Inv X pins σ H s) : H s.heap.objs.size = none := I.hok.fresh (Nat.le_refl _)
theorem Inv.lstM (I : Inv X pins σ H s) (hH : H l = some (.lst xs)) : xs.length ≤ sizeLine ∧ ∃ (its : List Value) (n : Nat), Vals xs its ∧ xs.length = its.length ∧ s.heap.get? l = some { cls := .type "list", data := .seq its.toArray n } := by
  obtain ⟨z, its, n, r, e⟩ := I.hok l _ hH
  exact ⟨z, its, n, r, r.length, e⟩
end
section
variable {X : Cx}
noncomputable def rAppend : V → List V → Hp → VK → Prop := fun x vs H Q => ∃ l xs y, x = .ref l ∧ vs = [y] ∧ H l = some (.lst xs) ∧ xs.length < sizeLine ∧ Q .non (upd H l (.lst (xs ++ [y])))
theorem mt_append : MtM X "list.append" rAppend := by
  intro pins s σ H x vs v us Q I rx rv h
  obtain ⟨l, xs, y, rfl, rfl, hH, hz, q⟩ := h
  cases rx
  obtain ⟨u, rfl, ru⟩ := rv.one
  obtain ⟨z, its, n, r, hl, e⟩ := I.lstM hH
  refine call_meets F.slot_list_append ⟨_, e, rfl⟩ F.entry_list_append (F.args_list_append_2 _ _) (PySem.list_append l its.toArray n u (by rw [List.size_toArray]; omega)) ⟨e, ?_⟩
  refine ⟨.non, _, I.lset (its' := its ++ [u]) hH e (by simp) (r.append (.cons ru .nil)) ?_, rfl, q⟩
  rw [List.length_append, List.length_singleton]
  omega
noncomputable def rExtend : V → List V → Hp → VK → Prop := fun x vs H Q => ∃ l b xs zs, x = .ref l ∧ vs = [.ref b] ∧ H l = some (.lst xs) ∧ H b = some (.lst zs) ∧ xs.length + zs.length ≤ sizeLine ∧ Q .non (upd H l (.lst (xs ++ zs)))
noncomputable def rPop : V → List V → Hp → VK → Prop := fun x vs H Q => ∃ l xs y, x = .ref l ∧ vs = [] ∧ H l = some (.lst xs) ∧ xs[xs.length - 1]? = some y ∧ Q y (upd H l (.lst xs.dropLast))
noncomputable def rPopAt : V → List V → Hp → VK → Prop := fun x vs H Q => ∃ l xs i k y, x = .ref l ∧ vs = [.int i] ∧ H l = some (.lst xs) ∧ -(2 ^ 63) ≤ i ∧ i < 2 ^ 63 ∧ seqIndex? i xs.length = some k ∧ xs[k]? = some y ∧ Q y (upd H l (.lst (xs.eraseIdx k)))
noncomputable def rReverse : V → List V → Hp → VK → Prop := fun x vs H Q => ∃ l xs, x = .ref l ∧ vs = [] ∧ H l = some (.lst xs) ∧ Q .non (upd H l (.lst xs.reverse))
noncomputable def rClear : V → List V → Hp → VK → Prop := fun x vs H Q => ∃ l xs, x = .ref l ∧ vs = [] ∧ H l = some (.lst xs) ∧ Q .non (upd H l (.lst []))
noncomputable def rCat : R2 := fun x y H Q => ∃ l b xs zs, x = .ref l ∧ y = .ref b ∧ H l = some (.lst xs) ∧ H b = some (.lst zs) ∧ xs.length + zs.length ≤ sizeLine ∧ ∀ p, H p = none → Q (.ref p) (upd H p (.lst (xs ++ zs)))
theorem op_cat : OpR X (binaryOp .Add) rCat := by
  intro pins s σ H x y v u Q I rx ry h
  obtain ⟨l, b, xs, zs, rfl, rfl, hH, hB, hz, q⟩ := h
  cases rx
  cases ry
  obtain ⟨z, its, n, r, hl, e⟩ := I.lstM hH
  obtain ⟨z2, its2, n2, r2, hl2, e2⟩ := I.lstM hB
  refine PySem.P.add_list e e2 ?_ (by rw [List.size_toArray, List.size_toArray]; omega)
  have ea : its.toArray ++ its2.toArray = (its ++ its2).toArray := by simp
  rw [ea]
  exact ⟨.ref _, _, I.lnew (t' := s.toks) (r.append r2) (by rw [List.length_append]; omega), rfl, q _ I.fresh⟩
noncomputable def rRep : R2 := fun x y H Q => ∃ l k xs, x = .ref l ∧ y = .int k ∧ H l = some (.lst xs) ∧ -(2 ^ 63) ≤ k ∧ k < 2 ^ 63 ∧ xs.length * k.toNat ≤ sizeLine ∧
  ∀ p, H p = none → Q (.ref p) (upd H p (.lst (List.replicate k.toNat xs).flatten))
end
section
variable {prog : Program} {w : World} {A : Around} {E : Value → Shared → Prop} {s : Shared}
end
section
variable {X : Cx}
end
end L2
namespace Att
open PySem PySem.W PySem.Calls PyProof.Rows
theorem ints_of_wellAll {P : Params} {h : Heap} : ∀ (ns : List Int) (vs : List Value), WellAll P h vs (ns.map WData.int) → IntsAre vs ns := by
  intro ns
  induction ns with
  | nil =>
    intro vs w
    rw [List.map_nil] at w
    cases w
    exact .nil
  | cons n ns ih =>
    intro vs w
    rw [List.map_cons] at w
    cases w with
    | cons a b =>
      cases a
      exact .cons _ _ (ih _ b)
theorem script_of {l : OpenLaw} {n : Nat} (hn : l.most = some n) {P : Params} {h : Heap} {args : List WData} {vals : List Value}
    (hpre : l.row.toRowW.claim.pre args = true) (hwl : WellAll P h vals args) :
    ∃ a vs ns, vals = [Value.ref a] ∧ args = [WData.list (ns.map WData.int)] ∧ h.get? a = some { cls := .type "list", data := .seq vs.toArray } ∧ IntsAre vs ns ∧ ns.length ≤ n := by
  have hsh : WShape.hasAll [] args [.list .int] = true := (pre_splitW hpre).1
  have hc : l.pre.holds [] { args := args } = true := (pre_splitW hpre).2
  obtain ⟨d, r, rfl, h1, h2⟩ := hasAllW_cons hsh
  obtain rfl := hasAllW_nil h2
  obtain ⟨xs, rfl, h3⟩ := hasW_list h1
  obtain ⟨ns, rfl⟩ := items_int h3
  have hlen : ns.length ≤ n := by
    unfold OpenLaw.pre at hc
    have h4 : (WTm.not (.lt (.lit (.int (n : Int))) (.len (.arg 0)))).holds [] { args := [.list (ns.map .int)] } = true := by
      have h4 := (holds_andW hc).1
      rw [hn] at h4
      exact h4
    have h5 := condW_of h4 (w_not (w_lt w_lit (w_len_list (w_arg rfl))))
    rw [List.length_map] at h5
    refine Nat.le_of_not_lt fun q => ?_
    have q' : (n : Int) < ((ns.length : Nat) : Int) := by omega
    first
      | (rw [decide_eq_true q'] at h5; exact absurd h5 (by decide))
      | (simp at h5; omega)
  cases hwl with
  | cons w1 w2 =>
    cases w2
    cases w1 with
    | list ho hall => exact ⟨_, _, ns, rfl, rfl, ho, ints_of_wellAll ns _ hall, hlen⟩
theorem post_true (l : OpenLaw) (args : List WData) : l.row.toRowW.claim.post args (.bool true) args = true :=
  postW_of (r := l.row.toRowW) (X := (true == true))
    (show WShape.has [] (.bool true) .bool = true by first | rfl | decide | simp [WShape.has, WShape.arms, WShape.armsAll])
    (show (WTm.eq .res (.lit (.bool true))).value [] { args := args, res := some (.bool true), after := args } = some (.bool (true == true)) from w_eq_bool (w_res rfl) w_lit) rfl
theorem attach_call {l : OpenLaw} {n : Nat} {q : Program} {loose : List Str} {XP : (Str → Option Value) → Heap → Prop} {YP : World → Heap → Prop} {d : DefRec}
    (hn : l.most = some n) (hdf : d.params.defaults = [])
    (call : ∀ (w : World) (s₀ s₁ : Shared) (mg mb : Str → Option Value) (fa : Addr) (o : Obj) (pm cd doc : Value) (a : Addr) (vs : List Value) (ns : List Int),
      Ground q loose [] XP w s₀ mg mb s₁.heap → YP w s₁.heap →
      s₁.heap.get? fa = some o → o.data = .func (docDef d.name d.params d.body d.scope pm cd doc) → s₁.heap.CodeRec cd d.name → mg d.name = some (.ref fa) →
      s₁.heap.get? a = some { cls := .type "list", data := .seq vs.toArray } → IntsAre vs ns → ns.length ≤ n → s₁.gens = #[] →
      codeAny (model l.prog w) callerA (.call (.ref fa) ⟨[.ref a], []⟩) (fun r s' => r = .ok (.ret (.bool true)) ∧ OldK s₁.heap s'.heap ∧ s'.os = s₁.os ∧ AllBare s'.gens) s₁) :
    WalkO q loose XP YP l.row.toRowW d [] (fun f vs => PySem.call f vs) := by
  intro w s₀ s₁ mg mb G Y fa o pm cd doc dV kV ho hd hcd hD hmg hg args vals as hpre hlay hrd hwl hlo
  obtain rfl : dV = .none := Dflts.none hD hdf
  obtain rfl : kV = .none := Dflts.noKw hD
  obtain ⟨a, vs, ns, rfl, rfl, hobj, hints, hlen⟩ := script_of hn hpre hwl
  refine enter_call (codeAny_mono (call w s₀ s₁ mg mb fa o pm cd doc a vs ns G Y ho (fd_plain hd) hcd hmg hobj hints hlen hg) fun r s' hq => ?_)
  obtain ⟨rfl, h2, h3, h4⟩ := hq
  exact ⟨.inl ⟨.bool true, .bool true, [], rfl, fun _ => rfl, .bool true, post_true l _, fun _ => ⟨List.Pairwise.nil, fun _ hm => (nomatch hm)⟩⟩, h2, h3, h4⟩
section
variable {prog : Program} {w : World} {A : Around} {E : Value → Shared → Prop} {s : Shared} {K : Frag}
noncomputable def noObjs (h : Heap) : Heap := { h with objs := #[] }
noncomputable def ledger (h : Heap) (L d : Addr) : List (Addr × Obj) := (List.range h.objs.size).filterMap fun a => if a = L ∨ a = d then none else (h.get? a).map fun o => (a, o)
end
end Att
namespace L2
open PySem PySem.Spec PyProof.Rows
theorem vals_ints : ∀ {vs : List Value} {ns : List Int}, IntsAre vs ns → Vals (ns.map V.int) vs
  | _, _, .nil => .nil
  | _, _, .cons n t h => .cons ⟨t, rfl⟩ (vals_ints h)
noncomputable def Only (H : Hp) : Prop := ∀ b, H b = none ∨ ∃ o xs, H b = some (.frz o (.lst xs))
end L2
namespace L2
open PySem PySem.Spec PyProof.Rows
noncomputable abbrev KOf {K : PySem.W.Frag} {h : Heap} (_ : K.In h) : PySem.W.Frag := K
end L2
namespace L2
open PySem PySem.Spec PyProof.Rows
noncomputable def inClass (s : Stmt) (j : Nat) : Stmt := match s with
  | .ClassDef _ _ _ body _ _ _ _ _ _ _ => body.getD j (.Pass ⟨0, 0, 0, 0⟩)
  | _ => .Pass ⟨0, 0, 0, 0⟩
noncomputable def defArgs (s : Stmt) : Arguments := match s with
  | .FunctionDef _ a _ _ _ _ _ _ _ _ => a
  | _ => { posonlyargs := [], args := [], vararg := none, kwonlyargs := [], kw_defaults := [], kwarg := none, defaults := [] }
noncomputable def defBody (s : Stmt) : List Stmt := match s with
  | .FunctionDef _ _ b _ _ _ _ _ _ _ => b
  | _ => []
noncomputable def defScope (s : Stmt) : Scope := match s with
  | .FunctionDef _ _ _ _ _ _ sc _ _ _ => sc
  | _ => { kind := .function, names := [], isGenerator := false, isCoroutine := false }
noncomputable abbrev CX0 : CXT := fun _ _ _ _ _ _ => False
noncomputable abbrev E0 : XK := fun _ _ _ => False
theorem pass0 {X : Cx} : Passes CX0 X E0 := fun _ _ _ _ _ _ _ h => h.elim
structure Fun (K : PySem.W.Frag) (x qual : Str) (st : Stmt) (f : Addr) (fd : FuncData) : Prop where
  ex : ∃ (oc : Value) (od : Option Addr) (kV doc pm : Value) (an : Option Addr) (cdv ct : Value) (osl : Array (Option Value)),
    fd = PySem.W.fnOf x qual (defArgs st) (defBody st) (defScope st) .none kV doc pm an cdv ct ∧ K.lookup f = some ⟨oc, od, .func fd, osl⟩ ∧ PySem.W.codeIn K cdv qual = true
  kp : PySem.W.keepIn K (.ref f) = true
section
variable {P : Program} {w : World} {K : PySem.W.Frag} {mg : Str → Option Value} {base : Heap}
theorem Fun.ok {x qual : Str} {st : Stmt} {f : Addr} {fd : FuncData} {N ps : List Str} {k : Nat} {sp : Sp} (F : Fun K x qual st f fd) (S : FnScope N ps (defScope st)) (len : ∀ vs H Q E, sp vs H Q E → vs.length = ps.length)
    (hbody : ∀ (cdv : Value) (A : Around) (outer : List Env) (s : Shared) (H : Hp) (vs : List V) (Q : VK) (E : XK), Room k (A.deeper (envOfC qual (defScope st) s.heap.objs.size f cdv)) → sp vs H Q E →
      ∃ t, PSs (cxOf CX0 P w K mg base N qual (defScope st) f cdv A outer s H E).nox (defBody st) t ∧ t { nx := fun _ H' => Q .non H', rt := Q } (start N vs) H) : FnOk P w K mg base CX0 (k + 1) f fd ps sp := by
  obtain ⟨oc, od, kV, doc, pm, an, cdv, ct, osl, rfl, lk, hcd⟩ := F.ex
  refine fn_of lk hcd S len fun A outer s H vs Q E hr hsp => ?_
  obtain ⟨t, h, q⟩ := hbody cdv A outer s H vs Q E hr hsp
  exact ⟨t, h.nox, q⟩
theorem Fun.binds {x qual : Str} {st : Stmt} {f : Addr} {fd : FuncData} {ps : List Str} (F : Fun K x qual st f fd)
    (h : ∀ (kV doc pm : Value) (an : Option Addr) (cdv ct : Value) (us : List Value), us.length = ps.length → bindArgs (PySem.W.fnOf x qual (defArgs st) (defBody st) (defScope st) .none kV doc pm an cdv ct) ⟨us, []⟩ = pure (ps.zip us)) : Binds K fd ps [] := by
  obtain ⟨oc, od, kV, doc, pm, an, cdv, ct, osl, rfl, lk, hcd⟩ := F.ex
  exact .all (h kV doc pm an cdv ct)
theorem fun_mk {x qual : Str} {st : Stmt} {f : Addr} {oc : Value} {od an : Option Addr} {osl : Array (Option Value)} {kV doc pm cdv ct : Value} (l : K.lookup f = some ⟨oc, od, .func (PySem.W.fnOf x qual (defArgs st) (defBody st) (defScope st) .none kV doc pm an cdv ct), osl⟩)
    (c : PySem.W.codeIn K cdv qual = true) (k : PySem.W.keepIn K (.ref f) = true) : Fun K x qual st f (PySem.W.fnOf x qual (defArgs st) (defBody st) (defScope st) .none kV doc pm an cdv ct) := ⟨⟨oc, od, kV, doc, pm, an, cdv, ct, osl, rfl, l, c⟩, k⟩
end
section
variable {X : Cx}
theorem pv (i : Nat) {x : Str} {pos : Pos} (hN : X.N[i]? = some x := by rfl) (hv : Vis X.env.scope x := by first | exact Or.inl rfl | exact Or.inr (Or.inl rfl) | exact Or.inr (Or.inr rfl)) (hd : (x == ("__debug__" : Str)) = false := by decide)
    (hcd : (x == ("__classdict__" : Str)) = false := by decide) : PE X (.Name x pos) (tVar i) := pe_var hN hv hd hcd
end
theorem iteT {A B : Prop} (h : A) : if true = true then A else B := by
  rw [if_pos rfl]
  exact h
theorem ite2 {c A B : Prop} [Decidable c] (h1 : c → A) (h2 : ¬ c → B) : if c then A else B := by
  by_cases h : c
  · rw [if_pos h]
    exact h1 h
  · rw [if_neg h]
    exact h2 h
noncomputable def Same (H H' : Hp) : Prop := ∀ b o, H b = some o → H' b = some o
theorem Same.refl (H : Hp) : Same H H := fun _ _ h => h
theorem Same.trans {H H1 H2 : Hp} (a : Same H H1) (b : Same H1 H2) : Same H H2 := fun c o h => b c o (a c o h)
theorem Same.free {H H' : Hp} (e : Same H H') {l : Addr} (h : H' l = Option.none) : H l = Option.none := by
  cases q : H l with
  | none => rfl
  | some o =>
    rw [e l o q] at h
    cases h
theorem Same.seq {K : PySem.W.Frag} {H H' : Hp} {a : Addr} {xs : List V} (e : Same H H') (h : SqL K H a xs) : SqL K H' a xs := by
  rcases h with (h | ⟨o, h⟩) | h
  · exact .inl (.inl (e _ _ h))
  · exact .inl (.inr ⟨o, e _ _ h⟩)
  · exact .inr h
end L2
namespace L2
open PySem PySem.Spec PyProof.Rows
section
variable {κ : Type} [DecidableEq κ]
noncomputable def valV (kvs : List (κ × V)) (k : κ) : Option V := (kvs.find? fun kv => decide (kv.1 = k)).map (·.2)
noncomputable def putK (kvs : List (κ × V)) (k : κ) (v : V) : List (κ × V) :=
  if (kvs.any fun kv => decide (kv.1 = k)) = true then kvs.map (fun kv => if kv.1 = k then (kv.1, v) else kv) else kvs ++ [(k, v)]
noncomputable def dropK (kvs : List (κ × V)) (k : κ) : List (κ × V) := kvs.filter fun kv => decide (kv.1 ≠ k)
theorem valV_pos {p : κ × V} {r : List (κ × V)} {k : κ} (e : p.1 = k) : valV (p :: r) k = some p.2 := by simp [valV, List.find?_cons, e]
theorem valV_neg {p : κ × V} {r : List (κ × V)} {k : κ} (e : ¬ p.1 = k) : valV (p :: r) k = valV r k := by simp [valV, List.find?_cons, e]
theorem valV_any (k : κ) : ∀ kvs : List (κ × V), (kvs.any fun kv => decide (kv.1 = k)) = (valV kvs k).isSome
  | [] => rfl
  | p :: r => by
    rw [List.any_cons]
    by_cases e : p.1 = k
    · simp only [valV_pos e, decide_eq_true e, Bool.true_or, Option.isSome_some]
    · rw [valV_neg e, decide_eq_false e, Bool.false_or]; exact valV_any k r
theorem RelO.isSome_eq {o : Option V} {u : Option Value} (r : RelO o u) : o.isSome = u.isSome := by
  cases o with
  | none => cases u with
    | none => rfl
    | some _ => exact (show False from r).elim
  | some _ => cases u with
    | none => exact (show False from r).elim
    | some _ => rfl
theorem RelO.getD {o : Option V} {u : Option Value} {d : V} {d' : Value} (r : RelO o u) (rd : RelV d d') : RelV (o.getD d) (u.getD d') := by
  cases o with
  | none => cases u with
    | none => exact rd
    | some _ => exact (show False from r).elim
  | some _ => cases u with
    | none => exact (show False from r).elim
    | some _ => exact r
theorem KV.val {kvs : List (κ × V)} {vs : List (κ × Value)} (r : KV kvs vs) (k : κ) : RelO (valV kvs k) (valueAt vs k) := by
  unfold KV at r
  induction r with
  | nil => exact True.intro
  | @cons p q ps qs h t ih =>
    obtain ⟨h1, h2⟩ := h
    by_cases e : p.1 = k
    · have e' : q.1 = k := h1.symm.trans e
      have b : valueAt (q :: qs) k = some q.2 := by simp [valueAt, List.find?_cons, e']
      rw [valV_pos e, b]; exact h2
    · have e' : ¬ q.1 = k := fun z => e (h1.trans z)
      have b : valueAt (q :: qs) k = valueAt qs k := by simp [valueAt, List.find?_cons, e']
      rw [valV_neg e, b]; exact ih
theorem KV.any {kvs : List (κ × V)} {vs : List (κ × Value)} (r : KV kvs vs) (k : κ) : (kvs.any fun kv => decide (kv.1 = k)) = vs.any fun kv => decide (kv.1 = k) := by
  unfold KV at r
  induction r with
  | nil => rfl
  | cons h t ih => rw [List.any_cons, List.any_cons, ih, h.1]
theorem KV.repl {kvs : List (κ × V)} {vs : List (κ × Value)} (r : KV kvs vs) (k : κ) {y : V} {u : Value} (ry : RelV y u) :
    KV (kvs.map fun kv => if kv.1 = k then (kv.1, y) else kv) (vs.map fun kv => if kv.1 = k then (kv.1, u) else kv) := by
  unfold KV at r ⊢
  induction r with
  | nil => exact .nil
  | @cons p q ps qs h t ih =>
    rw [List.map_cons, List.map_cons]
    refine .cons ?_ ih
    obtain ⟨h1, h2⟩ := h
    by_cases e : p.1 = k
    · rw [if_pos e, if_pos (h1.symm.trans e)]; exact ⟨h1, ry⟩
    · rw [if_neg e, if_neg (fun z => e (h1.trans z))]; exact ⟨h1, h2⟩
theorem KV.put {kvs : List (κ × V)} {vs : List (κ × Value)} (r : KV kvs vs) (k : κ) {y : V} {u : Value} (ry : RelV y u) : KV (putK kvs k y) (stored vs k u) := by
  unfold putK stored
  rw [r.any k]
  by_cases e : (vs.any fun kv => decide (kv.1 = k)) = true
  · rw [if_pos e, if_pos e]; exact r.repl k ry
  · rw [if_neg e, if_neg e]; exact Paired.snoc r ⟨rfl, ry⟩
theorem KV.drop {kvs : List (κ × V)} {vs : List (κ × Value)} (r : KV kvs vs) (k : κ) : KV (dropK kvs k) (without vs k) := by
  unfold KV at r ⊢
  unfold dropK without
  induction r with
  | nil => exact .nil
  | @cons p q ps qs h t ih =>
    obtain ⟨h1, h2⟩ := h
    rw [List.filter_cons, List.filter_cons]
    by_cases e : p.1 = k
    · have a : ¬ decide (p.1 ≠ k) = true := by simp [e]
      have b : ¬ decide (q.1 ≠ k) = true := by simp [h1.symm.trans e]
      rw [if_neg a, if_neg b]; exact ih
    · have e' : ¬ q.1 = k := fun z => e (h1.trans z)
      have a : decide (p.1 ≠ k) = true := by simp [e]
      have b : decide (q.1 ≠ k) = true := by simp [e']
      rw [if_pos a, if_pos b]; exact .cons ⟨h1, h2⟩ ih
theorem KV.keys {kvs : List (κ × V)} {vs : List (κ × Value)} (r : KV kvs vs) : kvs.map (·.1) = vs.map (·.1) := by
  unfold KV at r
  induction r with
  | nil => rfl
  | cons h t ih => rw [List.map_cons, List.map_cons, ih, h.1]
theorem KV.length {kvs : List (κ × V)} {vs : List (κ × Value)} (r : KV kvs vs) : kvs.length = vs.length := Paired.length r
end
noncomputable abbrev KT (H : Hp) : List (List Key × V) → List (List Key × Addr × Value) → Prop := Paired fun p q => p.1 = q.1 ∧ H q.2.1 = some (.tup (p.1.map kV)) ∧ RelV p.2 q.2.2
theorem KT.val {H : Hp} {kvs : List (List Key × V)} {xs : List (List Key × Addr × Value)} (r : KT H kvs xs) (k : List Key) : RelO (valV kvs k) ((atKey xs k).map (·.2)) := by
  induction r with
  | nil => exact True.intro
  | @cons p q ps qs h t ih =>
    obtain ⟨h1, _, h2⟩ := h
    by_cases e : p.1 = k
    · have e' : q.1 = k := h1.symm.trans e
      have b : atKey (q :: qs) k = some q.2 := by simp [atKey, List.find?_cons, e']
      rw [valV_pos e, b]; exact h2
    · have e' : ¬ q.1 = k := fun z => e (h1.trans z)
      have b : atKey (q :: qs) k = atKey qs k := by simp [atKey, List.find?_cons, e']
      rw [valV_neg e, b]; exact ih
theorem KT.repl {H : Hp} {kvs : List (List Key × V)} {xs : List (List Key × Addr × Value)} (r : KT H kvs xs) (k : List Key) {y : V} {u : Value} (ry : RelV y u) :
    KT H (kvs.map fun kv => if kv.1 = k then (kv.1, y) else kv) (xs.map (putAt k u)) := by
  induction r with
  | nil => exact .nil
  | @cons p q ps qs h t ih =>
    rw [List.map_cons, List.map_cons]
    refine .cons ?_ ih
    obtain ⟨h1, h2, h3⟩ := h
    unfold putAt
    by_cases e : p.1 = k
    · rw [if_pos e, if_pos (h1.symm.trans e)]; exact ⟨h1, h2, ry⟩
    · rw [if_neg e, if_neg (fun z => e (h1.trans z))]; exact ⟨h1, h2, h3⟩
theorem KT.put {H : Hp} {kvs : List (List Key × V)} {xs : List (List Key × Addr × Value)} (r : KT H kvs xs) (k : List Key) {b : Addr} {y : V} {u : Value} (hb : H b = some (.tup (k.map kV))) (ry : RelV y u) :
    KT H (putK kvs k y) (storedH xs k b u) := by
  have e : (kvs.any fun kv => decide (kv.1 = k)) = (atKey xs k).isSome := by
    rw [valV_any, (r.val k).isSome_eq, Option.isSome_map]
  unfold putK storedH
  rw [e]
  by_cases q : (atKey xs k).isSome = true
  · rw [if_pos q, if_pos q]; exact r.repl k ry
  · rw [if_neg q, if_neg q]; exact Paired.snoc r ⟨rfl, hb, ry⟩
theorem KT.keeps {H H' : Hp} {kvs : List (List Key × V)} {xs : List (List Key × Addr × Value)} (r : KT H kvs xs) (ht : ∀ b ys, H b = some (.tup ys) → H' b = some (.tup ys)) : KT H' kvs xs :=
  Paired.mapP r fun _ _ z => ⟨z.1, ht _ _ z.2.1, z.2.2⟩
section
variable {P : Program} {w : World} {H : Hp} {h : Heap} {a : Addr}
end
noncomputable def DGet (H : Hp) (a : Addr) (y : V) (r : Option V) : Prop :=
  (∃ kvs k, Rd H a (.dK kvs) ∧ y = kV k ∧ r = valV kvs k) ∨ ∃ kvs k b, Rd H a (.dT kvs) ∧ y = .ref b ∧ H b = some (.tup (k.map kV)) ∧ r = valV kvs k
noncomputable def DPut (H : Hp) (a : Addr) (y v : V) (H' : Hp) : Prop :=
  (∃ kvs k, H a = some (.dK kvs) ∧ y = kV k ∧ kvs.length < sizeLine ∧ H' = upd H a (.dK (putK kvs k v))) ∨
  ∃ kvs k b, H a = some (.dT kvs) ∧ y = .ref b ∧ H b = some (.tup (k.map kV)) ∧ kvs.length < sizeLine ∧ H' = upd H a (.dT (putK kvs k v))
theorem DGet.k {H : Hp} {a : Addr} {kvs : List (Key × V)} {k : Key} (e : H a = some (.dK kvs)) : DGet H a (kV k) (valV kvs k) := .inl ⟨kvs, k, .inl e, rfl, rfl⟩
theorem DGet.t {H : Hp} {a b : Addr} {kvs : List (List Key × V)} {k : List Key} (e : H a = some (.dT kvs)) (eb : H b = some (.tup (k.map kV))) : DGet H a (.ref b) (valV kvs k) := .inr ⟨kvs, k, b, .inl e, rfl, eb, rfl⟩
theorem DPut.k {H : Hp} {a : Addr} {kvs : List (Key × V)} {k : Key} {v : V} (e : H a = some (.dK kvs)) (hl : kvs.length < sizeLine) : DPut H a (kV k) v (upd H a (.dK (putK kvs k v))) := .inl ⟨kvs, k, e, rfl, hl, rfl⟩
theorem DPut.t {H : Hp} {a b : Addr} {kvs : List (List Key × V)} {k : List Key} {v : V} (e : H a = some (.dT kvs)) (eb : H b = some (.tup (k.map kV))) (hl : kvs.length < sizeLine) :
    DPut H a (.ref b) v (upd H a (.dT (putK kvs k v))) := .inr ⟨kvs, k, b, e, rfl, eb, hl, rfl⟩
section
variable {X : Cx} {pins : List (Addr × Obj)} {σ : St} {H : Hp} {s : Shared} {a : Addr} {y v : V} {u r : Value} {o : Option V} {A : Around} {E : Value → Shared → Prop}
theorem Inv.big (I : Inv X pins σ H s) : sysModules < s.heap.objs.size := by
  have h : mainGlobals < s.heap.objs.size := (I.mod.glob.keeps I.bk).lt
  exact Nat.lt_trans (by decide) h
end
section
variable {X : Cx} {pins : List (Addr × Obj)} {σ : St} {H : Hp} {s : Shared} {a : Addr} {kvs : List (Key × V)} {k : Key} {u : Value} {A : Around} {E : Value → Shared → Prop}
end
noncomputable def NoSl (i : Expr) : Prop := ∀ ov iv, subscripted i false ov iv = operate [ov, iv] (getItem ov iv)
noncomputable def tDGet (td ty : TE) : TE := fun σ H Q => td σ H fun x H1 => ty σ H1 fun y H2 => ∃ a v, x = .ref a ∧ DGet H2 a y (some v) ∧ Q v H2
noncomputable def tDIn (ty td : TE) : TE := fun σ H Q => ty σ H fun y H1 => td σ H1 fun x H2 => ∃ a o, x = .ref a ∧ DGet H2 a y o ∧ Q (.bl o.isSome) H2
noncomputable def tDNotIn (ty td : TE) : TE := fun σ H Q => ty σ H fun y H1 => td σ H1 fun x H2 => ∃ a o, x = .ref a ∧ DGet H2 a y o ∧ Q (.bl (!o.isSome)) H2
noncomputable def sDPut (td ty tv : TE) : TS := fun D σ H => tv σ H fun v H1 => td σ H1 fun x H2 => ty σ H2 fun y H3 => ∃ a H4, x = .ref a ∧ DPut H3 a y v H4 ∧ D.nx σ H4
noncomputable def sDAug (td ty tv : TE) (rd : V → V → Hp → VK → Prop) : TS := fun D σ H => td σ H fun x H1 => ty σ H1 fun y H2 => ∃ a v, x = .ref a ∧ DGet H2 a y (some v) ∧
  tv σ H2 fun y2 H3 => rd v y2 H3 fun z H4 => ∃ H5, DPut H4 a y z H5 ∧ D.nx σ H5
noncomputable def sDDel (td ty : TE) : TS := fun D σ H => td σ H fun x H1 => ty σ H1 fun y H2 => ∃ a kvs k, x = .ref a ∧ H2 a = some (.dK kvs) ∧ y = kV k ∧ (valV kvs k).isSome = true ∧ D.nx σ (upd H2 a (.dK (dropK kvs k)))
section
variable {X : Cx} {o i e value : Expr} {pos pos' tpos : Pos} {td ty tv : TE}
end
noncomputable def tDNewK : TE := fun _ H Q => ∀ p, H p = none → Q (.ref p) (upd H p (.dK []))
noncomputable def tDNewT : TE := fun _ H Q => ∀ p, H p = none → Q (.ref p) (upd H p (.dT []))
section
variable {X : Cx} {pos : Pos}
end
end L2
set_option Elab.async false
set_option linter.all false
set_option maxRecDepth 100000
namespace SD
open PySem PySem.Spec PyProof.Rows L2
inductive D where
  | non | bl (b : Bool) | int (i : Int) | str (x : Str) | ty (n : String) | ref (a : Addr) | rol (ds : List D) | tup (ds : List D)
noncomputable def SqF (K : PySem.W.Frag) (H : Hp) (a : Addr) (xs : List V) : Prop :=
  (∃ o, H a = some (.frz o (.lst xs))) ∨
    ∃ (o : Obj) (its : Array Value) (n : Nat), K.lookup a = some o ∧ o.cls = .type "list" ∧ o.dict = none ∧ o.data = .seq its n ∧ its.size ≤ sizeLine ∧ Vals xs its.toList
theorem SqF.sql {K : PySem.W.Frag} {H : Hp} {a : Addr} {xs : List V} (h : SqF K H a xs) : SqL K H a xs := by
  rcases h with h | h
  · exact .inl (.inr h)
  · exact .inr h
mutual
noncomputable def Rep (K : PySem.W.Frag) (H : Hp) : D → V → Prop
  | .non, v => v = .non
  | .bl b, v => v = .bl b
  | .int i, v => v = .int i
  | .str x, v => v = .str x
  | .ty n, v => v = .ty n
  | .ref a, v => v = .ref a
  | .rol ds, v => ∃ a xs, v = .ref a ∧ SqF K H a xs ∧ Reps K H ds xs
  | .tup ds, v => ∃ a xs, v = .ref a ∧ SqT K H a xs ∧ Reps K H ds xs
noncomputable def Reps (K : PySem.W.Frag) (H : Hp) : List D → List V → Prop
  | [], xs => xs = []
  | d :: ds, xs => ∃ x r, xs = x :: r ∧ Rep K H d x ∧ Reps K H ds r
end
structure Grow (K : PySem.W.Frag) (H H' : Hp) : Prop where
  t : ∀ a xs, SqT K H a xs → SqT K H' a xs
  f : ∀ a xs, SqF K H a xs → SqF K H' a xs
theorem Grow.refl {K : PySem.W.Frag} {H : Hp} : Grow K H H := ⟨fun _ _ h => h, fun _ _ h => h⟩
theorem Grow.trans {K : PySem.W.Frag} {H H1 H2 : Hp} (a : Grow K H H1) (b : Grow K H1 H2) : Grow K H H2 := ⟨fun x y h => b.t x y (a.t x y h), fun x y h => b.f x y (a.f x y h)⟩
theorem Grow.put {K : PySem.W.Frag} {H : Hp} {p : Addr} {o : HO} (h1 : ∀ xs, H p ≠ some (.tup xs)) (h2 : ∀ u xs, H p ≠ some (.frz u xs)) : Grow K H (upd H p o) := by
  refine ⟨fun a xs h => ?_, fun a xs h => ?_⟩
  · rcases h with (h | ⟨u, h⟩) | h
    · exact .inl (.inl (by rw [upd_ne (by intro e; subst e; exact h1 _ h)]; exact h))
    · exact .inl (.inr ⟨u, by rw [upd_ne (by intro e; subst e; exact h2 _ _ h)]; exact h⟩)
    · exact .inr h
  · rcases h with ⟨u, h⟩ | h
    · exact .inl ⟨u, by rw [upd_ne (by intro e; subst e; exact h2 _ _ h)]; exact h⟩
    · exact .inr h
theorem Grow.new {K : PySem.W.Frag} {H : Hp} {p : Addr} {o : HO} (h : H p = none) : Grow K H (upd H p o) :=
  .put (fun xs e => by rw [h] at e; cases e) (fun u xs e => by rw [h] at e; cases e)
theorem Grow.lst {K : PySem.W.Frag} {H : Hp} {p : Addr} {o : HO} {xs : List V} (h : H p = some (.lst xs)) : Grow K H (upd H p o) :=
  .put (fun ys e => by rw [h] at e; cases e) (fun u ys e => by rw [h] at e; cases e)
mutual
theorem Rep.mono {K : PySem.W.Frag} {H H' : Hp} (g : Grow K H H') : ∀ {d : D} {v : V}, Rep K H d v → Rep K H' d v
  | .non, _, h => h
  | .bl _, _, h => h
  | .int _, _, h => h
  | .str _, _, h => h
  | .ty _, _, h => h
  | .ref _, _, h => h
  | .rol ds, _, h => by
    rw [Rep] at h ⊢
    obtain ⟨a, xs, e, h1, h2⟩ := h
    exact ⟨a, xs, e, g.f _ _ h1, Reps.mono g h2⟩
  | .tup ds, _, h => by
    rw [Rep] at h ⊢
    obtain ⟨a, xs, e, h1, h2⟩ := h
    exact ⟨a, xs, e, g.t _ _ h1, Reps.mono g h2⟩
theorem Reps.mono {K : PySem.W.Frag} {H H' : Hp} (g : Grow K H H') : ∀ {ds : List D} {xs : List V}, Reps K H ds xs → Reps K H' ds xs
  | [], _, h => h
  | d :: ds, _, h => by
    rw [Reps] at h ⊢
    obtain ⟨x, r, e, h1, h2⟩ := h
    exact ⟨x, r, e, Rep.mono g h1, Reps.mono g h2⟩
end
section
variable {K : PySem.W.Frag} {H H' : Hp}
theorem Reps.nil : Reps K H [] [] := by rw [Reps]
theorem Reps.cons {d : D} {ds : List D} {x : V} {r : List V} (a : Rep K H d x) (b : Reps K H ds r) : Reps K H (d :: ds) (x :: r) := by rw [Reps]; exact ⟨x, r, rfl, a, b⟩
theorem Reps.length : ∀ {ds : List D} {xs : List V}, Reps K H ds xs → ds.length = xs.length
  | [], xs, h => by rw [Reps] at h; subst h; rfl
  | d :: ds, xs, h => by
    rw [Reps] at h
    obtain ⟨x, r, rfl, _, h2⟩ := h
    simp [Reps.length h2]
theorem Reps.get : ∀ {ds : List D} {xs : List V} {i : Nat} {d : D}, Reps K H ds xs → ds[i]? = some d → ∃ x, xs[i]? = some x ∧ Rep K H d x
  | [], _, _, _, _, e => by simp at e
  | _ :: _, xs, 0, _, h, e => by
    rw [Reps] at h
    obtain ⟨x, r, rfl, h1, _⟩ := h
    simp at e; subst e
    exact ⟨x, rfl, h1⟩
  | _ :: ds, xs, i + 1, d, h, e => by
    rw [Reps] at h
    obtain ⟨x, r, rfl, _, h2⟩ := h
    simpa using Reps.get (i := i) (d := d) h2 (by simpa using e)
theorem Reps.set {d : D} {x : V} (a : Rep K H d x) : ∀ {ds : List D} {xs : List V} (i : Nat), Reps K H ds xs → Reps K H (ds.set i d) (xs.set i x)
  | [], _, _, h => by rw [Reps] at h; subst h; simp [Reps.nil]
  | _ :: _, _, 0, h => by
    rw [Reps] at h
    obtain ⟨y, r, rfl, _, h2⟩ := h
    exact .cons a h2
  | _ :: ds, _, i + 1, h => by
    rw [Reps] at h
    obtain ⟨y, r, rfl, h1, h2⟩ := h
    exact .cons h1 (Reps.set a i h2)
theorem Reps.append : ∀ {ds es : List D} {xs ys : List V}, Reps K H ds xs → Reps K H es ys → Reps K H (ds ++ es) (xs ++ ys)
  | [], _, _, _, h, k => by rw [Reps] at h; subst h; exact k
  | _ :: ds, _, _, _, h, k => by
    rw [Reps] at h
    obtain ⟨y, r, rfl, h1, h2⟩ := h
    exact .cons h1 (Reps.append h2 k)
theorem Reps.of_get : ∀ {ds : List D} {xs : List V}, ds.length = xs.length → (∀ (i : Nat) d x, ds[i]? = some d → xs[i]? = some x → Rep K H d x) → Reps K H ds xs
  | [], [], _, _ => .nil
  | [], _ :: _, h, _ => by simp at h
  | _ :: _, [], h, _ => by simp at h
  | d :: ds, x :: xs, h, k => .cons (k 0 d x rfl rfl) (Reps.of_get (by simpa using h) fun i d x a b => k (i + 1) d x (by simpa using a) (by simpa using b))
theorem Reps.take {ds : List D} {xs : List V} (n : Nat) (h : Reps K H ds xs) : Reps K H (ds.take n) (xs.take n) := by
  refine .of_get (by simp [h.length]) fun i d x a b => ?_
  have hi : i < n := by
    rw [List.getElem?_take] at a
    split at a
    · assumption
    · cases a
  rw [List.getElem?_take_of_lt hi] at a b
  obtain ⟨y, e, r⟩ := h.get a
  rw [e] at b; cases b
  exact r
theorem Reps.drop {ds : List D} {xs : List V} (n : Nat) (h : Reps K H ds xs) : Reps K H (ds.drop n) (xs.drop n) := by
  refine .of_get (by simp [h.length]) fun i d x a b => ?_
  rw [List.getElem?_drop] at a b
  obtain ⟨y, e, r⟩ := h.get a
  rw [e] at b; cases b
  exact r
theorem reps_ints : ∀ (ns : List Int), Reps K H (ns.map D.int) (ns.map V.int)
  | [] => .nil
  | n :: ns => .cons (by rw [Rep]) (reps_ints ns)
end
noncomputable def errF (a C : Addr) : Heap → Prop := fun h => ∃ o, h.get? a = some o ∧ o.cls = .ref C
inductive MO where
  | lst (ds : List D) | err (C : Addr)
  | dct (n : Nat) (P : List Int → Bool)
  | gen (A : PySem.W.Frag → Hp → Addr → Prop)
noncomputable abbrev MH := Addr → Option MO
noncomputable def AbsO (K : PySem.W.Frag) (H : Hp) (a : Addr) : MO → Prop
  | .lst ds => ∃ xs, H a = some (.lst xs) ∧ Reps K H ds xs
  | .err C => H a = some (.ext (errF a C))
  | .dct n P => ∃ kvs : List (List Key × V), H a = some (.dT kvs) ∧ kvs.length ≤ n ∧ ∀ k : List Int, (kvs.any fun kv => decide (kv.1 = k.map Sum.inl)) = P k
  | .gen A => A K H a ∧ H a ≠ none ∧ ∀ H', Grow K H H' → H' a = H a → A K H' a
noncomputable def Abs (K : PySem.W.Frag) (H : Hp) (M : MH) : Prop := ∀ a o, M a = some o → AbsO K H a o
noncomputable def updM (M : MH) (a : Addr) (o : MO) : MH := fun b => if b = a then some o else M b
theorem updM_same {M : MH} {a : Addr} {o : MO} : updM M a o a = some o := by unfold updM; rw [if_pos rfl]
theorem updM_ne {M : MH} {a b : Addr} {o : MO} (h : b ≠ a) : updM M a o b = M b := by unfold updM; rw [if_neg h]
theorem updM_updM {M : MH} {a : Addr} {o u : MO} : updM (updM M a o) a u = updM M a u := by
  funext b; unfold updM; split <;> rfl
section
variable {K : PySem.W.Frag} {H H' : Hp} {M : MH}
theorem AbsO.some {a : Addr} {o : MO} (h : AbsO K H a o) : H a ≠ none := by
  cases o with
  | lst ds =>
    obtain ⟨xs, h1, _⟩ := h
    rw [h1]; simp
  | err C => rw [show H a = _ from h]; simp
  | dct n P =>
    obtain ⟨kvs, h1, _⟩ := h
    rw [h1]; simp
  | gen A => exact h.2.1
theorem Abs.fresh (h : Abs K H M) {p : Addr} (hp : H p = none) : M p = none := by
  cases e : M p with
  | none => rfl
  | some o => exact absurd hp (h p o e).some
theorem AbsO.stay {a : Addr} {o : MO} (g : Grow K H H') (e : H' a = H a) (h : AbsO K H a o) : AbsO K H' a o := by
  cases o with
  | lst ds =>
    obtain ⟨xs, h1, h2⟩ := h
    exact ⟨xs, e.trans h1, h2.mono g⟩
  | err C => exact e.trans h
  | dct n P =>
    obtain ⟨kvs, h1, h2⟩ := h
    exact ⟨kvs, e.trans h1, h2⟩
  | gen A => exact ⟨h.2.2 H' g e, fun z => h.2.1 (by rw [← e]; exact z), fun H2 g2 e2 => h.2.2 H2 (g.trans g2) (e2.trans e)⟩
theorem Abs.new {p : Addr} {o : HO} (h : Abs K H M) (hp : H p = none) : Abs K (upd H p o) M := fun a u e => by
  have ne : a ≠ p := fun z => by subst z; rw [h.fresh hp] at e; cases e
  exact (h a u e).stay (.new hp) (upd_ne ne)
theorem Abs.newL {p : Addr} {xs : List V} {ds : List D} (h : Abs K H M) (hp : H p = none) (r : Reps K H ds xs) : Abs K (upd H p (.lst xs)) (updM M p (.lst ds)) := fun a u e => by
  by_cases ne : a = p
  · subst ne
    rw [updM_same] at e; cases e
    exact ⟨xs, upd_same, r.mono (.new hp)⟩
  · rw [updM_ne ne] at e
    exact (h a u e).stay (.new hp) (upd_ne ne)
theorem Abs.setL {p : Addr} {xs ys : List V} {ds : List D} (h : Abs K H M) (hp : H p = some (.lst xs)) (r : Reps K H ds ys) : Abs K (upd H p (.lst ys)) (updM M p (.lst ds)) := fun a u e => by
  by_cases ne : a = p
  · subst ne
    rw [updM_same] at e; cases e
    exact ⟨ys, upd_same, r.mono (.lst hp)⟩
  · rw [updM_ne ne] at e
    exact (h a u e).stay (.lst hp) (upd_ne ne)
theorem Abs.sub {M' : MH} (h : Abs K H M) (s : ∀ a o, M' a = some o → M a = some o) : Abs K H M' := fun a o e => h a o (s a o e)
end
noncomputable abbrev DS := List (Option D)
structure Slots (K : PySem.W.Frag) (H : Hp) (δ : DS) (σ : L2.St) : Prop where
  len : δ.length = σ.length
  at' : ∀ (i : Nat) d, δ[i]? = some (some d) → ∃ v, σ[i]? = some (some v) ∧ Rep K H d v
section
variable {K : PySem.W.Frag} {H H' : Hp} {δ : DS} {σ : L2.St}
theorem Slots.mono (g : Grow K H H') (h : Slots K H δ σ) : Slots K H' δ σ := ⟨h.len, fun i d e => let ⟨v, a, b⟩ := h.at' i d e; ⟨v, a, b.mono g⟩⟩
theorem Slots.set {d : D} {v : V} (r : Rep K H d v) (i : Nat) (h : Slots K H δ σ) : Slots K H (δ.set i (some d)) (σ.set i (some v)) := by
  refine ⟨by simp [h.len], fun j e q => ?_⟩
  rw [List.getElem?_set] at q
  by_cases hij : i = j
  · subst hij
    rw [if_pos rfl] at q
    by_cases hl : i < δ.length
    · rw [if_pos hl] at q
      cases q
      exact ⟨v, by rw [List.getElem?_set, if_pos rfl, if_pos (by rw [← h.len]; exact hl)], r⟩
    · rw [if_neg hl] at q; cases q
  · rw [if_neg hij] at q
    obtain ⟨v', e1, e2⟩ := h.at' j e q
    exact ⟨v', by rw [List.getElem?_set, if_neg hij]; exact e1, e2⟩
theorem slots_start {N : List Str} {ds : List D} {vs : List V} (r : Reps K H ds vs) : Slots K H (ds.map some ++ List.replicate (N.length - ds.length) none) (L2.start N vs) := by
  have hl := r.length
  refine ⟨by unfold L2.start; simp [hl], fun i d e => ?_⟩
  unfold L2.start
  by_cases hi : i < ds.length
  · rw [List.getElem?_append_left (by simpa using hi), List.getElem?_map] at e
    cases q : ds[i]? with
    | none => rw [q] at e; cases e
    | some d' =>
      rw [q] at e; cases e
      obtain ⟨x, e1, e2⟩ := r.get q
      refine ⟨x, ?_, e2⟩
      rw [List.getElem?_append_left (by simp; omega), List.getElem?_map, e1]; rfl
  · rw [List.getElem?_append_right (by simpa using hi), List.getElem?_replicate] at e
    split at e <;> cases e
end
noncomputable abbrev DK := D → MH → Prop
noncomputable abbrev TD := DS → MH → DK → Prop
noncomputable abbrev TTD := DS → MH → (Bool → MH → Prop) → Prop
noncomputable abbrev TAD := DS → MH → (List D → MH → Prop) → Prop
structure EndsD where
  nx : DS → MH → Prop
  rt : DK
  bk : DS → MH → Prop := fun _ _ => False
  ct : DS → MH → Prop := fun _ _ => False
noncomputable abbrev TSD := EndsD → DS → MH → Prop
section
variable (K : PySem.W.Frag)
noncomputable def Fin (H : Hp) (R : DK) (Q : VK) : Prop := ∀ d M' v H', Grow K H H' → Rep K H' d v → Abs K H' M' → R d M' → Q v H'
noncomputable def FinT (H : Hp) (R : Bool → MH → Prop) (Q : Bool → Hp → Prop) : Prop := ∀ b M' H', Grow K H H' → Abs K H' M' → R b M' → Q b H'
noncomputable def FinA (H : Hp) (R : List D → MH → Prop) (Q : List V → Hp → Prop) : Prop := ∀ ds M' vs H', Grow K H H' → Reps K H' ds vs → Abs K H' M' → R ds M' → Q vs H'
noncomputable def lift (t : TD) : TE := fun σ H Q => ∃ δ M R, Slots K H δ σ ∧ Abs K H M ∧ t δ M R ∧ Fin K H R Q
noncomputable def liftT (t : TTD) : TT := fun σ H Q => ∃ δ M R, Slots K H δ σ ∧ Abs K H M ∧ t δ M R ∧ FinT K H R Q
noncomputable def liftA (t : TAD) : TA := fun σ H Q => ∃ δ M R, Slots K H δ σ ∧ Abs K H M ∧ t δ M R ∧ FinA K H R Q
structure EndsOk (H : Hp) (B : EndsD) (E : Ends) : Prop where
  nx : ∀ δ M σ H', Grow K H H' → Slots K H' δ σ → Abs K H' M → B.nx δ M → E.nx σ H'
  rt : ∀ d M v H', Grow K H H' → Rep K H' d v → Abs K H' M → B.rt d M → E.rt v H'
  bk : ∀ δ M σ H', Grow K H H' → Slots K H' δ σ → Abs K H' M → B.bk δ M → E.bk σ H'
  ct : ∀ δ M σ H', Grow K H H' → Slots K H' δ σ → Abs K H' M → B.ct δ M → E.ct σ H'
noncomputable def liftS (t : TSD) : TS := fun E σ H => ∃ δ M, Slots K H δ σ ∧ Abs K H M ∧ ∃ B, EndsOk K H B E ∧ t B δ M
end
noncomputable def DE (X : Cx) (e : Expr) (t : TD) : Prop := PE X e (lift X.K t)
noncomputable def DT (X : Cx) (e : Expr) (t : TTD) : Prop := PT X e (liftT X.K t)
noncomputable def DW (X : Cx) (e : Expr) (t : TTD) : Prop := PW X e (liftT X.K t)
noncomputable def DA (X : Cx) (es : List Expr) (t : TAD) : Prop := PA X es (liftA X.K t)
noncomputable def DSt (X : Cx) (st : Stmt) (t : TSD) : Prop := PS X st (liftS X.K t)
noncomputable def DSs (X : Cx) (st : List Stmt) (t : TSD) : Prop := PSs X st (liftS X.K t)
theorem pe_imp {X : Cx} {e : Expr} {t t' : TE} (h : PE X e t) (k : ∀ σ H Q, t' σ H Q → t σ H Q) : PE X e t' := fun pins s σ H Q I q => h pins s σ H Q I (k σ H Q q)
theorem pt_imp {X : Cx} {e : Expr} {t t' : TT} (h : PT X e t) (k : ∀ σ H Q, t' σ H Q → t σ H Q) : PT X e t' := fun pins s σ H Q I q => h pins s σ H Q I (k σ H Q q)
theorem pw_imp {X : Cx} {e : Expr} {t t' : TT} (h : PW X e t) (k : ∀ σ H Q, t' σ H Q → t σ H Q) : PW X e t' := fun wh pins s σ H Q I q => h wh pins s σ H Q I (k σ H Q q)
theorem pa_imp {X : Cx} {e : List Expr} {t t' : TA} (h : PA X e t) (k : ∀ σ H Q, t' σ H Q → t σ H Q) : PA X e t' := fun pos pins s σ H Q I q => h pos pins s σ H Q I (k σ H Q q)
theorem ps_imp {X : Cx} {e : Stmt} {t t' : TS} (h : PS X e t) (k : ∀ D σ H, t' D σ H → t D σ H) : PS X e t' := fun pins s σ H D I q => h pins s σ H D I (k D σ H q)
theorem pss_imp {X : Cx} {e : List Stmt} {t t' : TS} (h : PSs X e t) (k : ∀ D σ H, t' D σ H → t D σ H) : PSs X e t' := fun pins s σ H D I q => h pins s σ H D I (k D σ H q)
end SD
set_option Elab.async false
set_option linter.all false
set_option maxRecDepth 100000
namespace SD
open PySem PySem.Spec PyProof.Rows L2
section
variable {K : PySem.W.Frag} {H H1 H' : Hp}
theorem Fin.go {R : DK} {Q : VK} (g : Grow K H H1) (h : Fin K H R Q) : Fin K H1 R Q := fun d M v H' g' => h d M v H' (g.trans g')
theorem FinT.go {R : Bool → MH → Prop} {Q : Bool → Hp → Prop} (g : Grow K H H1) (h : FinT K H R Q) : FinT K H1 R Q := fun b M H' g' => h b M H' (g.trans g')
theorem FinA.go {R : List D → MH → Prop} {Q : List V → Hp → Prop} (g : Grow K H H1) (h : FinA K H R Q) : FinA K H1 R Q := fun d M v H' g' => h d M v H' (g.trans g')
theorem EndsOk.go {B : EndsD} {E : Ends} (g : Grow K H H1) (h : EndsOk K H B E) : EndsOk K H1 B E :=
  ⟨fun d M v H' g' => h.nx d M v H' (g.trans g'), fun d M v H' g' => h.rt d M v H' (g.trans g'), fun d M v H' g' => h.bk d M v H' (g.trans g'), fun d M v H' g' => h.ct d M v H' (g.trans g')⟩
end
section
variable {X : Cx}
inductive tVarD (i : Nat) (δ : DS) (M : MH) (Q : DK) : Prop
  | mk (d : D) (h : δ[i]? = some (some d)) (q : Q d M) : tVarD i δ M Q
noncomputable def tCD (d : D) : TD := fun _ M Q => Q d M
theorem dv (i : Nat) {x : Str} {pos : Pos} (hN : X.N[i]? = some x := by rfl) (hv : Vis X.env.scope x := by first | exact Or.inl rfl | exact Or.inr (Or.inl rfl) | exact Or.inr (Or.inr rfl)) (hd : (x == ("__debug__" : Str)) = false := by decide)
    (hcd : (x == ("__classdict__" : Str)) = false := by decide) : DE X (.Name x pos) (tVarD i) :=
  pe_imp (pe_var hN hv hd hcd) fun σ H Q z9 => by
    obtain ⟨δ, M, R, hs, hM, ⟨d, e, r⟩, fin⟩ := z9
    obtain ⟨v, e1, e2⟩ := hs.at' i d e
    exact ⟨v, e1, fin d M v H .refl e2 hM r⟩
theorem dc {e : Expr} {v : V} {d : D} (h : PE X e (tC v)) (r : ∀ H, Rep X.K H d v) : DE X e (tCD d) :=
  pe_imp h fun σ H Q ⟨δ, M, R, hs, hM, q, fin⟩ => fin d M v H .refl (r H) hM q
theorem de_int {i j pos} : DE X (.Constant (.int i) j pos) (tCD (.int i)) := dc pe_int fun _ => by rw [Rep]
theorem de_bl {i j pos} : DE X (.Constant (.bool i) j pos) (tCD (.bl i)) := dc pe_bl fun _ => by rw [Rep]
end
noncomputable abbrev R2D := D → D → MH → DK → Prop
noncomputable def liftR2 (K : PySem.W.Frag) (r : R2D) : R2 := fun v u H Q => ∃ x y M R, Rep K H x v ∧ Rep K H y u ∧ Abs K H M ∧ r x y M R ∧ Fin K H R Q
noncomputable def OpD (X : Cx) (f : Value → Value → Sem Value) (r : R2D) : Prop := OpR X f (liftR2 X.K r)
noncomputable def tOpD (r : R2D) (ta tb : TD) : TD := fun δ M Q => ta δ M fun x M1 => tb δ M1 fun y M2 => r x y M2 Q
theorem op_imp {X : Cx} {f : Value → Value → Sem Value} {r r' : R2} (h : OpR X f r) (k : ∀ x y H Q, r' x y H Q → r x y H Q) : OpR X f r' := fun pins s σ H x y v u Q I a b q => h pins s σ H x y v u Q I a b (k _ _ _ _ q)
theorem lift_op {K : PySem.W.Frag} {r : R2D} {ta tb : TD} {σ : L2.St} {H : Hp} {Q : VK} (h : lift K (tOpD r ta tb) σ H Q) : tOp (liftR2 K r) (lift K ta) (lift K tb) σ H Q := by
  obtain ⟨δ, M, R, hs, hM, q, fin⟩ := h
  refine ⟨δ, M, _, hs, hM, q, fun x M1 v H1 g1 r1 a1 q1 => ?_⟩
  exact ⟨δ, M1, _, hs.mono g1, a1, q1, fun y M2 u H2 g2 r2 a2 q2 => ⟨x, y, M2, R, r1.mono g2, r2, a2, q2, fin.go (g1.trans g2)⟩⟩
section
variable {X : Cx} {a b : Expr} {ta tb : TD} {pos : Pos}
theorem de_op {op : Operator} {r : R2D} (ho : OpD X (binaryOp op) r) (ha : DE X a ta) (hb : DE X b tb) : DE X (.BinOp a op b pos) (tOpD r ta tb) := pe_imp (pe_op ho ha hb) fun _ _ _ h => lift_op h
theorem de_cmp {op : CmpOp} {r : R2D} (ho : OpD X (compareOp op) r) (ha : DE X a ta) (hb : DE X b tb) (hm : behindInMarks op b = false := by exact nomark _) : DE X (.Compare a [op] [b] pos) (tOpD r ta tb) := pe_imp (pe_cmpR ho ha hb hm) fun _ _ _ h => lift_op h
inductive IsBl (x : D) (M : MH) (Q : Bool → MH → Prop) : Prop
  | mk (c : Bool) (h : x = .bl c) (q : Q c M) : IsBl x M Q
noncomputable def tBD (t : TD) : TTD := fun δ M Q => t δ M fun x M1 => IsBl x M1 Q
theorem lift_test {K : PySem.W.Frag} {t : TD} {t' : TE} (ht : ∀ σ H Q, lift K t σ H Q → t' σ H Q) {σ : L2.St} {H : Hp} {Q : Bool → Hp → Prop} (h : liftT K (tBD t) σ H Q) : tTest t' σ H Q := by
  obtain ⟨δ, M, R, hs, hM, q, fin⟩ := h
  refine ht _ _ _ ⟨δ, M, _, hs, hM, q, fun x M1 v H1 g1 r1 a1 ⟨c, e, q1⟩ => ?_⟩
  subst e
  rw [Rep] at r1
  exact ⟨c, r1, fin c M1 H1 g1 a1 q1⟩
theorem dt_cmp {op : CmpOp} {r : R2D} (ho : OpD X (compareOp op) r) (ha : DE X a ta) (hb : DE X b tb) (hm : behindInMarks op b = false := by exact nomark _) : DT X (.Compare a [op] [b] pos) (tBD (tOpD r ta tb)) :=
  pt_imp (pt_cmpR ho ha hb hm) fun _ _ _ h => lift_test (fun _ _ _ h => lift_op h) h
theorem dt_val {e : Expr} {t : TD} (h : DE X e t) (he : ∀ whole, isTrue e X.env whole = (do let v ← whole; standAt e.pos; holding [v] (truthy v)) := by intro _; rfl) : DT X e (tBD t) :=
  pt_imp (pt_val h he) fun _ _ _ h => lift_test (t' := lift X.K t) (fun _ _ _ h => h) h
end
section
variable {X : Cx} {a b c : Expr} {ta tb : TD} {tA tB' : TTD} {rest : List Expr} {pos : Pos}
noncomputable def tAndD (t u : TTD) : TTD := fun δ M Q => t δ M fun c M1 => if c = true then u δ M1 Q else Q false M1
noncomputable def tOrD (t u : TTD) : TTD := fun δ M Q => t δ M fun c M1 => if c = true then Q true M1 else u δ M1 Q
noncomputable def tNotD (t : TTD) : TTD := fun δ M Q => t δ M fun c M1 => Q (!c) M1
theorem dw_and1 (ha : DT X a tA) : DW X (.BoolOp .And [a] pos) tA := pw_and1 ha
theorem dw_or1 (ha : DT X a tA) : DW X (.BoolOp .Or [a] pos) tA := pw_or1 ha
theorem dw_and (ha : DT X a tA) (hb : DW X (.BoolOp .And (b :: rest) pos) tB') : DW X (.BoolOp .And (a :: b :: rest) pos) (tAndD tA tB') :=
  pw_imp (pw_and ha hb) fun σ H Q ⟨δ, M, R, hs, hM, q, fin⟩ => ⟨δ, M, _, hs, hM, q, fun c M1 H1 g1 a1 q1 => by
    cases c with
    | true => rw [if_pos rfl] at q1 ⊢; exact ⟨δ, M1, R, hs.mono g1, a1, q1, fin.go g1⟩
    | false => rw [if_neg Bool.false_ne_true] at q1 ⊢; exact fin _ _ _ g1 a1 q1⟩
theorem dw_or (ha : DT X a tA) (hb : DW X (.BoolOp .Or (b :: rest) pos) tB') : DW X (.BoolOp .Or (a :: b :: rest) pos) (tOrD tA tB') :=
  pw_imp (pw_or ha hb) fun σ H Q ⟨δ, M, R, hs, hM, q, fin⟩ => ⟨δ, M, _, hs, hM, q, fun c M1 H1 g1 a1 q1 => by
    cases c with
    | true => rw [if_pos rfl] at q1 ⊢; exact fin _ _ _ g1 a1 q1
    | false => rw [if_neg Bool.false_ne_true] at q1 ⊢; exact ⟨δ, M1, R, hs.mono g1, a1, q1, fin.go g1⟩⟩
theorem dt_w {e : Expr} {t : TTD} (h : DW X e t) : DT X e t := PW.pt h
theorem dt_not (ha : DT X a tA) : DT X (.UnaryOp .Not a pos) (tNotD tA) :=
  pt_imp (pt_not ha) fun σ H Q ⟨δ, M, R, hs, hM, q, fin⟩ => ⟨δ, M, _, hs, hM, q, fun c M1 H1 g1 a1 q1 => fin _ _ _ g1 a1 q1⟩
noncomputable def tAndVD (ta tb : TD) : TD := fun δ M Q => ta δ M fun x M1 => IsBl x M1 fun c M1 => if c = true then tb δ M1 Q else Q (.bl false) M1
noncomputable def tOrVD (ta tb : TD) : TD := fun δ M Q => ta δ M fun x M1 => IsBl x M1 fun c M1 => if c = true then Q (.bl true) M1 else tb δ M1 Q
noncomputable def tNotVD (ta : TD) : TD := fun δ M Q => ta δ M fun x M1 => IsBl x M1 fun c M1 => Q (.bl (!c)) M1
theorem de_one {op} {t : TD} (h : DE X a t) : DE X (.BoolOp op [a] pos) t := pe_one h
theorem de_and (ha : DE X a ta) (hb : DE X (.BoolOp .And (b :: rest) pos) tb) : DE X (.BoolOp .And (a :: b :: rest) pos) (tAndVD ta tb) :=
  pe_imp (pe_and ha hb) fun σ H Q ⟨δ, M, R, hs, hM, q, fin⟩ => ⟨δ, M, _, hs, hM, q, fun x M1 v H1 g1 r1 a1 z9 => by
    obtain ⟨c, e, q1⟩ := z9
    subst e
    rw [Rep] at r1
    refine ⟨c, r1, ?_⟩
    cases c with
    | true => rw [if_pos rfl] at q1 ⊢; exact ⟨δ, M1, R, hs.mono g1, a1, q1, fin.go g1⟩
    | false => rw [if_neg Bool.false_ne_true] at q1 ⊢; exact fin _ _ _ _ g1 (by rw [Rep]) a1 q1⟩
theorem de_not (ha : DE X a ta) : DE X (.UnaryOp .Not a pos) (tNotVD ta) :=
  pe_imp (pe_not ha) fun σ H Q ⟨δ, M, R, hs, hM, q, fin⟩ => ⟨δ, M, _, hs, hM, q, fun x M1 v H1 g1 r1 a1 z9 => by
    obtain ⟨c, e, q1⟩ := z9
    subst e
    rw [Rep] at r1
    exact ⟨c, r1, fin _ _ _ _ g1 (by rw [Rep]) a1 q1⟩⟩
noncomputable def tIfD (t : TTD) (ta tb : TD) : TD := fun δ M Q => t δ M fun c M1 => if c = true then ta δ M1 Q else tb δ M1 Q
end
noncomputable def tUnD (r : D → MH → DK → Prop) (ta : TD) : TD := fun δ M Q => ta δ M fun x M1 => r x M1 Q
noncomputable def liftU (K : PySem.W.Frag) (r : D → MH → DK → Prop) : V → Hp → VK → Prop := fun v H Q => ∃ x M R, Rep K H x v ∧ Abs K H M ∧ r x M R ∧ Fin K H R Q
theorem de_un {X : Cx} {a : Expr} {ta : TD} {pos : Pos} {op : UnaryOp} {r : D → MH → DK → Prop} (ho : UnR X (unaryOp op) (liftU X.K r)) (ha : DE X a ta) : DE X (.UnaryOp op a pos) (tUnD r ta) :=
  pe_imp (pe_un ho ha) fun σ H Q ⟨δ, M, R, hs, hM, q, fin⟩ => ⟨δ, M, _, hs, hM, q, fun x M1 v H1 g1 r1 a1 q1 => ⟨x, M1, R, r1, a1, q1, fin.go g1⟩⟩
noncomputable def tNilD : TAD := fun _ M Q => Q [] M
noncomputable def tConsD (ta : TD) (tr : TAD) : TAD := fun δ M Q => ta δ M fun x M1 => tr δ M1 fun xs M2 => Q (x :: xs) M2
section
variable {X : Cx} {e : Expr} {es : List Expr} {te : TD} {t : TAD} {pos : Pos}
theorem da_nil : DA X [] tNilD := pa_imp pa_nil fun σ H Q ⟨δ, M, R, hs, hM, q, fin⟩ => fin _ _ _ _ .refl .nil hM q
theorem da_cons (ha : DE X e te) (hr : DA X es t) (hs : starEach (e :: es) X.env = (false, eval e X.env) :: starEach es X.env := by rfl) : DA X (e :: es) (tConsD te t) :=
  pa_imp (pa_cons ha hr hs) fun σ H Q ⟨δ, M, R, hs, hM, q, fin⟩ => ⟨δ, M, _, hs, hM, q, fun x M1 v H1 g1 r1 a1 q1 =>
    ⟨δ, M1, _, hs.mono g1, a1, q1, fun xs M2 vs H2 g2 r2 a2 q2 => fin _ _ _ _ (g1.trans g2) (.cons (r1.mono g2) r2) a2 q2⟩⟩
noncomputable def tTupD (t : TAD) : TD := fun δ M Q => t δ M fun xs M1 => xs.length ≤ sizeLine ∧ Q (.tup xs) M1
noncomputable def tLstD (t : TAD) : TD := fun δ M Q => t δ M fun xs M1 => xs.length ≤ sizeLine ∧ ∀ p, M1 p = none → Q (.ref p) (updM M1 p (.lst xs))
theorem de_tup {x1} (h : DA X es t) : DE X (.Tuple es x1 pos) (tTupD t) :=
  pe_imp (pe_tup h) fun σ H Q ⟨δ, M, R, hs, hM, q, fin⟩ => ⟨δ, M, _, hs, hM, q, fun xs M1 vs H1 g1 r1 a1 ⟨z, q1⟩ =>
    ⟨by rw [← r1.length]; exact z, fun p hp => fin _ _ _ _ (g1.trans (.new hp)) (by rw [Rep]; exact ⟨p, vs, rfl, SqT.of upd_same, r1.mono (.new hp)⟩) (a1.new hp) q1⟩⟩
theorem de_lst (h : DA X es t) : DE X (.List es pos) (tLstD t) :=
  pe_imp (pe_lst h) fun σ H Q ⟨δ, M, R, hs, hM, q, fin⟩ => ⟨δ, M, _, hs, hM, q, fun xs M1 vs H1 g1 r1 a1 ⟨z, q1⟩ =>
    ⟨by rw [← r1.length]; exact z, fun p hp => fin _ _ _ _ (g1.trans (.new hp)) (by rw [Rep]) (a1.newL hp r1) (q1 p (a1.fresh hp))⟩⟩
end
noncomputable def IxD (X : Cx) (r : R2D) : Prop := IxR X (liftR2 X.K r)
theorem ix_imp {X : Cx} {r r' : R2} (h : IxR X r) (k : ∀ x y H Q, r' x y H Q → r x y H Q) : IxR X r' := fun e1 e2 pins s σ H x y v u Q I a b q => h e1 e2 pins s σ H x y v u Q I a b (k _ _ _ _ q)
theorem de_ixR {X : Cx} {a b : Expr} {ta tb : TD} {pos : Pos} {r : R2D} (hr : IxD X r) (ha : DE X a ta) (hb : DE X b tb) (hs : PlainIx b) : DE X (.Subscript a b pos) (tOpD r ta tb) := pe_imp (pe_ix hr ha hb hs) fun _ _ _ h => lift_op h
inductive AtD (ds : List D) (i : Int) (M : MH) (Q : DK) : Prop
  | mk (d : D) (h : atI ds i = some d) (q : Q d M) : AtD ds i M Q
inductive AtM (a : Addr) (i : Int) (M : MH) (Q : DK) : Prop
  | mk (ds : List D) (d : D) (h : M a = some (.lst ds)) (q : atI ds i = some d ∧ Q d M) : AtM a i M Q
noncomputable def rIxD : R2D := fun x y M Q => match x, y with
  | .tup ds, .int i => AtD ds i M Q
  | .rol ds, .int i => AtD ds i M Q
  | .ref a, .int i => AtM a i M Q
  | _, _ => False
theorem Reps.atI {K : PySem.W.Frag} {H : Hp} {ds : List D} {xs : List V} {i : Int} {d : D} (h : Reps K H ds xs) (e : L2.atI ds i = some d) : ∃ x, L2.atI xs i = some x ∧ Rep K H d x := by
  unfold L2.atI at e ⊢
  rw [← h.length]
  cases q : ixN ds.length i with
  | none => rw [q] at e; cases e
  | some j =>
    rw [q] at e
    exact h.get e
theorem rIxD_lift {K : PySem.W.Frag} {v u : V} {H : Hp} {Q : VK} (h : liftR2 K rIxD v u H Q) : rIx K v u H Q := by
  obtain ⟨x, y, M, R, r1, r2, a, q, fin⟩ := h
  unfold rIxD at q
  split at q
  · obtain ⟨d, e, q⟩ := q
    obtain rfl : u = .int _ := r2
    rw [Rep] at r1
    obtain ⟨p, xs, rfl, hq, rs⟩ := r1
    obtain ⟨x, e1, e2⟩ := rs.atI e
    exact .inr (.inl ⟨p, xs, _, x, rfl, rfl, hq, e1, fin _ _ _ _ .refl e2 a q⟩)
  · obtain ⟨d, e, q⟩ := q
    obtain rfl : u = .int _ := r2
    rw [Rep] at r1
    obtain ⟨p, xs, rfl, hq, rs⟩ := r1
    obtain ⟨x, e1, e2⟩ := rs.atI e
    exact .inl ⟨p, xs, _, x, rfl, rfl, hq.sql, e1, fin _ _ _ _ .refl e2 a q⟩
  · obtain ⟨ds, d, e0, e, q⟩ := q
    obtain rfl : u = .int _ := r2
    obtain rfl : v = .ref _ := r1
    obtain ⟨xs, hx, rs⟩ := a _ _ e0
    obtain ⟨x, e1, e2⟩ := rs.atI e
    exact .inl ⟨_, xs, _, x, rfl, rfl, SqL.of hx, e1, fin _ _ _ _ .refl e2 a q⟩
  · exact q.elim
theorem de_ix {X : Cx} {a b : Expr} {ta tb : TD} {pos : Pos} (ha : DE X a ta) (hb : DE X b tb) (hs : PlainIx b := by exact fun _ _ => rfl) : DE X (.Subscript a b pos) (tOpD rIxD ta tb) := de_ixR (ix_imp ix_seq fun _ _ _ _ h => rIxD_lift h) ha hb hs
end SD
set_option Elab.async false
set_option linter.all false
set_option maxRecDepth 100000
namespace SD
open PySem PySem.Spec PyProof.Rows L2
noncomputable def Bd (n : Nat) (i : Int) : Prop := i.natAbs < 2 ^ n
noncomputable instance (n : Nat) (i : Int) : Decidable (Bd n i) := inferInstanceAs (Decidable (i.natAbs < 2 ^ n))
theorem Bd.mono {m n : Nat} {i : Int} (h : Bd m i) (l : m ≤ n) : Bd n i := Nat.lt_of_lt_of_le h (Nat.pow_le_pow_right (by decide) l)
theorem Bd.bits {n : Nat} {i : Int} (h : Bd n i) : Builtin.Int.intBits i ≤ n := by
  unfold Builtin.Int.intBits
  split
  · exact Nat.zero_le _
  · rename_i hz
    have h0 : i.natAbs ≠ 0 := fun e => hz (by simpa using Int.natAbs_eq_zero.mp e)
    exact (Nat.log2_lt h0).mpr h
theorem Bd.log2 {n : Nat} {i : Int} (h : Bd n i) (hn : 0 < n) : i.natAbs.log2 < n := by
  by_cases h0 : i.natAbs = 0
  · rw [h0]; simpa using hn
  · exact (Nat.log2_lt h0).mpr h
theorem Bd.mul {m n : Nat} {i j : Int} (a : Bd m i) (b : Bd n j) : Bd (m + n) (i * j) := by
  unfold Bd at *
  rw [Int.natAbs_mul, Nat.pow_add]
  exact Nat.mul_lt_mul'' a b
theorem Bd.add {n : Nat} {i j : Int} (a : Bd n i) (b : Bd n j) : Bd (n + 1) (i + j) := by
  unfold Bd at *
  rw [Nat.pow_succ]
  have := Int.natAbs_add_le i j
  omega
theorem Bd.sub {n : Nat} {i j : Int} (a : Bd n i) (b : Bd n j) : Bd (n + 1) (i - j) := by
  unfold Bd at *
  rw [Nat.pow_succ]
  have := Int.natAbs_sub_le i j
  omega
theorem Bd.neg {n : Nat} {i : Int} (a : Bd n i) : Bd n (-i) := by
  unfold Bd at *
  rw [Int.natAbs_neg]; exact a
theorem Bd.of_le {n : Nat} {i j : Int} (a : Bd n i) (b : j.natAbs ≤ i.natAbs) : Bd n j := Nat.lt_of_le_of_lt b a
theorem bd64 {n : Nat} {i : Int} (h : i.natAbs < 2 ^ 64) (l : 64 ≤ n := by decide) : Bd n i := Bd.mono (m := 64) h l
theorem mulOk {i j : Int} (a : Bd 1000000 i) (b : Bd 1000000 j) : IntMulOk i j := .of_bits (Nat.le_trans a.bits (by decide)) (Nat.le_trans b.bits (by decide))
theorem mulOk_l {i j : Int} (a : Bd 64 i) : IntMulOk i j := .of_left a.bits
theorem mulOk_r {i j : Int} (a : Bd 64 j) : IntMulOk i j := .of_right a.bits
noncomputable def rI2 (C : Int → Int → Prop) (g : Int → Int → D) : R2D := fun x y M Q => match x, y with
  | .int i, .int j => C i j ∧ Q (g i j) M
  | _, _ => False
section
variable {X : Cx}
theorem opd_int {f : Value → Value → Sem Value} {C : Int → Int → Prop} {g : Int → Int → V} {g' : Int → Int → D} (h : OpR X f (rI C g)) (e : ∀ i j H, Rep X.K H (g' i j) (g i j)) : OpD X f (rI2 C g') :=
  op_imp h fun v u H Q z9 => by
    obtain ⟨x, y, M, R, r1, r2, a, q, fin⟩ := z9
    unfold rI2 at q
    split at q
    · obtain rfl : v = .int _ := r1
      obtain rfl : u = .int _ := r2
      exact ⟨_, _, rfl, rfl, q.1, fin _ _ _ _ .refl (e _ _ _) a q.2⟩
    · exact q.elim
theorem ri0 {f : Value → Value → Sem Value} {g : Int → Int → V} (h : OpR X f (rI0 g)) : OpR X f (rI (fun _ _ => True) g) := op_imp h fun x y H Q ⟨i, j, a, b, _, q⟩ => ⟨i, j, a, b, q⟩
noncomputable def rSubD : R2D := rI2 (fun _ _ => True) fun i j => .int (i - j)
noncomputable def rMulD : R2D := rI2 IntMulOk fun i j => .int (i * j)
noncomputable def CFd (i j : Int) : Prop := j ≠ 0 ∧ Bd 8000 j
noncomputable def rFdD : R2D := rI2 CFd fun i j => .int (i.fdiv j)
noncomputable def rModD : R2D := rI2 (fun _ j => j ≠ 0) fun i j => .int (i.fmod j)
noncomputable def rPowD : R2D := rI2 CPow fun i j => .int (i ^ j.toNat)
noncomputable def rLtD : R2D := rI2 (fun _ _ => True) fun i j => .bl (decide (i < j))
noncomputable def rLeD : R2D := rI2 (fun _ _ => True) fun i j => .bl (decide (i ≤ j))
noncomputable def rGtD : R2D := rI2 (fun _ _ => True) fun i j => .bl (decide (j < i))
noncomputable def rGeD : R2D := rI2 (fun _ _ => True) fun i j => .bl (decide (j ≤ i))
theorem od_sub : OpD X (binaryOp .Sub) rSubD := opd_int (ri0 op_sub) fun _ _ _ => by rw [Rep]
theorem od_mul : OpD X (binaryOp .Mult) rMulD := opd_int (opI fun _ _ _ _ _ _ _ hc q => mul_int q hc) fun _ _ _ => by rw [Rep]
theorem od_fd : OpD X (binaryOp .FloorDiv) rFdD := opd_int (opI fun _ _ _ _ _ _ _ hc q => floordiv_int hc.1 q (.inl (PyProof.noPylong_of_log2 (Nat.lt_trans (hc.2.log2 (by decide)) (by decide))))) fun _ _ _ => by rw [Rep]
theorem od_mod : OpD X (binaryOp .Mod) rModD := opd_int op_modN fun _ _ _ => by rw [Rep]
theorem od_pow : OpD X (binaryOp .Pow) rPowD := opd_int op_pow fun _ _ _ => by rw [Rep]
theorem od_lt : OpD X (compareOp .Lt) rLtD := opd_int (ri0 op_lt) fun _ _ _ => by rw [Rep]
theorem od_le : OpD X (compareOp .LtE) rLeD := opd_int (ri0 op_le) fun _ _ _ => by rw [Rep]
theorem od_gt : OpD X (compareOp .Gt) rGtD := opd_int (ri0 op_gt) fun _ _ _ => by rw [Rep]
noncomputable def rNegD : D → MH → DK → Prop := fun x M Q => match x with
  | .int i => Q (.int (-i)) M
  | _ => False
theorem un_negD : UnR X (unaryOp .USub) (liftU X.K rNegD) := fun pins s σ H x v Q I r ⟨d, M, R, r1, a, q, fin⟩ => un_neg pins s σ H x v Q I r (by
  unfold rNegD at q
  split at q
  · obtain rfl : x = .int _ := r1
    exact ⟨_, rfl, fin _ _ _ _ .refl (by rw [Rep]) a q⟩
  · exact q.elim)
noncomputable def rAddD : R2D := fun x y M Q => match x, y with
  | .int i, .int j => Q (.int (i + j)) M
  | .tup a, .tup b => a ≠ [] ∧ a.length + b.length ≤ sizeLine ∧ Q (.tup (a ++ b)) M
  | .ref a, .ref b => ∃ xs ys, M a = some (.lst xs) ∧ M b = some (.lst ys) ∧ xs.length + ys.length ≤ sizeLine ∧ ∀ p, M p = none → Q (.ref p) (updM M p (.lst (xs ++ ys)))
  | _, _ => False
theorem od_add : OpD X (binaryOp .Add) rAddD := op_imp (op_add.or (op_catT.or op_cat)) fun v u H Q z9 => by
  obtain ⟨x, y, M, R, r1, r2, a, q, fin⟩ := z9
  unfold rAddD at q
  split at q
  · obtain rfl : v = .int _ := r1
    obtain rfl : u = .int _ := r2
    exact .inl ⟨_, _, rfl, rfl, fin _ _ _ _ .refl (by rw [Rep]) a q⟩
  · rename_i da db
    obtain ⟨hn, hl, q⟩ := q
    rw [Rep] at r1
    obtain ⟨p, xs, rfl, hx, rx⟩ := r1
    obtain ⟨p', ys, rfl, hy, ry⟩ : ∃ a xs, u = V.ref a ∧ SqT X.K H a xs ∧ Reps X.K H db xs := by rw [Rep] at r2; exact r2
    have l1 := rx.length
    have l2 := ry.length
    refine .inr (.inl ⟨p, p', xs, ys, rfl, rfl, hx, hy, ?_, by omega, fun e => ?_, fun _ z hz => ?_⟩)
    · intro e; subst e; exact hn (List.length_eq_zero_iff.mp (by simpa using l1))
    · subst e
      obtain rfl : db = [] := List.length_eq_zero_iff.mp (by simpa using l2)
      exact fin _ _ _ _ .refl (by rw [Rep, List.append_nil]; exact ⟨p, xs, rfl, hx, rx⟩) a q
    · exact fin _ _ _ _ (.new hz) (by rw [Rep]; exact ⟨z, _, rfl, SqT.of upd_same, (rx.append ry).mono (.new hz)⟩) (a.new hz) q
  · obtain ⟨ds, es, e1, e2, hl, q⟩ := q
    obtain rfl : v = .ref _ := r1
    obtain rfl : u = .ref _ := r2
    obtain ⟨xs, hx, rx⟩ := a _ _ e1
    obtain ⟨ys, hy, ry⟩ := a _ _ e2
    have l1 := rx.length
    have l2 := ry.length
    exact .inr (.inr ⟨_, _, xs, ys, rfl, rfl, hx, hy, by omega, fun z hz => fin _ _ _ _ (.new hz) (by rw [Rep]) (a.newL hz (rx.append ry)) (q z (a.fresh hz))⟩)
  · exact q.elim
end
mutual
inductive Pd (M : MH) : D → PyData → Prop
  | non : Pd M .non .none
  | bl (b : Bool) : Pd M (.bl b) (.bool b)
  | int (i : Int) : Pd M (.int i) (.int i)
  | str (x : Str) : Pd M (.str x) (.str x)
  | tup {ds : List D} {ps : List PyData} : Pds M ds ps → Pd M (.tup ds) (.tuple ps)
  | rol {ds : List D} {ps : List PyData} : Pds M ds ps → Pd M (.rol ds) (.list ps)
  | lst {a : Addr} {ds : List D} {ps : List PyData} : M a = some (.lst ds) → Pds M ds ps → Pd M (.ref a) (.list ps)
inductive Pds (M : MH) : List D → List PyData → Prop
  | nil : Pds M [] []
  | cons {d : D} {ds : List D} {p : PyData} {ps : List PyData} : Pd M d p → Pds M ds ps → Pds M (d :: ds) (p :: ps)
end
mutual
noncomputable def pdO : D → Option PyData
  | .non => some .none
  | .bl b => some (.bool b)
  | .int i => some (.int i)
  | .str x => some (.str x)
  | .tup ds => match pdsO ds with
    | some ps => some (.tuple ps)
    | none => none
  | _ => none
noncomputable def pdsO : List D → Option (List PyData)
  | [] => some []
  | d :: ds => match pdO d, pdsO ds with
    | some p, some ps => some (p :: ps)
    | _, _ => none
end
mutual
theorem Pd.of {M : MH} : ∀ {d : D} {p : PyData}, pdO d = some p → Pd M d p
  | .non, p, h => by rw [pdO] at h; cases h; exact .non
  | .bl b, p, h => by rw [pdO] at h; cases h; exact .bl b
  | .int i, p, h => by rw [pdO] at h; cases h; exact .int i
  | .str x, p, h => by rw [pdO] at h; cases h; exact .str x
  | .ty _, p, h => by simp [pdO] at h
  | .ref _, p, h => by simp [pdO] at h
  | .rol _, p, h => by simp [pdO] at h
  | .tup ds, p, h => by
    rw [pdO] at h
    cases e : pdsO ds with
    | none => rw [e] at h; cases h
    | some ps => rw [e] at h; cases h; exact .tup (Pds.of e)
theorem Pds.of {M : MH} : ∀ {ds : List D} {ps : List PyData}, pdsO ds = some ps → Pds M ds ps
  | [], ps, h => by rw [pdsO] at h; cases h; exact .nil
  | d :: ds, ps, h => by
    rw [pdsO] at h
    cases e1 : pdO d with
    | none => rw [e1] at h; cases h
    | some p =>
      cases e2 : pdsO ds with
      | none => rw [e1, e2] at h; cases h
      | some qs => rw [e1, e2] at h; cases h; exact .cons (Pd.of e1) (Pds.of e2)
end
section
variable {X : Cx} {pins : List (Addr × Obj)} {σ : L2.St} {H : Hp} {s : Shared} {M : MH}
mutual
theorem pd_reads (I : Inv X pins σ H s) (hM : Abs X.K H M) : ∀ {d : D} {p : PyData} {v : V} {u : Value}, Pd M d p → Rep X.K H d v → L2.RelV v u → ∃ as, Reads s.heap u p as
  | _, _, _, _, .non, r, e => by rw [Rep] at r; subst r; cases e; exact ⟨_, .none⟩
  | _, _, _, _, .bl b, r, e => by rw [Rep] at r; subst r; cases e; exact ⟨_, .bool b⟩
  | _, _, _, _, .int i, r, e => by rw [Rep] at r; subst r; obtain ⟨t, rfl⟩ := e; exact ⟨_, .int i t⟩
  | _, _, _, _, .str x, r, e => by rw [Rep] at r; subst r; obtain ⟨t, rfl⟩ := e; exact ⟨_, .str x t⟩
  | _, _, _, _, .tup hp, r, e => by
    rw [Rep] at r
    obtain ⟨a, xs, rfl, hq, rs⟩ := r
    cases e
    obtain ⟨its, rv, ⟨o, h1, h2, n, h3⟩, _⟩ := I.tuple hq
    obtain ⟨as, hh⟩ := pds_reads I hM hp rs rv
    exact ⟨as, reads_tuple_at h1 h2 h3 (by simpa using hh)⟩
  | _, _, _, _, .rol hp, r, e => by
    rw [Rep] at r
    obtain ⟨a, xs, rfl, hq, rs⟩ := r
    cases e
    obtain ⟨its, rv, ⟨o, n, h1, h2, _, h3⟩, _⟩ := I.list hq.sql
    obtain ⟨as, hh⟩ := pds_reads I hM hp rs rv
    exact ⟨_, reads_list_at h1 h2 h3 (by simpa using hh)⟩
  | _, _, _, _, .lst ha hp, r, e => by
    rw [Rep] at r
    subst r
    cases e
    obtain ⟨xs, hx, rs⟩ := hM _ _ ha
    obtain ⟨its, rv, ⟨o, n, h1, h2, _, h3⟩, _⟩ := I.list (SqL.of hx)
    obtain ⟨as, hh⟩ := pds_reads I hM hp rs rv
    exact ⟨_, reads_list_at h1 h2 h3 (by simpa using hh)⟩
theorem pds_reads (I : Inv X pins σ H s) (hM : Abs X.K H M) : ∀ {ds : List D} {ps : List PyData} {vs : List V} {us : List Value}, Pds M ds ps → Reps X.K H ds vs → Vals vs us → ∃ as, ReadsAll s.heap us ps as
  | _, _, _, _, .nil, r, e => by rw [Reps] at r; subst r; cases e; exact ⟨_, .nil⟩
  | _, _, _, _, .cons h1 h2, r, e => by
    rw [Reps] at r
    obtain ⟨x, r, rfl, r1, r2⟩ := r
    cases e with
    | cons e1 e2 =>
      obtain ⟨as, q1⟩ := pd_reads I hM h1 r1 e1
      obtain ⟨bs, q2⟩ := pds_reads I hM h2 r2 e2
      exact ⟨_, .cons q1 q2⟩
end
end
inductive rEqG (g : Bool → Bool) (x y : D) (M : MH) (Q : DK) : Prop
  | mk (p q : PyData) (h1 : Pd M x p) (h2 : Pd M y q) (h3 : SeqAt.shaped p = true) (h4 : SeqAt.shaped q = true) (hq : Q (.bl (g (PyData.eqv p q))) M) : rEqG g x y M Q
noncomputable def rEqD : R2D := fun x y M Q => match x, y with
  | .int i, .int j => Q (.bl (decide (i = j))) M
  | .bl i, .bl j => Q (.bl (decide (i = j))) M
  | x, y => rEqG (fun b => b) x y M Q
noncomputable def rNeD : R2D := fun x y M Q => match x, y with
  | .int i, .int j => Q (.bl (!decide (i = j))) M
  | .bl i, .bl j => Q (.bl (!decide (i = j))) M
  | x, y => rEqG (fun b => !b) x y M Q
section
variable {X : Cx}
theorem od_eqG (hu : X.A.units + 64 < cLine) : OpD X (compareOp .Eq) (rEqG fun b => b) := by
  intro pins s σ H v u v' u' Q I rv ru h
  obtain ⟨x, y, M, R, r1, r2, a, ⟨p, q, p1, p2, s1, s2, hq⟩, fin⟩ := h
  obtain ⟨as, q1⟩ := pd_reads I a p1 r1 rv
  obtain ⟨bs, q2⟩ := pd_reads I a p2 r2 ru
  exact eq_dataH q1 q2 s1 s2 hu ⟨.bl _, H, I, rfl, fin _ _ _ _ .refl (by rw [Rep]) a hq⟩
theorem od_neG (hu : X.A.units + 64 < cLine) : OpD X (compareOp .NotEq) (rEqG fun b => !b) := by
  intro pins s σ H v u v' u' Q I rv ru h
  obtain ⟨x, y, M, R, r1, r2, a, ⟨p, q, p1, p2, s1, s2, hq⟩, fin⟩ := h
  obtain ⟨as, q1⟩ := pd_reads I a p1 r1 rv
  obtain ⟨bs, q2⟩ := pd_reads I a p2 r2 ru
  exact ne_dataH q1 q2 s1 s2 hu ⟨.bl _, H, I, rfl, fin _ _ _ _ .refl (by rw [Rep]) a hq⟩
theorem beq_dec {i j : Int} : (i == j) = decide (i = j) := by
  by_cases h : i = j <;> simp [h]
theorem beq_decB {i j : Bool} : (i == j) = decide (i = j) := by
  cases i <;> cases j <;> rfl
theorem od_eq (hu : X.A.units + 64 < cLine) : OpD X (compareOp .Eq) rEqD := op_imp (od_eqG hu) fun v u H Q z9 => by
  obtain ⟨x, y, M, R, r1, r2, a, q, fin⟩ := z9
  refine ⟨x, y, M, R, r1, r2, a, ?_, fin⟩
  unfold rEqD at q
  split at q
  · exact ⟨_, _, .int _, .int _, rfl, rfl, by simpa [PyData.eqv, beq_dec] using q⟩
  · exact ⟨_, _, .bl _, .bl _, rfl, rfl, by simpa [PyData.eqv, beq_decB] using q⟩
  · exact q
theorem od_ne (hu : X.A.units + 64 < cLine) : OpD X (compareOp .NotEq) rNeD := op_imp (od_neG hu) fun v u H Q z9 => by
  obtain ⟨x, y, M, R, r1, r2, a, q, fin⟩ := z9
  refine ⟨x, y, M, R, r1, r2, a, ?_, fin⟩
  unfold rNeD at q
  split at q
  · exact ⟨_, _, .int _, .int _, rfl, rfl, by simpa [PyData.eqv, beq_dec] using q⟩
  · exact ⟨_, _, .bl _, .bl _, rfl, rfl, by simpa [PyData.eqv, beq_decB] using q⟩
  · exact q
noncomputable def isC : D → D → Option Bool
  | .non, .non => some true
  | .non, .bl _ => some false
  | .bl _, .non => some false
  | .bl a, .bl b => some (decide (a = b))
  | _, .non => some false
  | _, .bl _ => some false
  | _, _ => none
inductive rIsG (g : Bool → Bool) (x y : D) (M : MH) (Q : DK) : Prop
  | mk (b : Bool) (h : isC x y = some b) (q : Q (.bl (g b)) M) : rIsG g x y M Q
noncomputable def rIsD : R2D := rIsG fun b => b
noncomputable def rIsNotD : R2D := rIsG fun b => !b
end
end SD
set_option Elab.async false
set_option linter.all false
set_option maxRecDepth 100000
namespace SD
open PySem PySem.Spec PyProof.Rows L2
noncomputable abbrev RC := List D → MH → DK → Prop
noncomputable def liftC (K : PySem.W.Frag) (r : RC) : List V → Hp → VK → Prop := fun vs H Q => ∃ ds M R, Reps K H ds vs ∧ Abs K H M ∧ r ds M R ∧ Fin K H R Q
noncomputable def CallD (X : Cx) (f : Value) (r : RC) : Prop := CallR X f (liftC X.K r)
theorem call_imp {X : Cx} {f : Value} {r r' : List V → Hp → VK → Prop} (h : CallR X f r) (k : ∀ xs H Q, r' xs H Q → r xs H Q) : CallR X f r' := fun pins s σ H xs us Q I a q => h pins s σ H xs us Q I a (k _ _ _ q)
noncomputable def tCBD (r : RC) (t : TAD) : TD := fun δ M Q => t δ M fun ds M1 => r ds M1 Q
theorem lift_cb {K : PySem.W.Frag} {r : RC} {t : TAD} {σ : L2.St} {H : Hp} {Q : VK} (h : lift K (tCBD r t) σ H Q) : tCB (liftC K r) (liftA K t) σ H Q := by
  obtain ⟨δ, M, R, hs, hM, q, fin⟩ := h
  exact ⟨δ, M, _, hs, hM, q, fun ds M1 vs H1 g1 r1 a1 q1 => ⟨ds, M1, R, r1, a1, q1, fin.go g1⟩⟩
section
variable {X : Cx} {x : Str} {p pos : Pos} {e : Expr} {es : List Expr} {t : TAD} {id T : String} {r : RC}
theorem de_callB (hc : CallD X (.builtin id) r) (hg : Gl X x) (hm : X.mg x = none) (hv : bootBuiltins x = some (.builtin id)) (ha : DA X (e :: es) t) (hn : x ≠ "__name__" := by decide) (hdb : (x == ("__debug__" : Str)) = false := by decide)
    (he : starEach (e :: es) X.env = (false, eval e X.env) :: starEach es X.env := by rfl) (hpl : (backTo pos (starEach es X.env)).any (·.1) = false := by rfl) : DE X (.Call (.Name x p) (e :: es) [] pos) (tCBD r t) :=
  pe_imp (pe_callB hc hg hm hv ha hn hdb he hpl) fun _ _ _ h => lift_cb h
theorem de_callTy (hc : CallD X (.type T) r) (hg : Gl X x) (hm : X.mg x = none) (hv : bootBuiltins x = some (.type T)) (ha : DA X (e :: es) t) (hn : x ≠ "__name__" := by decide) (hdb : (x == ("__debug__" : Str)) = false := by decide)
    (he : starEach (e :: es) X.env = (false, eval e X.env) :: starEach es X.env := by rfl) (hpl : (backTo pos (starEach es X.env)).any (·.1) = false := by rfl) : DE X (.Call (.Name x p) (e :: es) [] pos) (tCBD r t) :=
  pe_imp (pe_callTy hc hg hm hv ha hn hdb he hpl) fun _ _ _ h => lift_cb h
theorem reps1 {K : PySem.W.Frag} {H : Hp} {d : D} {vs : List V} (h : Reps K H [d] vs) : ∃ v, vs = [v] ∧ Rep K H d v := by
  rw [Reps] at h
  obtain ⟨x, r, rfl, h1, h2⟩ := h
  rw [Reps] at h2
  subst h2
  exact ⟨x, rfl, h1⟩
theorem reps2 {K : PySem.W.Frag} {H : Hp} {d e : D} {vs : List V} (h : Reps K H [d, e] vs) : ∃ v u, vs = [v, u] ∧ Rep K H d v ∧ Rep K H e u := by
  rw [Reps] at h
  obtain ⟨x, r, rfl, h1, h2⟩ := h
  obtain ⟨u, rfl, h3⟩ := reps1 h2
  exact ⟨x, u, rfl, h1, h3⟩
noncomputable def rAbs : RC := fun ds M Q => match ds with
  | [.int i] => Q (.int (i.natAbs : Int)) M
  | _ => False
theorem cd_abs : CallD X (.builtin "abs") rAbs := call_imp call_abs fun vs H Q z9 => by
  obtain ⟨ds, M, R, rs, a, q, fin⟩ := z9
  unfold rAbs at q
  split at q
  · rename_i i
    obtain ⟨v, rfl, r⟩ := reps1 rs
    rw [Rep] at r; subst r
    have e : (if i < 0 then -i else i) = (i.natAbs : Int) := by split <;> omega
    exact ⟨_, rfl, fin _ _ _ _ .refl (by rw [Rep, e]) a q⟩
  · exact q.elim
noncomputable def rMax : RC := fun ds M Q => match ds with
  | [.int i, .int j] => Q (.int (max i j)) M
  | _ => False
noncomputable def rMin : RC := fun ds M Q => match ds with
  | [.int i, .int j] => Q (.int (min i j)) M
  | _ => False
theorem cd_max (hc : X.calm = true) : CallD X (.builtin "max") rMax := call_imp (call_max2 hc) fun vs H Q z9 => by
  obtain ⟨ds, M, R, rs, a, q, fin⟩ := z9
  unfold rMax at q
  split at q
  · rename_i i j
    obtain ⟨v, u, rfl, r, r'⟩ := reps2 rs
    rw [Rep] at r; subst r
    have r2 : u = .int j := by rw [Rep] at r'; exact r'
    subst r2
    have e : (if j > i then j else i) = max i j := by split <;> omega
    exact ⟨_, _, rfl, fin _ _ _ _ .refl (by rw [Rep, e]) a q⟩
  · exact q.elim
theorem cd_min (hc : X.calm = true) : CallD X (.builtin "min") rMin := call_imp (call_min2 hc) fun vs H Q z9 => by
  obtain ⟨ds, M, R, rs, a, q, fin⟩ := z9
  unfold rMin at q
  split at q
  · rename_i i j
    obtain ⟨v, u, rfl, r, r'⟩ := reps2 rs
    rw [Rep] at r; subst r
    have r2 : u = .int j := by rw [Rep] at r'; exact r'
    subst r2
    have e : (if j < i then j else i) = min i j := by split <;> omega
    exact ⟨_, _, rfl, fin _ _ _ _ .refl (by rw [Rep, e]) a q⟩
  · exact q.elim
noncomputable def rLen : RC := fun ds M Q => match ds with
  | [.tup xs] => Q (.int (xs.length : Int)) M
  | [.rol xs] => Q (.int (xs.length : Int)) M
  | [.ref l] => ∃ xs, M l = some (.lst xs) ∧ Q (.int (xs.length : Int)) M
  | _ => False
theorem cd_len : CallD X (.builtin "len") rLen := call_imp call_len_seq fun vs H Q z9 => by
  obtain ⟨ds, M, R, rs, a, q, fin⟩ := z9
  unfold rLen at q
  split at q
  · obtain ⟨v, rfl, r⟩ := reps1 rs
    rw [Rep] at r
    obtain ⟨l, xs, rfl, h1, h2⟩ := r
    exact ⟨l, xs, rfl, .inr h1, fin _ _ _ _ .refl (by rw [Rep, h2.length]) a q⟩
  · obtain ⟨v, rfl, r⟩ := reps1 rs
    rw [Rep] at r
    obtain ⟨l, xs, rfl, h1, h2⟩ := r
    exact ⟨l, xs, rfl, .inl h1.sql, fin _ _ _ _ .refl (by rw [Rep, h2.length]) a q⟩
  · obtain ⟨v, rfl, r⟩ := reps1 rs
    rw [Rep] at r; subst r
    obtain ⟨xs, e, q⟩ := q
    obtain ⟨ys, h1, h2⟩ := a _ _ e
    exact ⟨_, ys, rfl, .inl (SqL.of h1), fin _ _ _ _ .refl (by rw [Rep, h2.length]) a q⟩
  · exact q.elim
noncomputable def rTuple : RC := fun ds M Q => match ds with
  | [.tup xs] => Q (.tup xs) M
  | [.rol xs] => Q (.tup xs) M
  | [.ref l] => ∃ xs, M l = some (.lst xs) ∧ Q (.tup xs) M
  | _ => False
theorem cd_tuple : CallD X (.type "tuple") rTuple := call_imp call_tuple_of fun vs H Q z9 => by
  obtain ⟨ds, M, R, rs, a, q, fin⟩ := z9
  unfold rTuple at q
  split at q
  · obtain ⟨v, rfl, r⟩ := reps1 rs
    rw [Rep] at r
    obtain ⟨l, xs, rfl, h1, h2⟩ := r
    exact ⟨l, xs, rfl, .inr ⟨h1, fin _ _ _ _ .refl (by rw [Rep]; exact ⟨l, xs, rfl, h1, h2⟩) a q⟩⟩
  · obtain ⟨v, rfl, r⟩ := reps1 rs
    rw [Rep] at r
    obtain ⟨l, xs, rfl, h1, h2⟩ := r
    exact ⟨l, xs, rfl, .inl ⟨h1.sql, fun p hp => fin _ _ _ _ (.new hp) (by rw [Rep]; exact ⟨p, xs, rfl, SqT.of upd_same, h2.mono (.new hp)⟩) (a.new hp) q⟩⟩
  · obtain ⟨v, rfl, r⟩ := reps1 rs
    rw [Rep] at r; subst r
    obtain ⟨xs, e, q⟩ := q
    obtain ⟨ys, h1, h2⟩ := a _ _ e
    exact ⟨_, ys, rfl, .inl ⟨SqL.of h1, fun p hp => fin _ _ _ _ (.new hp) (by rw [Rep]; exact ⟨p, ys, rfl, SqT.of upd_same, h2.mono (.new hp)⟩) (a.new hp) q⟩⟩
  · exact q.elim
noncomputable def rInt1 : RC := fun ds M Q => match ds with
  | [.int i] => Q (.int i) M
  | [.bl k] => Q (.int (if k = true then 1 else 0)) M
  | _ => False
theorem cd_int : CallD X (.type "int") rInt1 := call_imp call_int1 fun vs H Q z9 => by
  obtain ⟨ds, M, R, rs, a, q, fin⟩ := z9
  unfold rInt1 at q
  split at q
  · obtain ⟨v, rfl, r⟩ := reps1 rs
    rw [Rep] at r; subst r
    exact .inl ⟨_, rfl, fin _ _ _ _ .refl (by rw [Rep]) a q⟩
  · obtain ⟨v, rfl, r⟩ := reps1 rs
    rw [Rep] at r; subst r
    exact .inr ⟨_, rfl, fin _ _ _ _ .refl (by rw [Rep]) a q⟩
  · exact q.elim
noncomputable def tyN : D → Option String
  | .non => some "NoneType"
  | .bl _ => some "bool"
  | .int _ => some "int"
  | .str _ => some "str"
  | .tup _ => some "tuple"
  | .rol _ => some "list"
  | _ => none
noncomputable def rIsInst (K : PySem.W.Frag) : RC := fun ds M Q => match ds with
  | [x, .ty n] => ∃ t b, tyN x = some t ∧ PySem.W.kitOne K (.type t) (.type n) = some b ∧ Q (.bl b) M
  | _ => False
end
noncomputable abbrev TGD := D → DS → MH → (DS → MH → Prop) → Prop
noncomputable abbrev TGsD := List D → DS → MH → (DS → MH → Prop) → Prop
section
variable (K : PySem.W.Frag)
noncomputable def FinG (H : Hp) (R : DS → MH → Prop) (Q : L2.St → Hp → Prop) : Prop := ∀ δ' M' σ' H', Grow K H H' → Slots K H' δ' σ' → Abs K H' M' → R δ' M' → Q σ' H'
noncomputable def liftG (t : TGD) : TG := fun v σ H Q => ∃ d δ M R, Rep K H d v ∧ Slots K H δ σ ∧ Abs K H M ∧ t d δ M R ∧ FinG K H R Q
noncomputable def liftGs (t : TGsD) : TGs := fun vs σ H Q => ∃ ds δ M R, Reps K H ds vs ∧ Slots K H δ σ ∧ Abs K H M ∧ t ds δ M R ∧ FinG K H R Q
end
theorem FinG.go {K : PySem.W.Frag} {H H1 : Hp} {R : DS → MH → Prop} {Q : L2.St → Hp → Prop} (g : Grow K H H1) (h : FinG K H R Q) : FinG K H1 R Q := fun d M v H' g' => h d M v H' (g.trans g')
noncomputable def DG (X : Cx) (e : Expr) (t : TGD) : Prop := PG X e (liftG X.K t)
noncomputable def DGs (X : Cx) (es : List Expr) (t : TGsD) : Prop := PGs X es (liftGs X.K t)
theorem pg_imp {X : Cx} {e : Expr} {t t' : TG} (h : PG X e t) (k : ∀ v σ H Q, t' v σ H Q → t v σ H Q) : PG X e t' := fun pins s σ H v u Q I r q => h pins s σ H v u Q I r (k _ _ _ _ q)
theorem pgs_imp {X : Cx} {e : List Expr} {t t' : TGs} (h : PGs X e t) (k : ∀ v σ H Q, t' v σ H Q → t v σ H Q) : PGs X e t' := fun pins s σ H v u Q I r q => h pins s σ H v u Q I r (k _ _ _ _ q)
section
variable {X : Cx} {pos : Pos}
noncomputable def gNameD (i : Nat) : TGD := fun d δ M Q => Q (δ.set i (some d)) M
theorem dg_name (i : Nat) {x : Str} (hN : X.N.Nodup) (hi : X.N[i]? = some x := by rfl) (hx : Loc X.env.scope x := by first | exact Or.inl rfl | exact Or.inr rfl) (hf : X.fn x = true ∨ X.env.scope.names.lookup x = some .local := by first | exact .inl rfl | exact .inr rfl | assumption) : DG X (.Name x pos) (gNameD i) :=
  pg_imp (pg_name hN hi hx hf) fun v σ H Q ⟨d, δ, M, R, r, hs, a, q, fin⟩ => fin _ _ _ _ .refl (hs.set r i) a q
noncomputable def gNilD : TGsD := fun ds δ M Q => ds = [] ∧ Q δ M
inductive gConsD (t : TGD) (u : TGsD) (ds : List D) (δ : DS) (M : MH) (Q : DS → MH → Prop) : Prop
  | mk (d : D) (r : List D) (h : ds = d :: r) (q : t d δ M fun δ' M' => u r δ' M' Q) : gConsD t u ds δ M Q
theorem dgs_nil : DGs X [] gNilD := pgs_imp pgs_nil fun vs σ H Q z9 => by
  obtain ⟨ds, δ, M, R, rs, hs, a, ⟨e, q⟩, fin⟩ := z9
  subst e
  rw [Reps] at rs
  exact ⟨rs, fin _ _ _ _ .refl hs a q⟩
theorem dgs_cons {e : Expr} {es : List Expr} {t : TGD} {u : TGsD} (h1 : DG X e t) (h2 : DGs X es u)
    (hs : (assignEach (e :: es) X.env).map (·.2) = assign e X.env :: (assignEach es X.env).map (·.2) := by rfl) : DGs X (e :: es) (gConsD t u) := pgs_imp (pgs_cons h1 h2 hs) fun vs σ H Q z9 => by
  obtain ⟨ds, δ, M, R, rs, hs, a, ⟨d, r, e, q⟩, fin⟩ := z9
  subst e
  rw [Reps] at rs
  obtain ⟨x, xs, rfl, r1, r2⟩ := rs
  exact ⟨x, xs, rfl, d, δ, M, _, r1, hs, a, q, fun δ' M' σ' H' g' s' a' q' => ⟨r, δ', M', R, r2.mono g', s', a', q', fin.go g'⟩⟩
inductive gTupD (n : Nat) (t : TGsD) (d : D) (δ : DS) (M : MH) (Q : DS → MH → Prop) : Prop
  | mk (ds : List D) (h : d = .tup ds) (q : ds.length = n ∧ t ds δ M Q) : gTupD n t d δ M Q
theorem dg_tup {es : List Expr} {k : Nat} {t : TGsD} {n : Nat} (hc : X.calm = true) (h : DGs X es t)
    (hn : (assignEach es X.env).length = n := by rfl) (hst : (assignEach es X.env).findIdx? (·.1) = none := by rfl) : DG X (.Tuple es k pos) (gTupD n t) := pg_imp (pg_tup hc h hn hst) fun v σ H Q z9 => by
  obtain ⟨d, δ, M, R, r, hs, a, ⟨ds, e, hl, q⟩, fin⟩ := z9
  subst e
  rw [Rep] at r
  obtain ⟨p, xs, rfl, h1, h2⟩ := r
  exact ⟨p, xs, rfl, h1, by rw [← h2.length]; exact hl, ds, δ, M, R, h2, hs, a, q, fin⟩
noncomputable def rSetD : D → D → D → MH → (MH → Prop) → Prop := fun o i v M Q => match o, i with
  | .ref p, .int k => ∃ ds j, M p = some (.lst ds) ∧ ixN ds.length k = some j ∧ Q (updM M p (.lst (ds.set j v)))
  | _, _ => False
noncomputable def gSubD (to ti : TD) : TGD := fun v δ M Q => to δ M fun o M1 => ti δ M1 fun i M2 => rSetD o i v M2 fun M3 => Q δ M3
theorem dg_sub {o i : Expr} {to ti : TD} (ho : DE X o to) (hi : DE X i ti)
    (ha : ∀ v, assign (.Subscript o i pos) X.env v = (do
      let ov ← holding [v] (eval o X.env)
      let iv ← holding [v, ov] (eval i X.env)
      standAt pos
      holding [v, ov, iv] (setItem ov iv v)
      release [v, ov, iv] []) := by intro _; rfl) : DG X (.Subscript o i pos) (gSubD to ti) :=
  pg_imp (pg_sub ho hi set_list ha) fun v σ H Q ⟨d, δ, M, R, r, hs, a, q, fin⟩ =>
    ⟨δ, M, _, hs, a, q, fun o M1 vo H1 g1 r1 a1 q1 => ⟨δ, M1, _, hs.mono g1, a1, q1, fun i M2 vi H2 g2 r2 a2 q2 => by
      unfold rSetD at q2
      split at q2
      · obtain ⟨ds, j, e1, e2, q2⟩ := q2
        obtain rfl : vo = .ref _ := r1
        obtain rfl : vi = .int _ := r2
        obtain ⟨xs, h1, h2⟩ := a2 _ _ e1
        refine ⟨_, xs, _, j, rfl, rfl, h1, by rw [← h2.length]; exact e2, ?_⟩
        have g3 : Grow X.K H2 (upd H2 _ (.lst (xs.set j v))) := .lst h1
        exact fin _ _ _ _ ((g1.trans g2).trans g3) (hs.mono ((g1.trans g2).trans g3)) (a2.setL h1 (h2.set (r.mono (g1.trans g2)) j)) q2
      · exact q2.elim⟩⟩
end
section
variable {X : Cx} {pos : Pos} {st : Stmt} {rest : List Stmt} {t u : TSD}
noncomputable def tNextD : TSD := fun B δ M => B.nx δ M
noncomputable def tSeqD (t u : TSD) : TSD := fun B δ M => t { B with nx := u B } δ M
theorem dss_nil : DSs X [] tNextD := pss_imp pss_nil fun E σ H ⟨δ, M, hs, a, B, ok, q⟩ => ok.nx _ _ _ _ .refl hs a q
theorem dss_cons (h1 : DSt X st t) (h2 : DSs X rest u) : DSs X (st :: rest) (tSeqD t u) := pss_imp (pss_cons h1 h2) fun E σ H ⟨δ, M, hs, a, B, ok, q⟩ =>
  ⟨δ, M, hs, a, { B with nx := u B }, ⟨fun δ' M' σ' H' g s' a' q' => ⟨δ', M', s', a', B, ok.go g, q'⟩, ok.rt, ok.bk, ok.ct⟩, q⟩
theorem dss_one (h1 : DSt X st t) : DSs X [st] t := pss_one h1
noncomputable def tBreakD : TSD := fun B δ M => B.bk δ M
noncomputable def tContD : TSD := fun B δ M => B.ct δ M
noncomputable def tNeverD : TSD := fun _ _ _ => False
theorem ds_never : DSt X st tNeverD := ps_imp ps_never fun E σ H ⟨δ, M, hs, a, B, ok, q⟩ => q.elim
noncomputable def tDropD (te : TD) : TSD := fun B δ M => te δ M fun _ M1 => B.nx δ M1
theorem ds_expr {e : Expr} {te : TD} (he : DE X e te) (hs : swapsWith e none pos.line X.env = pure false := by rfl) : DSt X (.Expr e pos) (tDropD te) :=
  ps_imp (ps_expr he hs) fun E σ H ⟨δ, M, hs, a, B, ok, q⟩ => ⟨δ, M, _, hs, a, q, fun d M1 v H1 g1 r1 a1 q1 => ok.nx _ _ _ _ g1 (hs.mono g1) a1 q1⟩
noncomputable def tRetD (te : TD) : TSD := fun B δ M => te δ M B.rt
theorem ds_ret {e : Expr} {te : TD} (he : DE X e te) : DSt X (.Return (some e) pos) (tRetD te) :=
  ps_imp (ps_ret he) fun E σ H ⟨δ, M, hs, a, B, ok, q⟩ => ⟨δ, M, _, hs, a, q, fun d M1 v H1 g1 r1 a1 q1 => ok.rt _ _ _ _ g1 r1 a1 q1⟩
noncomputable def tRetND : TSD := fun B _ M => B.rt .non M
noncomputable def tIfSD (c : TTD) (t u : TSD) : TSD := fun B δ M => c δ M fun b M1 => if b = true then t B δ M1 else u B δ M1
theorem ds_if {c : Expr} {a b : List Stmt} {tc : TTD} (hc : DT X c tc) (ha : DSs X a t) (hb : DSs X b u) : DSt X (.If c a b pos) (tIfSD tc t u) :=
  ps_imp (ps_if hc ha hb) fun E σ H ⟨δ, M, hs, a, B, ok, q⟩ => ⟨δ, M, _, hs, a, q, fun c M1 H1 g1 a1 q1 => by
    cases c with
    | true => rw [if_pos rfl] at q1 ⊢; exact ⟨δ, M1, hs.mono g1, a1, B, ok.go g1, q1⟩
    | false => rw [if_neg Bool.false_ne_true] at q1 ⊢; exact ⟨δ, M1, hs.mono g1, a1, B, ok.go g1, q1⟩⟩
noncomputable def tAsgD (te : TD) (g : TGD) : TSD := fun B δ M => te δ M fun d M1 => g d δ M1 B.nx
theorem ds_asg {tg e : Expr} {te : TD} {g : TGD} (he : DE X e te) (hg : DG X tg g) (hs : swapsWithSole [tg] e pos.line X.env = pure false := by rfl) (hw : swappedStores [tg] e X.env = pure none := by rfl)
    (h1 : (assignEach [tg] X.env).map (·.2) = [assign tg X.env] := by rfl) : DSt X (.Assign [tg] e pos) (tAsgD te g) :=
  ps_imp (ps_asg he hg hs hw h1) fun E σ H ⟨δ, M, hs, a, B, ok, q⟩ => ⟨δ, M, _, hs, a, q, fun d M1 v H1 g1 r1 a1 q1 =>
    ⟨d, δ, M1, B.nx, r1, hs.mono g1, a1, q1, fun δ' M' σ' H' g' s' a' q' => ok.nx _ _ _ _ (g1.trans g') s' a' q'⟩⟩
theorem ds_set (i : Nat) {x : Str} {e : Expr} {te : TD} {pos' : Pos} (hN : X.N.Nodup) (he : DE X e te) (hi : X.N[i]? = some x := by rfl) (hx : Loc X.env.scope x := by first | exact Or.inl rfl | exact Or.inr rfl) (hs : swapsWith e (some (.Name x pos')) pos.line X.env = pure false := by rfl)
    (hf : X.fn x = true ∨ X.env.scope.names.lookup x = some .local := by first | exact .inl rfl | exact .inr rfl | assumption) : DSt X (.Assign [.Name x pos'] e pos) (tAsgD te (gNameD i)) :=
  ps_imp (ps_set hN hi hx he hs hf) fun E σ H ⟨δ, M, hs, a, B, ok, q⟩ => ⟨δ, M, _, hs, a, q, fun d M1 v H1 g1 r1 a1 q1 => ok.nx _ _ _ _ g1 ((hs.mono g1).set r1 i) a1 q1⟩
noncomputable def tParD (i j : Nat) (ta : TAD) : TSD := fun B δ M => ta δ M fun ds M1 => ∃ d e, ds = [d, e] ∧ B.nx ((δ.set i (some d)).set j (some e)) M1
theorem ds_par (i j : Nat) {x y : Str} {a b : Expr} {ta : TAD} {px py pt : Pos} {kt k2 pt2} (hc : X.calm = true) (hN : X.N.Nodup) (ha : DA X [a, b] ta) (hij : i ≠ j := by decide) (hi : X.N[i]? = some x := by rfl) (hj : X.N[j]? = some y := by rfl)
    (hx : X.env.scope.names.lookup x = some .local := by rfl) (hy : X.env.scope.names.lookup y = some .local := by rfl)
    (hw : swappedStores [.Tuple [.Name x px, .Name y py] kt pt] (.Tuple [a, b] k2 pt2) X.env = pure (some [x, y]) := by rfl)
    (hs : swapsWithSole [.Tuple [.Name x px, .Name y py] kt pt] (.Tuple [a, b] k2 pt2) pos.line X.env = pure false := by rfl) :
    DSt X (.Assign [.Tuple [.Name x px, .Name y py] kt pt] (.Tuple [a, b] k2 pt2) pos) (tParD i j ta) :=
  ps_imp (ps_par hc hN hi hj hij hx hy ha hw hs) fun E σ H ⟨δ, M, hs, a, B, ok, q⟩ => ⟨δ, M, _, hs, a, q, fun ds M1 vs H1 g1 r1 a1 z9 => by
    obtain ⟨d, e, z, q1⟩ := z9
    subst z
    obtain ⟨v, u, rfl, r2, r3⟩ := reps2 r1
    exact ⟨v, u, rfl, ok.nx _ _ _ _ g1 (((hs.mono g1).set r2 i).set r3 j) a1 q1⟩⟩
noncomputable def tWhileD (c : TTD) (tb : TSD) : TSD := fun B δ M => ∃ W : Nat → DS → MH → Prop, (∃ m, W m δ M) ∧ ∀ m δ M, W m δ M →
  c δ M fun b M1 => if b = true then tb { B with nx := fun δ' M' => ∃ m', m' < m ∧ W m' δ' M', ct := fun δ' M' => ∃ m', m' < m ∧ W m' δ' M', bk := B.nx } δ M1 else B.nx δ M1
theorem ds_while {c : Expr} {body : List Stmt} {tc : TTD} {tb : TSD} (hp : PassesOwn (model X.prog X.w) X.A X.env X.xe) (hc : DT X c tc) (hb : DSs X body tb) : DSt X (.While c body [] pos) (tWhileD tc tb) :=
  ps_imp (ps_while hp hc hb) fun E σ H z9 => by
    obtain ⟨δ, M, hs, a, B, ok, W, ⟨m, w0⟩, turn⟩ := z9
    refine ⟨fun m σ H' => Grow X.K H H' ∧ ∃ δ M, Slots X.K H' δ σ ∧ Abs X.K H' M ∧ W m δ M, ⟨m, .refl, δ, M, hs, a, w0⟩, ?_⟩
    rintro m σ H' ⟨g, δ, M, hs, a, w0⟩
    refine ⟨δ, M, _, hs, a, turn m δ M w0, fun b M1 H1 g1 a1 q1 => ?_⟩
    cases b with
    | true =>
      rw [if_pos rfl] at q1 ⊢
      refine ⟨fun σ2 H2 => ∃ m', m' < m ∧ (Grow X.K H H2 ∧ ∃ δ M, Slots X.K H2 δ σ2 ∧ Abs X.K H2 M ∧ W m' δ M), fun σ' H' h => h, δ, M1, hs.mono g1, a1, _, ?_, q1⟩
      refine ⟨fun δ' M' σ' H' g' s' a' ⟨m', l, w'⟩ => ⟨m', l, (g.trans g1).trans g', δ', M', s', a', w'⟩, fun d M v H' g' => ok.rt d M v H' ((g.trans g1).trans g'), fun δ' M' σ' H' g' s' a' q' => ok.nx _ _ _ _ ((g.trans g1).trans g') s' a' q', fun δ' M' σ' H' g' s' a' ⟨m', l, w'⟩ => ⟨m', l, (g.trans g1).trans g', δ', M', s', a', w'⟩⟩
    | false =>
      rw [if_neg Bool.false_ne_true] at q1 ⊢
      exact ok.nx _ _ _ _ (g.trans g1) (hs.mono g1) a1 q1
inductive ForW (g : TGD) (tb : TSD) (B : EndsD) (n : Nat) (δ0 : DS) (M0 : MH) : Prop
  | mk (W : Nat → DS → MH → Prop) (w0 : W 0 δ0 M0) (turn : ∀ i δ M, i < n → W i δ M → g (.int (i : Int)) δ M fun δ2 M2 => tb { B with nx := W (i + 1), ct := W (i + 1), bk := B.nx } δ2 M2) (done : ∀ δ M, W n δ M → B.nx δ M) : ForW g tb B n δ0 M0
inductive ForR (g : TGD) (tb : TSD) (B : EndsD) (ds : List D) (δ0 : DS) (M0 : MH) : Prop
  | mk (n : Nat) (e : ds = [.int (n : Int)]) (q : n < 2 ^ 60 ∧ ForW g tb B n δ0 M0) : ForR g tb B ds δ0 M0
noncomputable def tForRD (ta : TAD) (g : TGD) (tb : TSD) : TSD := fun B δ M => ta δ M fun ds M1 => ForR g tb B ds δ M1
theorem ds_forR {tg e : Expr} {body : List Stmt} {ta : TAD} {g : TGD} {tb : TSD} {p p2 : Pos} (hp : PassesOwn (model X.prog X.w) X.A X.env X.xe) (hc : X.calm = true) (hg : Gl X "range") (hm : X.mg "range" = none) (ha : DA X [e] ta) (hG : DG X tg g) (hb : DSs X body tb)
    (hs : starEach [e] X.env = [(false, eval e X.env)] := by rfl) (hf : ∀ x, foldedSetIterable (.Call (.Name "range" p) [e] [] p2) X.env x = pure x := by intro _; rfl) : DSt X (.For tg (.Call (.Name "range" p) [e] [] p2) body [] pos) (tForRD ta g tb) :=
  ps_imp (ps_for hp hc (pi_range1 hg hm ha hs) hG hb hf) fun E σ H ⟨δ, M, hs, a, B, ok, q⟩ => ⟨δ, M, _, hs, a, q, fun ds M1 vs H1 g1 r1 a1 z9 => by
    obtain ⟨n, e, hn, W, w0, turn, done⟩ := z9
    subst e
    obtain ⟨v, rfl, r⟩ := reps1 r1
    rw [Rep] at r; subst r
    refine ⟨(n : Int), rfl, by omega, by omega, ?_⟩
    rw [show ((n : Int)).toNat = n from by simp]
    refine for_range (fun i σ H' => Grow X.K H H' ∧ ∃ δ M, Slots X.K H' δ σ ∧ Abs X.K H' M ∧ W i δ M) ⟨g1, δ, M1, hs.mono g1, a1, w0⟩ ?_ ?_
    · rintro i σ H2 hi ⟨g2, δ, M, s2, a2, w2⟩
      refine ⟨.int (i : Int), δ, M, _, by rw [Rep]; simp, s2, a2, turn i δ M hi w2, fun δ3 M3 σ3 H3 g3 s3 a3 q3 => ?_⟩
      refine ⟨δ3, M3, s3, a3, _, ?_, q3⟩
      exact ⟨fun δ' M' σ' H' g' s' a' w' => ⟨(g2.trans g3).trans g', δ', M', s', a', w'⟩, fun d M v H' g' => ok.rt d M v H' ((g2.trans g3).trans g'), fun δ' M' σ' H' g' s' a' q' => ok.nx _ _ _ _ ((g2.trans g3).trans g') s' a' q', fun δ' M' σ' H' g' s' a' w' => ⟨(g2.trans g3).trans g', δ', M', s', a', w'⟩⟩
    · rintro σ H2 ⟨g2, δ, M, s2, a2, w2⟩
      exact ok.nx _ _ _ _ g2 s2 a2 (done δ M w2)⟩
end
theorem iteA {b : Bool} {A B : Prop} (e : b = true) (h : A) : if b = true then A else B := by rw [if_pos e]; exact h
theorem iteB {b : Bool} {A B : Prop} (e : b = false) (h : B) : if b = true then A else B := by rw [if_neg (by rw [e]; exact Bool.false_ne_true)]; exact h
theorem andV {ta tb : TD} {δ : DS} {M : MH} {Q : DK} (c1 c2 : Bool) (ha : ∀ K : DK, K (.bl c1) M → ta δ M K) (hb : c1 = true → ∀ K : DK, K (.bl c2) M → tb δ M K) (hq : Q (.bl (c1 && c2)) M) : tAndVD ta tb δ M Q :=
  ha _ ⟨c1, rfl, by
    cases c1 with
    | true => rw [if_pos rfl]; exact hb rfl _ hq
    | false => rw [if_neg Bool.false_ne_true]; exact hq⟩
theorem orT {ta tb : TTD} {δ : DS} {M : MH} {Q : Bool → MH → Prop} (c1 c2 : Bool) (ha : ∀ K : Bool → MH → Prop, K c1 M → ta δ M K) (hb : c1 = false → ∀ K : Bool → MH → Prop, K c2 M → tb δ M K) (hq : Q (c1 || c2) M) : tOrD ta tb δ M Q :=
  ha _ (by
    cases c1 with
    | true => rw [if_pos rfl]; exact hq
    | false => rw [if_neg Bool.false_ne_true]; exact hb rfl _ hq)
theorem andT {ta tb : TTD} {δ : DS} {M : MH} {Q : Bool → MH → Prop} (c1 c2 : Bool) (ha : ∀ K : Bool → MH → Prop, K c1 M → ta δ M K) (hb : c1 = true → ∀ K : Bool → MH → Prop, K c2 M → tb δ M K) (hq : Q (c1 && c2) M) : tAndD ta tb δ M Q :=
  ha _ (by
    cases c1 with
    | true => rw [if_pos rfl]; exact hb rfl _ hq
    | false => rw [if_neg Bool.false_ne_true]; exact hq)
noncomputable def tChainD (r r' : R2D) (ta tb tc : TD) : TD := fun δ M Q => ta δ M fun x M1 => tb δ M1 fun y M2 => r x y M2 fun z M3 => ∃ k, z = .bl k ∧ if k = true then tc δ M3 fun u M4 => r' y u M4 Q else Q (.bl false) M3
theorem seq_cut {t u : TSD} {B : EndsD} {δ : DS} {M : MH} (W : DS → MH → Prop) (hu : ∀ δ' M', W δ' M' → u B δ' M') (ht : (∀ δ' M', W δ' M' → u B δ' M') → t { B with nx := u B } δ M) : tSeqD t u B δ M := ht hu
noncomputable def Sub (M' M : MH) : Prop := ∀ a o, M' a = some o → M a = some o
noncomputable def SubX (r : Addr) (M' M : MH) : Prop := ∀ a o, a ≠ r → M' a = some o → M a = some o
theorem Sub.refl {M : MH} : Sub M M := fun _ _ h => h
theorem Sub.trans {M M1 M2 : MH} (a : Sub M M1) (b : Sub M1 M2) : Sub M M2 := fun x o h => b x o (a x o h)
theorem Sub.new {M M' : MH} {p : Addr} {o : MO} (hp : M p = none) (s : Sub M' M) : Sub M' (updM M p o) := fun a u h => by
  rw [updM_ne (fun e => by subst e; rw [s _ _ h] at hp; cases hp)]
  exact s _ _ h
theorem SubX.refl {M : MH} {r : Addr} : SubX r M M := fun _ _ _ h => h
theorem SubX.new {M M' : MH} {r p : Addr} {o : MO} (hp : M p = none) (s : SubX r M' M) : SubX r M' (updM M p o) := fun a u ne h => by
  rw [updM_ne (fun e => by subst e; rw [s _ _ ne h] at hp; cases hp)]
  exact s _ _ ne h
theorem SubX.same {M M' : MH} {r : Addr} {o : MO} (s : SubX r M' M) : SubX r M' (updM M r o) := fun a u ne h => by
  rw [updM_ne ne]
  exact s _ _ ne h
inductive Ret (Q : DK) (d : D) (M : MH) : Prop
  | mk (M' : MH) (s : Sub M' M) (q : Q d M') : Ret Q d M
theorem rtn {Q : DK} {d : D} {M : MH} (q : Q d M) : Ret Q d M := ⟨M, .refl, q⟩
noncomputable abbrev SpD := List D → MH → DK → Prop
noncomputable def liftSp (K : PySem.W.Frag) (sp : SpD) : Sp := fun vs H Q _ => ∃ ds M R, Reps K H ds vs ∧ Abs K H M ∧ sp ds M R ∧ Fin K H R Q
noncomputable def Cal (P : Program) (w : World) (K : PySem.W.Frag) (mg : Str → Option Value) (base : Heap) (k : Nat) (x : Str) (sp : SpD) : Prop :=
  ∃ f fd ps, FnOk P w K mg base CX0 k f fd ps (liftSp K sp) ∧ mg x = some (.ref f) ∧ PySem.W.keepIn K (.ref f) = true ∧ Binds K fd ps []
theorem Cal.mono {P : Program} {w : World} {K : PySem.W.Frag} {mg : Str → Option Value} {base : Heap} {j k : Nat} {x : Str} {sp : SpD} (h : Cal P w K mg base j x sp) (l : j ≤ k) : Cal P w K mg base k x sp :=
  let ⟨f, fd, ps, F, r⟩ := h; ⟨f, fd, ps, F.mono l, r⟩
section
variable {X : Cx} {k : Nat} {x : Str} {sp : SpD} {p pos : Pos} {e : Expr} {es : List Expr} {t : TAD}
noncomputable def tCallD (sp : SpD) (t : TAD) : TD := fun δ M Q => t δ M fun ds M1 => sp ds M1 Q
theorem de_call (C : Cal X.prog X.w X.K X.mg X.base k x sp) (hr : Room k X.A) (ha : DA X (e :: es) t) (hg : Gl X x := by rfl) (hdb : (x == ("__debug__" : Str)) = false := by decide)
    (he : starEach (e :: es) X.env = (false, eval e X.env) :: starEach es X.env := by rfl) (hpl : (backTo pos (starEach es X.env)).any (·.1) = false := by rfl) : DE X (.Call (.Name x p) (e :: es) [] pos) (tCallD sp t) := by
  obtain ⟨f, fd, ps, F, hm, hk, hb⟩ := C
  refine pe_imp (pe_call F hr hg hm hk hb .nil pass0 ha hdb he hpl) fun σ H Q ⟨δ, M, R, hs, hM, q, fin⟩ => ?_
  refine ⟨δ, M, _, hs, hM, q, fun ds M1 vs H1 g1 r1 a1 q1 => ?_⟩
  show liftSp X.K sp (vs ++ []) H1 Q E0
  rw [List.append_nil]
  exact ⟨ds, M1, R, r1, a1, q1, fin.go g1⟩
end
noncomputable def startD (N : List Str) (ds : List D) : DS := ds.map some ++ List.replicate (N.length - ds.length) none
section
variable {P : Program} {w : World} {K : PySem.W.Frag} {mg : Str → Option Value} {base : Heap}
theorem fnD {x qual : Str} {st : Stmt} {f : Addr} {fd : FuncData} {N ps : List Str} {k : Nat} {sp : SpD} (F : Fun K x qual st f fd) (S : FnScope N ps (defScope st)) (len : ∀ ds M Q, sp ds M Q → ds.length = ps.length)
    (hbody : ∀ X : Cx, X.prog = P → True) (body : ∀ (cdv : Value) (A : Around) (outer : List Env) (s : Shared) (H : Hp) (E : XK), Room k (A.deeper (envOfC qual (defScope st) s.heap.objs.size f cdv)) →
      ∃ t, DSs (cxOf CX0 P w K mg base N qual (defScope st) f cdv A outer s H E).nox (defBody st) t ∧ ∀ ds M Q, sp ds M Q → t { nx := fun _ M' => Ret Q .non M', rt := Ret Q } (startD N ds) M) : FnOk P w K mg base CX0 (k + 1) f fd ps (liftSp K sp) := by
  refine F.ok S (fun vs H Q E ⟨ds, M, R, rs, _, q, _⟩ => by rw [← rs.length]; exact len _ _ _ q) fun cdv A outer s H vs Q E hr ⟨ds, M, R, rs, a, q, fin⟩ => ?_
  obtain ⟨t, h, hq⟩ := body cdv A outer s H E hr
  refine ⟨_, h, startD N ds, M, slots_start rs, a, { nx := fun _ M' => Ret R .non M', rt := Ret R }, ⟨fun δ' M' σ' H' g s' a' q' => ?_, fun d M' v H' g r a' ⟨M2, s2, q'⟩ => fin _ _ _ _ g r (a'.sub s2) q', fun _ _ _ _ _ _ _ z => z, fun _ _ _ _ _ _ _ z => z⟩, hq ds M R q⟩
  obtain ⟨M2, s2, q'⟩ := q'
  exact fin .non M2 .non H' g (by rw [Rep]) (a'.sub s2) q'
noncomputable def Txt (K : PySem.W.Frag) (mg : Str → Option Value) (x : Str) (st : Stmt) : Prop := ∃ f fd, Fun K x x st f fd ∧ mg x = some (.ref f)
theorem Txt.mk {h : Heap} {x : Str} {st : Stmt} {f : Addr} {oc : Value} {od an : Option Addr} {osl : Array (Option Value)} {kV doc pm cdv ct : Value} (X : K.In h) (G : h.Ns mainGlobals mg) (a : PySem.W.nsIn K mainGlobals x = some (some (.ref f)))
    (l : K.lookup f = some ⟨oc, od, .func (PySem.W.fnOf x x (defArgs st) (defBody st) (defScope st) .none kV doc pm an cdv ct), osl⟩)
    (c : PySem.W.codeIn K cdv x = true) (k : PySem.W.keepIn K (.ref f) = true) : Txt K mg x st := ⟨f, _, fun_mk l c k, PySem.W.mg_of X G a⟩
theorem calD {x : Str} {st : Stmt} {N ps : List Str} {k : Nat} {sp : SpD} (T : Txt K mg x st) (S : FnScope N ps (defScope st))
    (hb : ∀ (kV doc pm : Value) (an : Option Addr) (cdv ct : Value) (us : List Value), us.length = ps.length → bindArgs (PySem.W.fnOf x x (defArgs st) (defBody st) (defScope st) .none kV doc pm an cdv ct) ⟨us, []⟩ = pure (ps.zip us))
    (len : ∀ ds M Q, sp ds M Q → ds.length = ps.length)
    (body : ∀ (f : Addr) (cdv : Value) (A : Around) (outer : List Env) (s : Shared) (H : Hp) (E : XK), Room k (A.deeper (envOfC x (defScope st) s.heap.objs.size f cdv)) →
      ∃ t, DSs (cxOf CX0 P w K mg base N x (defScope st) f cdv A outer s H E).nox (defBody st) t ∧ ∀ ds M Q, sp ds M Q → t { nx := fun _ M' => Ret Q .non M', rt := Ret Q } (startD N ds) M) : Cal P w K mg base (k + 1) x sp := by
  obtain ⟨f, fd, F, hm⟩ := T
  exact ⟨f, fd, ps, fnD F S len (fun _ _ => trivial) (body f), hm, F.kp, F.binds hb⟩
end
end SD
set_option Elab.async false
set_option linter.all false
set_option maxRecDepth 100000
namespace SD
open PySem PySem.Spec PyProof.Rows L2
theorem bt_abs : bootBuiltins "abs" = some (.builtin "abs") := by decide +kernel
theorem bt_max : bootBuiltins "max" = some (.builtin "max") := by decide +kernel
theorem bt_min : bootBuiltins "min" = some (.builtin "min") := by decide +kernel
theorem bt_len : bootBuiltins "len" = some (.builtin "len") := by decide +kernel
theorem bt_tuple : bootBuiltins "tuple" = some (.type "tuple") := by decide +kernel
theorem bt_list : bootBuiltins "list" = some (.type "list") := by decide +kernel
theorem bt_int : bootBuiltins "int" = some (.type "int") := by decide +kernel
section
variable {P : Program} {w : World} {K : PySem.W.Frag} {mg : Str → Option Value}
theorem lawD {x : Str} {st : Stmt} {N : List Str} {p : Str} {k : Nat} {sp : SpD} {fa : Addr} (T : Txt K mg x st) (hfa : mg x = some (.ref fa)) (S : FnScope N [p] (defScope st))
    (hb : ∀ (kV doc pm : Value) (an : Option Addr) (cdv ct : Value) (us : List Value), us.length = [p].length → bindArgs (PySem.W.fnOf x x (defArgs st) (defBody st) (defScope st) .none kV doc pm an cdv ct) ⟨us, []⟩ = pure ([p].zip us))
    (len : ∀ ds M Q, sp ds M Q → ds.length = [p].length)
    (body : ∀ (base : Heap) (f : Addr) (cdv : Value) (A : Around) (outer : List Env) (s : Shared) (H : Hp) (E : XK), Room k (A.deeper (envOfC x (defScope st) s.heap.objs.size f cdv)) →
      ∃ t, DSs (cxOf CX0 P w K mg base N x (defScope st) f cdv A outer s H E).nox (defBody st) t ∧ ∀ ds M Q, sp ds M Q → t { nx := fun _ M' => Ret Q .non M', rt := Ret Q } (startD N ds) M) :
    ∃ fd, (∀ (s : Shared) (u : Value), BindsTo s fd ⟨[u], []⟩ [(p, u)]) ∧ ∀ base : Heap, FnOk P w K mg base CX0 (k + 1) fa fd [p] (liftSp K sp) := by
  obtain ⟨f, fd, F, hm⟩ := T
  have e := hfa.symm.trans hm
  cases e
  refine ⟨fd, fun s u => ?_, fun base => fnD F S len (fun _ _ => trivial) (body base _)⟩
  obtain ⟨oc, od, kV, doc, pm, an, cdv, ct, osl, rfl, lk, hcd⟩ := F.ex
  exact .of_eq (hb kV doc pm an cdv ct [u] rfl)
end
end SD
set_option Elab.async false
set_option linter.all false
set_option maxRecDepth 100000
namespace Ma
open PySem PySem.Spec PyProof.Rows L2 SD
noncomputable abbrev fr (q : Rat) : D := .tup [.int q.num, .int (q.den : Int)]
theorem den_pos (q : Rat) : (0 : Int) < (q.den : Int) := by have := q.den_pos; omega
noncomputable def Bq (n : Nat) (q : Rat) : Prop := Bd n q.num ∧ Bd n (q.den : Int)
theorem Bq.mono {m n : Nat} {q : Rat} (h : Bq m q) (l : m ≤ n) : Bq n q := ⟨h.1.mono l, h.2.mono l⟩
theorem fdiv_pos {t b : Int} (hb : 0 < b) : t.fdiv b = t / b := Int.fdiv_eq_ediv_of_nonneg _ (by omega)
theorem fdiv_neg {t b : Int} (hd : b ∣ t) (hb : 0 < b) : t.fdiv (-b) = -(t / b) := by
  obtain ⟨c, rfl⟩ := hd
  have hb' : b ≠ 0 := by omega
  rw [Int.mul_ediv_cancel_left _ hb']
  have : b * c = -b * -c := by rw [Int.neg_mul_neg]
  rw [this]
  exact Int.mul_fdiv_cancel_left _ (by omega)
theorem g_dvd_l (t b : Int) : ((Nat.gcd t.natAbs b.natAbs : Nat) : Int) ∣ t := Int.ofNat_dvd_left.mpr (Nat.gcd_dvd_left _ _)
theorem g_dvd_r (t b : Int) : ((Nat.gcd t.natAbs b.natAbs : Nat) : Int) ∣ b := Int.ofNat_dvd_left.mpr (Nat.gcd_dvd_right _ _)
theorem gcd_comm' (t b : Int) : Int.gcd b t = Nat.gcd t.natAbs b.natAbs := by
  unfold Int.gcd
  exact Nat.gcd_comm _ _
theorem g_pos {t b : Int} (hb : b ≠ 0) : 0 < Nat.gcd t.natAbs b.natAbs := Nat.gcd_pos_of_pos_right _ (by omega)
theorem low_pos {t b : Int} (hb : 0 < b) : t.fdiv (Nat.gcd t.natAbs b.natAbs : Nat) = (Rat.divInt t b).num ∧ b.fdiv (Nat.gcd t.natAbs b.natAbs : Nat) = ((Rat.divInt t b).den : Int) := by
  have hg := g_pos (t := t) (b := b) (by omega)
  rw [fdiv_pos (by omega), fdiv_pos (by omega), Rat.num_divInt, Rat.den_divInt, if_neg (by omega), Int.sign_eq_one_of_pos hb, Int.one_mul, gcd_comm']
  refine ⟨rfl, ?_⟩
  rw [Int.natCast_ediv]
  congr 1
  omega
theorem low_neg {t b : Int} (hb : b < 0) : t.fdiv (-((Nat.gcd t.natAbs b.natAbs : Nat) : Int)) = (Rat.divInt t b).num ∧ b.fdiv (-((Nat.gcd t.natAbs b.natAbs : Nat) : Int)) = ((Rat.divInt t b).den : Int) := by
  have hg := g_pos (t := t) (b := b) (by omega)
  rw [fdiv_neg (g_dvd_l t b) (by omega), fdiv_neg (g_dvd_r t b) (by omega), Rat.num_divInt, Rat.den_divInt, if_neg (by omega), Int.sign_eq_neg_one_of_neg hb, gcd_comm']
  constructor
  · rw [show (-1 : Int) * t = -t from by omega, Int.neg_ediv_of_dvd (g_dvd_l t b)]
  · rw [Int.natCast_ediv, show ((b.natAbs : Nat) : Int) = -b from by omega, Int.neg_ediv_of_dvd (g_dvd_r t b)]
theorem divInt_len {t b : Int} (hb : b ≠ 0) : (Rat.divInt t b).num.natAbs ≤ t.natAbs ∧ (Rat.divInt t b).den ≤ b.natAbs := by
  constructor
  · rw [Rat.num_divInt]
    refine Nat.le_trans (Int.natAbs_ediv_le_natAbs _ _) ?_
    rw [Int.natAbs_mul]
    rcases Int.lt_trichotomy b 0 with h | h | h
    · rw [Int.sign_eq_neg_one_of_neg h]; simp
    · exact absurd h hb
    · rw [Int.sign_eq_one_of_pos h]; simp
  · rw [Rat.den_divInt, if_neg hb]
    exact Nat.div_le_self _ _
theorem Bq.divInt {n : Nat} {t b : Int} (hb : b ≠ 0) (h1 : Bd n t) (h2 : Bd n b) : Bq n (Rat.divInt t b) := by
  obtain ⟨a1, a2⟩ := divInt_len (t := t) hb
  exact ⟨Nat.lt_of_le_of_lt a1 h1, Nat.lt_of_le_of_lt (by simpa using a2) h2⟩
theorem mod_nat (x y : Nat) : Int.fmod (x : Int) (y : Int) = ((x % y : Nat) : Int) := by
  rw [Int.fmod_eq_emod_of_nonneg _ (by omega)]
  rfl
theorem eqv_fr (q r : Rat) : PyData.eqv (.tuple [.int q.num, .int (q.den : Int)]) (.tuple [.int r.num, .int (r.den : Int)]) = decide (q = r) := by
  simp only [PyData.eqv, PyData.eqvAll, Bool.and_true]
  by_cases h : q = r
  · subst h; simp
  · rw [decide_eq_false h]
    rw [Bool.eq_false_iff]
    intro z
    rw [Bool.and_eq_true, beq_iff_eq, beq_iff_eq] at z
    exact h (Rat.ext z.1 (by have := z.2; omega))
theorem lt_fr (q r : Rat) : decide (q.num * (r.den : Int) < r.num * (q.den : Int)) = decide (q < r) := by
  rw [decide_eq_decide, Rat.lt_iff]
noncomputable abbrev spt (a b : Rat) : D := .tup [fr a, fr b]
theorem den_ne (q : Rat) : (q.den : Int) ≠ 0 := by have := q.den_pos; omega
theorem add_eq (q r : Rat) : Rat.divInt (q.num * (r.den : Int) + r.num * (q.den : Int)) ((q.den : Int) * (r.den : Int)) = q + r := by
  rw [← Rat.divInt_add_divInt _ _ (den_ne q) (den_ne r), Rat.num_divInt_den, Rat.num_divInt_den]
theorem sub_eq (q r : Rat) : Rat.divInt (q.num * (r.den : Int) - r.num * (q.den : Int)) ((q.den : Int) * (r.den : Int)) = q - r := by
  rw [← Rat.divInt_sub_divInt _ _ (den_ne q) (den_ne r), Rat.num_divInt_den, Rat.num_divInt_den]
theorem mul_eq (q r : Rat) : Rat.divInt (q.num * r.num) ((q.den : Int) * (r.den : Int)) = q * r := by
  rw [← Rat.divInt_mul_divInt, Rat.num_divInt_den, Rat.num_divInt_den]
theorem dd_ne (q r : Rat) : (q.den : Int) * (r.den : Int) ≠ 0 := Int.mul_ne_zero (den_ne q) (den_ne r)
theorem Bq.t_add {n : Nat} {q r : Rat} (a : Bq n q) (b : Bq n r) : Bd (2 * n + 1) (q.num * (r.den : Int) + r.num * (q.den : Int)) := ((a.1.mul b.2).add (b.1.mul a.2)).mono (by omega)
theorem Bq.t_sub {n : Nat} {q r : Rat} (a : Bq n q) (b : Bq n r) : Bd (2 * n + 1) (q.num * (r.den : Int) - r.num * (q.den : Int)) := ((a.1.mul b.2).sub (b.1.mul a.2)).mono (by omega)
theorem Bq.t_mul {n : Nat} {q r : Rat} (a : Bq n q) (b : Bq n r) : Bd (2 * n + 1) (q.num * r.num) := (a.1.mul b.1).mono (by omega)
theorem Bq.t_den {n : Nat} {q r : Rat} (a : Bq n q) (b : Bq n r) : Bd (2 * n + 1) ((q.den : Int) * (r.den : Int)) := (a.2.mul b.2).mono (by omega)
theorem Bq.add {n : Nat} {q r : Rat} (a : Bq n q) (b : Bq n r) : Bq (2 * n + 1) (q + r) := by rw [← add_eq]; exact .divInt (dd_ne q r) (a.t_add b) (a.t_den b)
theorem Bq.sub {n : Nat} {q r : Rat} (a : Bq n q) (b : Bq n r) : Bq (2 * n + 1) (q - r) := by rw [← sub_eq]; exact .divInt (dd_ne q r) (a.t_sub b) (a.t_den b)
theorem Bq.mul {n : Nat} {q r : Rat} (a : Bq n q) (b : Bq n r) : Bq (2 * n + 1) (q * r) := by rw [← mul_eq]; exact .divInt (dd_ne q r) (a.t_mul b) (a.t_den b)
theorem Bq.neg {n : Nat} {q : Rat} (a : Bq n q) : Bq n (-q) := ⟨by rw [Rat.neg_num]; exact a.1.neg, by rw [Rat.neg_den]; exact a.2⟩
theorem Bq.mOk {n : Nat} {q r : Rat} (a : Bq n q) (b : Bq n r) (h : n ≤ 8000) : IntMulOk q.num r.num ∧ IntMulOk q.num (r.den : Int) ∧ IntMulOk r.num (q.den : Int) ∧ IntMulOk (q.den : Int) (r.den : Int) :=
  have m : ∀ {i : Int}, Bd n i → Bd 1000000 i := fun z => z.mono (by omega)
  ⟨mulOk (m a.1) (m b.1), mulOk (m a.1) (m b.2), mulOk (m b.1) (m a.2), mulOk (m a.2) (m b.2)⟩
noncomputable def sgn (z : Rat) : Int := if 0 < z then 1 else if z < 0 then -1 else 0
noncomputable def cr (a b c d x y : Rat) : Rat := (c - a) * (y - b) - (d - b) * (x - a)
noncomputable abbrev wll (a b c d : Rat) : D := .tup [spt a b, spt c d]
noncomputable def ah (a b c d : Rat) : Prop := a < c ∨ a = c ∧ b < d
noncomputable instance (a b c d : Rat) : Decidable (ah a b c d) := inferInstanceAs (Decidable (_ ∨ _))
noncomputable def absq (q : Rat) : Rat := if q < 0 then -q else q
theorem Bq.absq {n : Nat} {q : Rat} (h : Bq n q) : Bq n (absq q) := by
  unfold Ma.absq
  split
  · exact h.neg
  · exact h
theorem pos_int {i : Int} (h : 0 < i) : (0 : Rat) < (i : Rat) := by
  rw [Rat.lt_iff]
  simpa using h
theorem other_way (a b c d : Rat) : (decide (c < a ∨ c = a ∧ d < b)) = (!decide (a = c ∧ b = d) && !decide (a < c ∨ a = c ∧ b < d)) := by
  rw [← decide_not, ← decide_not, ← Bool.decide_and, decide_eq_decide]
  grind
theorem pick {xs : List Int} {v : Int} (h0 : 0 ≤ v) (h1 : v < xs.length) {P : Int → Prop} (h : ∀ m ∈ xs, P m) : ∃ m, atI (xs.map D.int) v = some (.int m) ∧ P m := by
  obtain ⟨j, rfl⟩ : ∃ j : Nat, v = (j : Int) := ⟨v.toNat, by omega⟩
  have hj : j < xs.length := by omega
  exact ⟨xs[j], atI_nat (by simp [hj]), h _ (List.getElem_mem hj)⟩
end Ma
set_option Elab.async false
set_option linter.all false
set_option maxRecDepth 100000
namespace SD
open PySem PySem.Spec PyProof.Rows L2
noncomputable def clOf (names : List (Str × NameKind)) (env : Env) : List (Str × Addr) := (names.filter fun y => y.2 == .free).reverse.map fun y => (y.1, (env.cells.lookup y.1).getD 0)
theorem closure_eq {scope : Scope} {env : Env} (h : ∀ y ∈ scope.names, y.2 = .free → ∃ c, env.cells.lookup y.1 = some c) : closureFor scope env = pure (clOf scope.names env) := by
  have key : ∀ (names : List (Str × NameKind)) (acc : List (Str × Addr)), (∀ y ∈ names, y.2 = .free → ∃ c, env.cells.lookup y.1 = some c) →
      (forIn names acc (fun (x : Str × NameKind) (r : List (Str × Addr)) => if (x.2 == NameKind.free) = true then do let a ← cellOf env x.1; pure (ForInStep.yield ((x.1, a) :: r)) else pure (ForInStep.yield r)) : Sem (List (Str × Addr))) = pure (clOf names env ++ acc) := by
    intro names
    induction names with
    | nil => intro acc _; rfl
    | cons y ys ih =>
      intro acc hy
      obtain ⟨n, k⟩ := y
      rw [List.forIn_cons]
      by_cases hk : (k == NameKind.free) = true
      · obtain ⟨c, hc⟩ := hy (n, k) (List.mem_cons_self ..) (by simpa using hk)
        have e1 : cellOf env n = pure c := by unfold cellOf; rw [hc]
        dsimp only
        rw [if_pos hk, e1]
        simp only [pure_bind]
        rw [ih _ fun y hm => hy y (List.mem_cons_of_mem _ hm)]
        unfold clOf
        rw [List.filter_cons_of_pos (by simpa using hk), List.reverse_cons, List.map_append, List.append_assoc]
        simp [hc]
      · dsimp only
        rw [if_neg hk]
        simp only [pure_bind]
        rw [ih _ fun y hm => hy y (List.mem_cons_of_mem _ hm)]
        unfold clOf
        rw [List.filter_cons_of_neg (by simpa using hk)]
  have := key scope.names [] h
  rw [List.append_nil] at this
  unfold closureFor
  exact Eq.trans (congrArg (fun t : Sem (List (Str × Addr)) => t >>= fun cs => pure cs) this) rfl
theorem lookup_clOf {env : Env} {y : Str} {c : Addr} : ∀ {names : List (Str × NameKind)}, (∀ z ∈ names, z.2 = .free → ∃ c, env.cells.lookup z.1 = some c) → (clOf names env).lookup y = some c → env.cells.lookup y = some c := by
  intro names h e
  have hm := PySem.mem_of_lookup e
  unfold clOf at hm
  obtain ⟨z, hz, e2⟩ := List.mem_map.mp hm
  rw [List.mem_reverse, List.mem_filter] at hz
  obtain ⟨c', hc⟩ := h z hz.1 (by simpa using hz.2)
  rw [hc] at e2
  cases e2
  exact hc
theorem has_clOf {env : Env} {y : Str} {names : List (Str × NameKind)} (hm : (y, NameKind.free) ∈ names) : ∃ c, (clOf names env).lookup y = some c := by
  cases e : (clOf names env).lookup y with
  | some c => exact ⟨c, rfl⟩
  | none =>
    have := List.lookup_eq_none_iff.mp e (y, (env.cells.lookup y).getD 0) (List.mem_map.mpr ⟨(y, .free), List.mem_reverse.mpr (List.mem_filter.mpr ⟨hm, rfl⟩), rfl⟩)
    simp at this
theorem lookup_relabel {env : Env} (hk : env.scope.kind = .function) : ∀ {names : List (Str × NameKind)} {y : Str} {k : NameKind},
    (names.map fun (n, k) => if (k == NameKind.free && env.scope.kind == .function && env.kindOf n == some .cell) then (n, NameKind.cell) else (n, k)).lookup y = some k →
      names.lookup y = some k ∨ (k = .cell ∧ names.lookup y = some .free)
  | [], _, _, h => by simp at h
  | (n, q) :: r, y, k, h => by
    have ih := @lookup_relabel env hk r y k
    rw [List.map_cons] at h
    dsimp only at h
    by_cases hy : (y == n) = true
    · by_cases hc : (q == NameKind.free && env.scope.kind == .function && env.kindOf n == some .cell) = true
      · rw [if_pos hc, List.lookup_cons, hy] at h
        have hf : q = .free := by
          rw [Bool.and_eq_true, Bool.and_eq_true] at hc
          simpa using hc.1.1
        cases h
        right
        exact ⟨rfl, by rw [List.lookup_cons, hy, hf]⟩
      · rw [if_neg hc, List.lookup_cons, hy] at h
        left
        rw [List.lookup_cons, hy]; exact h
    · have hy' : (y == n) = false := by simpa using hy
      have h' : (r.map fun (n, k) => if (k == NameKind.free && env.scope.kind == .function && env.kindOf n == some .cell) then (n, NameKind.cell) else (n, k)).lookup y = some k := by
        split at h
        · rw [List.lookup_cons, hy'] at h; exact h
        · rw [List.lookup_cons, hy'] at h; exact h
      rw [List.lookup_cons, hy']
      exact ih h'
end SD
set_option Elab.async false
set_option linter.all false
set_option maxRecDepth 100000
namespace SD
open PySem PySem.Spec PyProof.Rows L2
theorem pi_imp {X : Cx} {tg iter : Expr} {wi wi' : TI} (h : PI X tg iter wi) (k : ∀ σ H R, wi' σ H R → wi σ H R) : PI X tg iter wi' := fun pins s σ H R I q => h pins s σ H R I (k _ _ _ q)
noncomputable def iSeq (K : PySem.W.Frag) (tl : TE) : TI := fun σ H R => tl σ H fun x H1 => ∃ a, x = .ref a ∧ (((∃ xs, SqL K H1 a xs) ∧ R (Itl K a) H1) ∨ ((∃ xs, SqT K H1 a xs) ∧ R (Itt K a) H1))
theorem pi_seq {X : Cx} {tg l : Expr} {tl : TE} (hl : PE X l tl) : PI X tg l (iSeq X.K tl) := by
  intro pins s σ H R I h
  refine thn (hl pins s σ H _ I h) fun v s1 ⟨x, H1, I1, r1, q1⟩ => ?_
  obtain ⟨a, e, z⟩ := q1
  subst e
  cases r1
  have fp : ∀ b ∈ [s1.heap.objs.size], FpOk X pins H1 b := fun b hb => by
    obtain rfl : b = s1.heap.objs.size := by simpa using hb
    exact I1.fpOk (Nat.le_refl _) (I1.hok.fresh (Nat.le_refl _))
  rcases z with ⟨⟨xs, hq⟩, q⟩ | ⟨⟨xs, hq⟩, q⟩
  · obtain ⟨its, rv, p, hz⟩ := I1.list hq
    exact wpAny_pyIter_list p.isList ⟨_, [s1.heap.objs.size], _, _, H1, rfl, I1.kept (t' := s1.toks) fun b o e => Heap.get?_push_of_some _ e, turn_list a _, ⟨_, Heap.get?_push_size _ rfl, rfl, rfl⟩, fp, q⟩
  · obtain ⟨its, rv, p, hz⟩ := I1.tuple hq
    exact wpAny_pyIter_tuple (show s1.heap.IsTuple a its.toArray from p) ⟨_, [s1.heap.objs.size], _, _, H1, rfl, I1.kept (t' := s1.toks) fun b o e => Heap.get?_push_of_some _ e, turn_tuple a _, ⟨_, Heap.get?_push_size _ rfl, rfl, rfl⟩, fp, q⟩
structure ItD where
  n : Nat
  item : Nat → Option D
  C : MH → Prop
noncomputable abbrev TID := DS → MH → (ItD → MH → Prop) → Prop
structure ItOk (K : PySem.W.Frag) (H1 : Hp) (I : ItD) (J : It) : Prop where
  stop : ∀ H2 M2, Grow K H1 H2 → Abs K H2 M2 → I.C M2 → J.stop I.n H2
  go : ∀ i H2 M2, i < I.n → Grow K H1 H2 → Abs K H2 M2 → I.C M2 → J.go i H2
  yld : ∀ i H2 M2 v H3, i < I.n → Grow K H1 H2 → Abs K H2 M2 → I.C M2 → J.yld i H2 v H3 → Grow K H2 H3 ∧ Abs K H3 M2 ∧ ∃ d, I.item i = some d ∧ Rep K H3 d v
noncomputable def liftI (K : PySem.W.Frag) (t : TID) : TI := fun σ H R => ∃ δ M RD, Slots K H δ σ ∧ Abs K H M ∧ t δ M RD ∧ ∀ I M' H' J, Grow K H H' → Abs K H' M' → RD I M' → ItOk K H' I J → R J H'
noncomputable def DI (X : Cx) (tg iter : Expr) (t : TID) : Prop := PI X tg iter (liftI X.K t)
noncomputable def seqD (M : MH) : D → List D → Prop
  | .tup ds, es => es = ds
  | .rol ds, es => es = ds
  | .ref a, es => M a = some (.lst es)
  | _, _ => False
inductive Rn1 (ds : List D) (M : MH) (R : ItD → MH → Prop) : Prop
  | mk (n : Nat) (h : ds = [.int (n : Int)]) (q : n < 2 ^ 60 ∧ R ⟨n, fun i => some (.int (i : Int)), fun _ => True⟩ M) : Rn1 ds M R
inductive Sq1 (d : D) (M : MH) (R : ItD → MH → Prop) : Prop
  | mk (ds : List D) (h : seqD M d ds) (q : R ⟨ds.length, fun i => ds[i]?, fun M => seqD M d ds⟩ M) : Sq1 d M R
noncomputable def dRng1 (ta : TAD) : TID := fun δ M R => ta δ M fun ds M1 => Rn1 ds M1 R
noncomputable def dRng2 (ta : TAD) : TID := fun δ M R => ta δ M fun ds M1 => ∃ lo hi : Int, ds = [.int lo, .int hi] ∧ (-(2 ^ 60) ≤ lo ∧ lo < 2 ^ 60 ∧ -(2 ^ 60) ≤ hi ∧ hi < 2 ^ 60) ∧ R ⟨(hi - lo).toNat, fun i => some (.int (lo + i)), fun _ => True⟩ M1
noncomputable def dSeq (tl : TD) : TID := fun δ M R => tl δ M fun d M1 => Sq1 d M1 R
section
variable {X : Cx} {tg : Expr}
theorem di_range1 {a : Expr} {ta : TAD} {p pos : Pos} (hg : Gl X "range") (hm : X.mg "range" = none) (ha : DA X [a] ta) (hs : starEach [a] X.env = [(false, eval a X.env)] := by rfl) : DI X tg (.Call (.Name "range" p) [a] [] pos) (dRng1 ta) :=
  pi_imp (pi_range1 hg hm ha hs) fun σ H R ⟨δ, M, RD, hs, hM, q, fin⟩ => ⟨δ, M, _, hs, hM, q, fun ds M1 vs H1 g1 r1 a1 z9 => by
    obtain ⟨n, e, hn, q1⟩ := z9
    subst e
    obtain ⟨v, rfl, r⟩ := reps1 r1
    rw [Rep] at r; subst r
    refine ⟨(n : Int), rfl, by omega, by omega, fin _ M1 H1 _ g1 a1 q1 ⟨fun _ _ _ _ _ => by show ((n : Int)).toNat ≤ n; simp, fun i _ _ hi _ _ _ => by show i < ((n : Int)).toNat; simpa using hi, ?_⟩⟩
    rintro i H2 M2 v H3 hi g2 a2 _ ⟨rfl, rfl⟩
    exact ⟨.refl, a2, _, rfl, by rw [Rep]; simp⟩⟩
theorem di_seq {l : Expr} {tl : TD} (hl : DE X l tl) : DI X tg l (dSeq tl) :=
  pi_imp (pi_seq hl) fun σ H R ⟨δ, M, RD, hs, hM, q, fin⟩ => ⟨δ, M, _, hs, hM, q, fun d M1 v H1 g1 r1 a1 z9 => by
    obtain ⟨ds, sq, q1⟩ := z9
    cases d with
    | tup es =>
      obtain rfl : ds = es := sq
      rw [Rep] at r1
      obtain ⟨a, xs, rfl, hq, rs⟩ := r1
      refine ⟨a, rfl, .inr ⟨⟨xs, hq⟩, fin _ M1 H1 _ g1 a1 q1 ⟨fun H2 _ g2 _ _ => ⟨xs, g2.t _ _ hq, by rw [rs.length]; exact Nat.le_refl _⟩, fun i H2 _ hi g2 _ _ => ?_, ?_⟩⟩⟩
      · have hi' : i < xs.length := by rw [← rs.length]; exact hi
        exact ⟨xs, xs[i], g2.t _ _ hq, by simp [hi']⟩
      · rintro i H2 M2 v H3 hi g2 a2 _ ⟨rfl, hy⟩
        have hi : i < ds.length := hi
        obtain ⟨x, e1, e2⟩ := (rs.mono g2).get (show ds[i]? = some ds[i] by simp [hi])
        have := hy xs (g2.t _ _ hq)
        rw [e1] at this; cases this
        exact ⟨.refl, a2, _, by simp [hi], e2⟩
    | rol es =>
      obtain rfl : ds = es := sq
      rw [Rep] at r1
      obtain ⟨a, xs, rfl, hq, rs⟩ := r1
      refine ⟨a, rfl, .inl ⟨⟨xs, hq.sql⟩, fin _ M1 H1 _ g1 a1 q1 ⟨fun H2 _ g2 _ _ => ⟨xs, (g2.f _ _ hq).sql, by rw [rs.length]; exact Nat.le_refl _⟩, fun i H2 _ hi g2 _ _ => ?_, ?_⟩⟩⟩
      · have hi' : i < xs.length := by rw [← rs.length]; exact hi
        exact ⟨xs, xs[i], (g2.f _ _ hq).sql, by simp [hi']⟩
      · rintro i H2 M2 v H3 hi g2 a2 _ ⟨rfl, hy⟩
        have hi : i < ds.length := hi
        obtain ⟨x, e1, e2⟩ := (rs.mono g2).get (show ds[i]? = some ds[i] by simp [hi])
        have := hy xs (g2.f _ _ hq).sql
        rw [e1] at this; cases this
        exact ⟨.refl, a2, _, by simp [hi], e2⟩
    | ref a =>
      rw [Rep] at r1; subst r1
      obtain ⟨xs, hx, rs⟩ := a1 _ _ (show M1 a = some (.lst ds) from sq)
      refine ⟨a, rfl, .inl ⟨⟨xs, SqL.of hx⟩, fin _ M1 H1 _ g1 a1 q1 ⟨fun H2 M2 g2 a2 c2 => ?_, fun i H2 M2 hi g2 a2 c2 => ?_, ?_⟩⟩⟩
      · obtain ⟨ys, hy, ry⟩ := a2 _ _ (show M2 a = some (.lst ds) from c2)
        exact ⟨ys, SqL.of hy, by rw [ry.length]; exact Nat.le_refl _⟩
      · obtain ⟨ys, hy, ry⟩ := a2 _ _ (show M2 a = some (.lst ds) from c2)
        have hi' : i < ys.length := by rw [← ry.length]; exact hi
        exact ⟨ys, ys[i], SqL.of hy, by simp [hi']⟩
      · rintro i H2 M2 v H3 hi g2 a2 c2 ⟨rfl, hy⟩
        have hi : i < ds.length := hi
        obtain ⟨ys, hys, ry⟩ := a2 _ _ (show M2 a = some (.lst ds) from c2)
        obtain ⟨x, e1, e2⟩ := ry.get (show ds[i]? = some ds[i] by simp [hi])
        have := hy ys (SqL.of hys)
        rw [e1] at this; cases this
        exact ⟨.refl, a2, _, by simp [hi], e2⟩
    | _ => exact sq.elim⟩
inductive ForD (g : TGD) (tb : TSD) (B : EndsD) (I : ItD) (δ0 : DS) (M0 : MH) : Prop
  | mk (W : Nat → DS → MH → Prop) (w0 : W 0 δ0 M0) (hC : ∀ i δ M, i ≤ I.n → W i δ M → I.C M) (turn : ∀ i d δ M, i < I.n → I.item i = some d → W i δ M → g d δ M fun δ2 M2 => tb { B with nx := W (i + 1), ct := W (i + 1), bk := B.nx } δ2 M2) (done : ∀ δ M, W I.n δ M → B.nx δ M) : ForD g tb B I δ0 M0
noncomputable def tForD (wd : TID) (g : TGD) (tb : TSD) : TSD := fun B δ M => wd δ M fun I M1 => ForD g tb B I δ M1
theorem ds_for {iter : Expr} {body : List Stmt} {wd : TID} {g : TGD} {tb : TSD} {pos : Pos} (hp : PassesOwn (model X.prog X.w) X.A X.env X.xe) (hc : X.calm = true) (hi : DI X tg iter wd) (hG : DG X tg g) (hb : DSs X body tb)
    (hf : ∀ x, foldedSetIterable iter X.env x = pure x := by intro _; rfl) : DSt X (.For tg iter body [] pos) (tForD wd g tb) :=
  ps_imp (ps_for hp hc hi hG hb hf) fun E σ H ⟨δ, M, hs, a, B, ok, q⟩ => ⟨δ, M, _, hs, a, q, fun I M1 H1 J g1 a1 z9 io => by
    obtain ⟨W, w0, hC, turn, done⟩ := z9
    refine ⟨fun i m σ H2 => m = I.n - i ∧ i ≤ I.n ∧ Grow X.K H1 H2 ∧ ∃ δ M, Slots X.K H2 δ σ ∧ Abs X.K H2 M ∧ W i δ M, ⟨I.n, by simp, Nat.zero_le _, .refl, δ, M1, hs.mono g1, a1, w0⟩, ?_⟩
    rintro i m σ H2 ⟨rfl, hi, g2, δ2, M2, s2, a2, w2⟩
    by_cases hlt : i < I.n
    · refine .inr ⟨io.go i H2 M2 hlt g2 a2 (hC _ _ _ hi w2), fun σ' H3 => Grow X.K H1 H3 ∧ ∃ δ M, Slots X.K H3 δ σ' ∧ Abs X.K H3 M ∧ W (i + 1) δ M, fun σ' H3 z => ⟨I.n - (i + 1), by omega, rfl, hlt, z⟩, fun x H3 y => ?_⟩
      obtain ⟨g3, a3, d, ed, rd⟩ := io.yld i H2 M2 x H3 hlt g2 a2 (hC _ _ _ hi w2) y
      refine ⟨d, δ2, M2, _, rd, s2.mono g3, a3, turn i d δ2 M2 hlt ed w2, fun δ4 M4 σ4 H4 g4 s4 a4 q4 => ⟨δ4, M4, s4, a4, _, ?_, q4⟩⟩
      have G : Grow X.K H1 H4 := (g2.trans g3).trans g4
      exact ⟨fun δ' M' σ' H' g' s' a' w' => ⟨G.trans g', δ', M', s', a', w'⟩, fun d M v H' g' => ok.rt d M v H' ((g1.trans G).trans g'), fun δ' M' σ' H' g' s' a' q' => ok.nx _ _ _ _ ((g1.trans G).trans g') s' a' q', fun δ' M' σ' H' g' s' a' w' => ⟨G.trans g', δ', M', s', a', w'⟩⟩
    · obtain rfl : i = I.n := by omega
      exact .inl ⟨io.stop H2 M2 g2 a2 (hC _ _ _ hi w2), ok.nx _ _ _ _ (g1.trans g2) s2 a2 (done δ2 M2 w2)⟩⟩
noncomputable def tAugD (i : Nat) (te : TD) (f : Int → Int → Int) : TSD := fun B δ M => ∃ k, δ[i]? = some (some (.int k)) ∧ te δ M fun y M1 => ∃ j, y = .int j ∧ B.nx (δ.set i (some (.int (f k j)))) M1
noncomputable def tForgetD (t : TD) : TD := fun δ M Q => t δ M fun d M1 => ∃ M2, Sub M2 M1 ∧ Q d M2
end
end SD
set_option Elab.async false
set_option linter.all false
set_option maxRecDepth 100000
namespace SD
noncomputable def hv (n : Nat) : Nat := if n = 0 then 0 else n.log2 + 1
end SD
namespace Ma
open SD
theorem divInt_pos {a b : Int} (h : 0 < b) : 0 < Rat.divInt a b ↔ 0 < a := by
  have h1 := Rat.divInt_nonneg_iff_of_pos_right (a := -a) h
  rw [← Rat.neg_divInt] at h1
  have : ¬ (0 ≤ -Rat.divInt a b) ↔ 0 < Rat.divInt a b := by
    constructor <;> intro z <;> grind
  rw [← this, h1]
  omega
end Ma
set_option Elab.async false
set_option linter.all false
set_option maxRecDepth 100000
namespace SD
open PySem PySem.Spec PyProof.Rows L2
noncomputable abbrev NoE : Value → Shared → Prop := fun _ _ => False
noncomputable def cN (X : Cx) (xs : List Str) (js : List Nat) : List Str := xs ++ js.map fun j => (X.N[j]?).getD ("" : Str)
noncomputable def cσ (os : L2.St) (js : List Nat) (σ : L2.St) : L2.St := os ++ js.map fun j => (σ[j]?).join
theorem cells_app : ∀ (names : List (Str × NameKind)) (n : Nat) (acc : List (Str × Addr)), cellsFrom n names acc = cellsFrom n names [] ++ acc
  | [], _, _ => rfl
  | (x, k) :: r, n, acc => by
    unfold cellsFrom
    split
    · rw [cells_app r (n + 1) ((x, n) :: acc), cells_app r (n + 1) [(x, n)], List.append_assoc]; rfl
    · exact cells_app r n acc
theorem mem_cells : ∀ (names : List (Str × NameKind)) (n : Nat) {y : Str} {c : Addr}, (y, c) ∈ cellsFrom n names [] → (y, NameKind.cell) ∈ names
  | [], _, _, _, h => by cases h
  | (x, k) :: r, n, y, c, h => by
    unfold cellsFrom at h
    split at h
    · rename_i hk
      rw [cells_app] at h
      rcases List.mem_append.mp h with h | h
      · exact List.mem_cons_of_mem _ (mem_cells r _ h)
      · have e : (y, c) = (x, n) := by simpa using h
        cases e
        obtain rfl : k = .cell := by simpa using hk
        exact List.mem_cons_self
    · exact List.mem_cons_of_mem _ (mem_cells r _ h)
theorem look_app {l r : List (Str × Addr)} {y : Str} {c : Addr} (h : (l ++ r).lookup y = some c) : l.lookup y = some c ∨ (l.lookup y = none ∧ r.lookup y = some c) := by
  rw [List.lookup_append] at h
  cases e : l.lookup y with
  | some c' => rw [e] at h; exact .inl h
  | none => rw [e] at h; exact .inr ⟨rfl, h⟩
theorem mem_clOf {env : Env} {y : Str} {c : Addr} {names : List (Str × NameKind)} (h : (clOf names env).lookup y = some c) : (y, NameKind.free) ∈ names := by
  have hm := PySem.mem_of_lookup h
  unfold clOf at hm
  obtain ⟨z, hz, e⟩ := List.mem_map.mp hm
  rw [List.mem_reverse, List.mem_filter] at hz
  obtain ⟨n, k⟩ := z
  obtain rfl : k = .free := by simpa using hz.2
  cases e
  exact hz.1
theorem relabel_keep {env : Env} {k : NameKind} (hk : k ≠ .free) : ∀ {names : List (Str × NameKind)} {x : Str}, names.lookup x = some k →
    (names.map fun (n, k) => if (k == NameKind.free && env.scope.kind == .function && env.kindOf n == some .cell) then (n, NameKind.cell) else (n, k)).lookup x = some k
  | [], _, h => by simp at h
  | (n, q) :: r, x, h => by
    have ih := @relabel_keep env k hk r x
    rw [List.map_cons]
    dsimp only
    by_cases hx : (x == n) = true
    · rw [List.lookup_cons, hx] at h
      cases h
      rw [if_neg (by intro z; rw [Bool.and_eq_true, Bool.and_eq_true] at z; exact hk (by simpa using z.1.1)), List.lookup_cons, hx]
    · have hx' : (x == n) = false := by simpa using hx
      rw [List.lookup_cons, hx'] at h
      split <;> (rw [List.lookup_cons, hx']; exact ih h)
theorem new_env {M : Model} {A : Around} {E : Value → Shared → Prop} {s : Shared} {scope : Scope} {globals : Addr} {cl : List (Str × Addr)} {qual : Str} {env : Env} {Q : Env → Shared → Prop}
    (h : Q { scope := scope, locals := s.heap.objs.size, globals := globals, cells := cellsFrom (s.heap.objs.size + 1) scope.names cl, qual := qual, func := none, code := env.code, frame := env.frame, builtins := env.builtins } { s with heap := pushCells (s.heap.push { cls := .type "dict", data := .dict #[] }) scope.names }) :
    wpAny M A (newFunctionEnv scope globals cl [] qual none .none (some env)) Q E s := by
  simp only [newFunctionEnv, Option.isSome_some, if_true]
  refine wpAny_bind (wpAny_alloc ?_)
  refine wpAny_bind (wpAny_layCells _ (fun name kind cells => by cases hkc : kind == NameKind.cell <;> simp [hkc]) _ _ _ _ ?_)
  rw [show ({ s with heap := s.heap.push { cls := .type "dict", data := .dict #[] } } : Shared).heap.objs.size = s.heap.objs.size + 1 from Heap.size_push ..]
  refine wpAny_bind ?_
  rw [List.forIn_nil]
  exact wpAny_pure (wpAny_pure h)
noncomputable def cEnv (scope : Scope) (C : Addr) (env : Env) : Env :=
  { scope := relabel scope env, locals := C, globals := env.globals, cells := cellsFrom (C + 1) scope.names (clOf scope.names env), qual := env.qual, func := none, code := env.code, frame := env.frame, builtins := env.builtins }
noncomputable def cxC (X : Cx) (xs : List Str) (js : List Nat) (scope : Scope) (C : Addr) (s : Shared) (H : Hp) (fp : List Addr) : Cx where
  prog := X.prog
  w := X.w
  K := X.K
  mg := X.mg
  base := X.base
  A := X.A
  N := cN X xs js
  s₀ := s
  H₀ := H
  env := cEnv scope C X.env
  outer := X.stack
  stack := X.stack
  ex := fp
  fn := fun y => xs.contains y
  calm := X.calm
  pn := []
  xe := fun _ _ => False
structure CScope (X : Cx) (xs : List Str) (js : List Nat) (scope : Scope) : Prop where
  kind : scope.kind = .function
  cell : ∀ y ∈ scope.names, y.2 = .cell → y.1 ∈ xs
  free' : ∀ y ∈ scope.names, y.2 = .free → y.1 ∉ xs
  names : ∀ y ∈ scope.names, y.2 = .local → scope.names.lookup y.1 = some .local
  own : ∀ x ∈ xs, scope.names.lookup x = some .local ∨ scope.names.lookup x = some .cell
  out : ∀ y ∈ scope.names, y.2 = .free → X.env.kindOf y.1 = some .cell ∨ X.env.kindOf y.1 = some .free
  nd : (cN X xs js).Nodup
  js : ∀ j ∈ js, scope.names.lookup ((X.N[j]?).getD ("" : Str)) ≠ some .local
section
variable {X : Cx} {xs : List Str} {js : List Nat} {scope : Scope} {pins : List (Addr × Obj)} {σ : L2.St} {H : Hp} {s : Shared} {fp : List Addr}
theorem CScope.cells (c : CScope X xs js scope) (ok : X.Ok) : ∀ y ∈ scope.names, y.2 = .free → ∃ a, X.env.cells.lookup y.1 = some a := fun y hy hf => ok.has _ (c.out y hy hf)
theorem CScope.clos (c : CScope X xs js scope) (ok : X.Ok) : closureFor scope X.env = pure (clOf scope.names X.env) := closure_eq (c.cells ok)
theorem CScope.kindOf (c : CScope X xs js scope) (ok : X.Ok) {C : Addr} {y : Str} {k : NameKind} (e : (cEnv scope C X.env).kindOf y = some k) : scope.names.lookup y = some k ∨ (k = .cell ∧ scope.names.lookup y = some .free) :=
  lookup_relabel ok.kind e
theorem inv_comp (c : CScope X xs js scope) (I : Inv X pins σ H s) (hf : ∀ b ∈ fp, FpOk X pins H b) (hfp : ∀ b ∈ fp, b < s.heap.objs.size) {h' : Heap} (eh : h' = pushCells (s.heap.push { cls := .type "dict", data := .dict #[] }) scope.names) (k : ∀ b o, s.heap.get? b = some o → h'.get? b = some o) :
    Inv (cxC X xs js scope s.heap.objs.size s H fp) [] (cσ (List.replicate xs.length none) js σ) H { s with heap := h' } := by
  have ok := I.ok
  have hn : h'.Ns s.heap.objs.size fun _ => none := by rw [eh]; exact (Heap.Ns.new s.heap (.type "dict")).keeps (pushCells_keeps _ _)
  have cok : CellsOk h' (s.heap.objs.size + 1) (cellsFrom (s.heap.objs.size + 1) scope.names []) := by
    have := cellsFrom_ok scope.names (s.heap.push { cls := .type "dict", data := .dict #[] }) (s.heap.objs.size + 1) [] ⟨fun _ _ hm => (nomatch hm), List.Pairwise.nil⟩ (by rw [Heap.size_push]; exact Nat.le_refl _)
    rw [Heap.size_push] at this
    rw [eh]; exact this
  have cl : ∀ {y : Str} {a : Addr}, (clOf scope.names X.env).lookup y = some a → X.env.cells.lookup y = some a := fun e => lookup_clOf (c.cells ok) e
  have olt : ∀ {y : Str} {a : Addr}, X.env.cells.lookup y = some a → a < s.heap.objs.size := fun e => by obtain ⟨v, z⟩ := I.cell _ _ e; exact z.lt
  have both : ∀ {y : Str} {a : Addr}, (cEnv scope s.heap.objs.size X.env).cells.lookup y = some a → ((y, a) ∈ cellsFrom (s.heap.objs.size + 1) scope.names [] ∧ s.heap.objs.size < a) ∨ X.env.cells.lookup y = some a := fun {y a} e => by
    have e : (cellsFrom (s.heap.objs.size + 1) scope.names (clOf scope.names X.env)).lookup y = some a := e
    rw [cells_app] at e
    rcases look_app e with z | ⟨_, z⟩
    · exact .inl ⟨PySem.mem_of_lookup z, (cok.empty _ _ (PySem.mem_of_lookup z)).2⟩
    · exact .inr (cl z)
  have free : ∀ {y : Str}, (cEnv scope s.heap.objs.size X.env).kindOf y = some .cell ∨ (cEnv scope s.heap.objs.size X.env).kindOf y = some .free → scope.names.lookup y = some .cell ∨ scope.names.lookup y = some .free := fun {y} e => by
    rcases e with e | e
    · rcases c.kindOf ok e with z | ⟨_, z⟩
      · exact .inl z
      · exact .inr z
    · rcases c.kindOf ok e with z | ⟨z, _⟩
      · exact .inr z
      · cases z
  refine ⟨⟨ok.mod, c.kind, ok.glob, ok.blt, Nat.le_refl _, fun y z a h1 h2 => ?_, fun y hy => ?_, fun y a h e => ?_, ok.hd, ok.frames, .inl rfl, fun b hb => ⟨Nat.ne_of_lt (hfp b hb), fun y a e => ?_⟩,
    I.bs, Nat.le_trans ok.bsz I.sz, fun b o e hb => ?_, fun b hb => ?_, I.stack, I.stkFree⟩, rfl, I.bare, Un.kept k, ?_, fun y a e => ?_, I.hok.fresh (Nat.le_refl _), fun y a e => ?_, fun p hp => absurd (show p ∈ ([] : List (Addr × Obj)) from hp) (by simp), I.hok.kept k, ?_⟩
  · rcases both h1 with ⟨m1, l1⟩ | o1 <;> rcases both h2 with ⟨m2, l2⟩ | o2
    · exact name_of_addr cok.apart m1 m2
    · exact absurd (olt o2) (Nat.not_lt.mpr (Nat.le_of_lt l1))
    · exact absurd (olt o1) (Nat.not_lt.mpr (Nat.le_of_lt l2))
    · exact ok.inj y z a o1 o2
  · show ∃ c, (cellsFrom (s.heap.objs.size + 1) scope.names (clOf scope.names X.env)).lookup y = some c
    rw [cells_app, List.lookup_append]
    rcases free hy with z | z
    · obtain ⟨a, e⟩ := cell_has (n := s.heap.objs.size + 1) z
      exact ⟨a, by rw [e]; rfl⟩
    · obtain ⟨a, e⟩ := has_clOf (env := X.env) (PySem.mem_of_lookup z)
      cases q : (cellsFrom (s.heap.objs.size + 1) scope.names []).lookup y with
      | none => exact ⟨a, by rw [e]; rfl⟩
      | some a' => exact ⟨a', rfl⟩
  · have hx : y ∈ xs := by simpa [cxC] using h
    have e : (cellsFrom (s.heap.objs.size + 1) scope.names (clOf scope.names X.env)).lookup y = some a := e
    rw [cells_app] at e
    rcases look_app e with z | ⟨_, z⟩
    · exact Nat.le_of_lt (cok.empty _ _ (PySem.mem_of_lookup z)).2
    · exact absurd hx (c.free' _ (mem_clOf z) rfl)
  · rcases both e with ⟨_, l⟩ | o
    · exact Nat.ne_of_gt (Nat.lt_trans (hfp b hb) l)
    · exact (hf b hb).2.2.2.2.1 y a o
  · rcases (hf b hb).2.2.2.1 with z | z
    · exact ok.noex b o e z
    · exact absurd (Nat.lt_of_lt_of_le (Nat.lt_of_lt_of_le (Heap.lt_size e) ok.bsz) z) (Nat.lt_irrefl _)
  · intro z
    rcases List.mem_cons.mp (I.stkSub b z) with y | y
    · exact (hf b hb).2.1 y
    · exact (hf b hb).2.2.1 y
  · refine ⟨_, hn, fun i y v h1 h2 h3 => ?_⟩
    have h1 : (xs ++ js.map fun j => (X.N[j]?).getD ("" : Str))[i]? = some y := h1
    have h2 : (List.replicate xs.length (none : Option V) ++ js.map fun j => (σ[j]?).join)[i]? = some (some v) := h2
    by_cases hi : i < xs.length
    · rw [List.getElem?_append_left (by simpa using hi), List.getElem?_replicate, if_pos hi] at h2
      cases h2
    · have hout : y ∉ xs := fun hy => by
        rw [List.getElem?_append_right (by omega)] at h1
        have nd := c.nd
        unfold cN at nd
        exact (List.nodup_append.mp nd).2.2 y hy y (List.mem_of_getElem? h1) rfl
      rw [List.getElem?_append_right (by omega)] at h1
      rw [List.getElem?_append_right (by simp; omega)] at h2
      rw [List.length_replicate] at h2
      rw [List.getElem?_map] at h1 h2
      cases ej : js[i - xs.length]? with
      | none => rw [ej] at h1; cases h1
      | some j =>
        rw [ej] at h1 h2
        have e1 : (X.N[j]?).getD ("" : Str) = y := Option.some.inj h1
        have e2 : (σ[j]?).join = some v := Option.some.inj h2
        have e3 : σ[j]? = some (some v) := by
          cases q : σ[j]? with
          | none => rw [q] at e2; cases e2
          | some o => rw [q] at e2; exact congrArg some e2
        have hj : j < X.N.length := by rw [← I.len]; exact (List.getElem?_eq_some_iff.mp e3).1
        have e4 : X.N[j]? = some y := by
          rw [List.getElem?_eq_getElem hj] at e1 ⊢
          exact congrArg some e1
        have nl : scope.names.lookup y ≠ some .local := by
          have := c.js j (List.mem_of_getElem? ej)
          rw [e1] at this
          exact this
        have kc : (cEnv scope s.heap.objs.size X.env).kindOf y = some .cell ∨ (cEnv scope s.heap.objs.size X.env).kindOf y = some .free := by
          rcases h3 with z | z | z
          · rcases c.kindOf (C := s.heap.objs.size) ok z with q | ⟨q, _⟩
            · exact absurd q nl
            · cases q
          · exact .inl z
          · exact .inr z
        have hm : (y, NameKind.free) ∈ scope.names := by
          rcases free kc with z | z
          · exact absurd (c.cell _ (PySem.mem_of_lookup z) rfl) hout
          · exact PySem.mem_of_lookup z
        obtain ⟨a, ha⟩ := has_clOf (env := X.env) hm
        have ha2 : (cEnv scope s.heap.objs.size X.env).cells.lookup y = some a := by
          show (cellsFrom (s.heap.objs.size + 1) scope.names (clOf scope.names X.env)).lookup y = some a
          rw [cells_app, List.lookup_append]
          cases q : (cellsFrom (s.heap.objs.size + 1) scope.names []).lookup y with
          | none => rw [ha]; rfl
          | some a' => exact absurd (c.cell _ (mem_cells _ _ (PySem.mem_of_lookup q)) rfl) hout
        have hvis : Vis X.env.scope y := by
          rcases c.out _ hm rfl with z | z
          · exact .inr (.inl z)
          · exact .inr (.inr z)
        obtain ⟨m, _, hl⟩ := I.loc
        obtain ⟨u, r, l⟩ := hl j y v e4 e3 hvis
        refine ⟨u, r, ?_⟩
        rcases l with ⟨z, _⟩ | ⟨_, a', ha', o, ho, hd⟩
        · rcases c.out _ hm rfl with q | q
          · have z' : X.env.kindOf y = some .local := z
            rw [q] at z'; cases z'
          · have z' : X.env.kindOf y = some .local := z
            rw [q] at z'; cases z'
        · refine .inr ⟨kc, a', ?_, o, k _ _ ho, hd⟩
          have := cl ha
          rw [ha'] at this
          cases this
          exact ha2
  · rcases both e with ⟨m, _⟩ | o
    · exact ⟨_, (cok.empty _ _ m).1⟩
    · obtain ⟨v, o, ho, hd⟩ := I.cell y a o
      exact ⟨v, o, k _ _ ho, hd⟩
  · rcases both e with ⟨_, l⟩ | o
    · exact I.hok.fresh (Nat.le_of_lt l)
    · exact I.freeC y a o
  · show (cσ (List.replicate xs.length none) js σ).length = (cN X xs js).length
    unfold cσ cN
    simp
end
noncomputable def PTs (X : Cx) (ifs : List Expr) (t : TT) : Prop := ∀ (pins : List (Addr × Obj)) (s : Shared) (σ : L2.St) (H : Hp) (Q : Bool → Hp → Prop), Inv X pins σ H s → t σ H Q →
  wpAny (model X.prog X.w) X.A (forIn ifs true fun c r => if r = true then do let ok ← isTrue c X.env (eval c X.env); pure (ForInStep.yield ok) else pure (ForInStep.yield r)) (TP X pins σ Q) X.xe s
theorem pts_nil {X : Cx} : PTs X [] (fun _ H Q => Q true H) := fun pins s σ H Q I q => wpAny_tests_nil ⟨H, I, q⟩
theorem comp_loop {prog : Program} {w : World} {A : Around} {R : Result → Shared → Prop} {s : Shared} {elt target iter : Expr} {ifs : List Expr} {scope : Scope} {pos : Pos} {it acc : Value} {env : Env} (J : Nat → Shared → Prop)
    (step : ∀ n s, J n s → wpAny (model prog w) A (pyNext it) (fun r s1 => match r with
      | none => R (.ok .next) s1
      | some v => wpAny (model prog w) A (letOwnedTupleGo target it v) (fun _ s2 => wpAny (model prog w) A (assign target env v) (fun _ s3 =>
          wpAny (model prog w) A (forIn ifs true fun c r => if r = true then do let ok ← isTrue c env (eval c env); pure (ForInStep.yield ok) else pure (ForInStep.yield r)) (fun ok s4 =>
            if ok = true then wpAny (model prog w) A (eval elt env) (fun x s5 => wpAny (model prog w) A (call (.builtin "list.append") [acc, x]) (fun _ s6 => ∃ m, m < n ∧ J m s6) NoE s5) NoE s4
            else ∃ m, m < n ∧ J m s4) NoE s3) NoE s2) NoE s1) NoE s)
    (n : Nat) (h : J n s) : codeAny (model prog w) A (.compLoop (.ListComp elt [⟨target, iter, ifs, 0⟩] scope pos) 0 it acc env) R s := by
  have no : ∀ {E : Value → Shared → Prop} e s', NoE e s' → E e s' := fun _ _ z => z.elim
  refine codeAny_loop rfl J (fun n s hJ => ?_) n h
  show wpAny _ _ (Sem.onRaise (compTurn (.ListComp elt [⟨target, iter, ifs, 0⟩] scope pos) 0 it acc env) (fun x => do noteFrame x env; theTreesLotGoes x)) _ _ s
  refine wpAny_noted ?_
  rw [compTurn_list]
  refine wpAny_bind (wpAny_standAt (wpAny_bind (wpAny_mono (step n s hJ) (fun r s1 h1 => ?_) no)))
  cases r with
  | none => exact wpAny_pure h1
  | some v =>
    refine wpAny_bind (wpAny_mono h1 (fun _ s2 h2 => wpAny_bind (wpAny_mono h2 (fun _ s3 h3 => wpAny_bind (wpAny_mono h3 (fun ok s4 h4 => ?_) no)) no)) no)
    cases ok with
    | false => exact wpAny_pure ⟨rfl, h4⟩
    | true => exact wpAny_bind (wpAny_bind (wpAny_mono h4 (fun x s5 h5 => wpAny_bind (wpAny_mono h5 (fun _ s6 h6 => wpAny_pure (wpAny_pure ⟨rfl, h6⟩)) no)) no))
noncomputable abbrev Own := V → Hp → L2.St → Prop
structure TgOk (n : Nat) (g : TG) (own : Own) : Prop where
  len : ∀ y H os, own y H os → os.length = n
  run : ∀ y H os0 tail os (Q : L2.St → Hp → Prop), os0.length = n → own y H os → Q (os ++ tail) H → g y (os0 ++ tail) H Q
noncomputable def wComp (js : List Nat) (own : Own) (tc : TT) (te : TE) (σ : L2.St) (J : It) (H1 : Hp) (Q : VK) : Prop := ∀ D, H1 D = none → ∃ W : Nat → Nat → Hp → Prop, (∃ m, W 0 m (upd H1 D (.lst []))) ∧ ∀ i m H, W i m H →
  (J.stop i H ∧ Q (.ref D) H) ∨ (J.go i H ∧ ∀ y H', J.yld i H y H' → ∃ os, own y H' os ∧ tc (cσ os js σ) H' fun b H2 => if b = true then
    te (cσ os js σ) H2 fun v H3 => ∃ xs, H3 D = some (.lst xs) ∧ xs.length < sizeLine ∧ ∃ m', m' < m ∧ W (i + 1) m' (upd H3 D (.lst (xs ++ [v]))) else ∃ m', m' < m ∧ W (i + 1) m' H2)
noncomputable def tCompL (js : List Nat) (own : Own) (wi : TI) (tc : TT) (te : TE) : TE := fun σ H Q => wi σ H fun J H1 => wComp js own tc te σ J H1 Q
section
variable {X : Cx} {xs : List Str} {tg : Expr} {pos : Pos} {js : List Nat} {scope : Scope} {elt iter : Expr} {ifs : List Expr} {te : TE} {tc : TT} {g : TG} {own : Own} {wi : TI} {pins : List (Addr × Obj)} {σ : L2.St} {H : Hp} {s : Shared} {fp : List Addr} {it : Addr} {tn : Nat → Heap → Prop} {J : It}
theorem comp_run (c : CScope X xs js scope) (hc : X.calm = true) (hG : TgOk xs.length g own) (hg : ∀ C s H fp, PG (cxC X xs js scope C s H fp) tg g) (ht : ∀ C s H fp, PTs (cxC X xs js scope C s H fp) ifs tc) (he : ∀ C s H fp, PE (cxC X xs js scope C s H fp) elt te)
    {R : Value → Addr → Result → Shared → Prop} {E : Value → Shared → Prop} {Q : VK}
    (I : Inv X pins σ H s) (T : Turn X.prog X.w X.K tg J fp it tn) (st : tn 0 s.heap) (hf : ∀ b ∈ fp, FpOk X pins H b) (wc : wComp js own tc te σ J H Q)
    (hR : ∀ D C H' s', Inv X pins σ H' s' → FpOk X pins H' C → (∃ m, s'.heap.Ns C m) → Q (.ref D) H' → R (.ref D) C (.ok .next) s') :
    wpAny (model X.prog X.w) X.A (newList []) (fun acc s₃ => wpAny (model X.prog X.w) X.A (newFunctionEnv scope X.env.globals (clOf scope.names X.env) [] X.env.qual none .none (some X.env)) (fun cenv s₄ =>
      codeAny (model X.prog X.w) X.A (.compStart (.ListComp elt [⟨tg, iter, ifs, 0⟩] scope pos) 0 (.ref it) acc { cenv with scope := relabel scope X.env }) (R acc cenv.locals) s₄) E s₃) E s := by
  have hfp : ∀ b ∈ fp, b < s.heap.objs.size := fun b hb => let ⟨o, e, _⟩ := T.obj 0 _ st b hb; Heap.lt_size e
  have hD : H s.heap.objs.size = none := I.hok.fresh (Nat.le_refl _)
  refine wpAny_newObj_type (new_env ?_)
  generalize hh : s.heap.push { cls := .type "list", dict := none, data := .seq ([] : List Value).toArray } = h3
  generalize hh1 : pushCells (({ s with heap := h3 } : Shared).heap.push { cls := .type "dict", data := .dict #[] }) scope.names = h₁
  have k3 : ∀ b o, s.heap.get? b = some o → h3.get? b = some o := fun b o e => by rw [← hh]; exact Heap.get?_push_of_some _ e
  have I3 : Inv X pins σ (upd H s.heap.objs.size (.lst [])) { s with heap := h3 } := by
    refine I.laid (t' := s.toks) k3 (Nat.le_refl _) ?_
    refine ⟨Nat.zero_le _, [], 0, .nil, ?_⟩
    rw [← hh]
    exact Heap.get?_push_size _ rfl
  have hf3 : ∀ b ∈ fp, FpOk X pins (upd H s.heap.objs.size (.lst [])) b := fun b hb => ⟨by rw [upd_ne (Nat.ne_of_lt (hfp b hb))]; exact (hf b hb).1, (hf b hb).2⟩
  have hsz : h3.objs.size = s.heap.objs.size + 1 := by rw [← hh, Heap.size_push]
  have hfp3 : ∀ b ∈ fp, b < h3.objs.size := fun b hb => by rw [hsz]; exact Nat.lt_succ_of_lt (hfp b hb)
  have k4 : ∀ b o, h3.get? b = some o → h₁.get? b = some o := fun b o e => by rw [← hh1]; exact pushCells_keeps _ _ b o (Heap.get?_push_of_some _ e)
  have I4 := inv_comp c I3 hf3 hfp3 (h' := h₁) hh1.symm k4
  obtain ⟨W, ⟨m0, w0⟩, turn⟩ := wc _ hD
  have st4 : tn 0 h₁ := T.keep 0 _ _ st fun b hb o e => k4 b o (k3 b o e)
  generalize hX : cxC X xs js scope h3.objs.size { s with heap := h3 } (upd H s.heap.objs.size (.lst [])) fp = X' at I4
  have fok : ∀ {pins' : List (Addr × Obj)} {H' : Hp} {σ' : L2.St} {s' : Shared}, Inv X' [] σ' H' s' → (∀ b ∈ fp, H' b = none) → ∀ b ∈ fp, FpOk X' [] H' b := fun {pins' H' σ' s'} J' hn b hb => by
    subst hX
    obtain ⟨a1, a2⟩ := J'.ok.exf b hb
    exact ⟨hn b hb, a1, J'.ok.exfs b hb, .inl hb, a2, fun p hp => absurd (show p ∈ ([] : List (Addr × Obj)) from hp) (by simp)⟩
  have loop : codeAny (model X.prog X.w) X.A (.compLoop (.ListComp elt [⟨tg, iter, ifs, 0⟩] scope pos) 0 (.ref it) (.ref s.heap.objs.size) (cEnv scope h3.objs.size X.env)) (R (.ref s.heap.objs.size) h3.objs.size)
      { s with heap := h₁ } := by
    refine comp_loop (fun n s' => ∃ i os H', os.length = xs.length ∧ Inv X' [] (cσ os js σ) H' s' ∧ tn i s'.heap ∧ (∀ b ∈ fp, H' b = none) ∧ W i n H') ?_ m0 ⟨0, _, _, by simp, I4, st4, fun b hb => (hf3 b hb).1, w0⟩
    rintro n s5 ⟨i, os, H5, hl5, I5, st5, fr5, w5⟩
    rcases turn i n H5 w5 with ⟨stop, q⟩ | ⟨go, step⟩
    · subst hX
      refine wpAny_mono (T.done (cxC X xs js scope h3.objs.size { s with heap := h3 } (upd H s.heap.objs.size (.lst [])) fp) rfl rfl rfl hc i [] s5 _ H5 NoE I5 (fok (pins' := []) I5 fr5) st5 stop) (fun r s6 ⟨hr, I6⟩ => ?_) fun _ _ z => z
      subst hr
      refine hR _ _ H5 s6 (I3.call' I6.os I6.base I6.hok I6.bare fun b hb => ⟨(hf3 b hb).2.2.2.1, (hf3 b hb).2.1, (hf3 b hb).2.2.2.2.1, (hf3 b hb).2.2.2.2.2⟩) (I3.fpOk (Nat.le_refl _) I6.free) (let ⟨m, hm, _⟩ := I6.loc; ⟨m, hm⟩) q
    · subst hX
      refine wpAny_mono (T.item (cxC X xs js scope h3.objs.size { s with heap := h3 } (upd H s.heap.objs.size (.lst [])) fp) rfl rfl rfl hc i [] s5 _ H5 NoE I5 (fok (pins' := []) I5 fr5) st5 go) (fun r s6 ⟨u, hr, h6⟩ => ?_) fun _ _ z => z
      subst hr
      refine wpAny_mono h6 (fun _ s7 ⟨y, H7, I7, r7, y7, st7, fr7⟩ => ?_) fun _ _ z => z
      have I7' := I7.pinned (fok (pins' := []) I7 fr7) (T.obj _ _ st7)
      obtain ⟨os8, ow8, q8⟩ := step y H7 y7
      have l8 := hG.len _ _ _ ow8
      refine wpAny_mono (hg _ _ _ _ _ s7 _ H7 y u (fun σ' H' => σ' = cσ os8 js σ ∧ H' = H7) I7' r7 (hG.run y H7 os _ os8 _ hl5 ow8 ⟨rfl, rfl⟩)) (fun _ s8 ⟨σ8, H8, I8, e8, e8'⟩ => ?_) fun _ _ z => z
      subst e8 e8'
      refine wpAny_mono (ht _ _ _ _ _ s8 _ _ _ I8 q8) (fun ok s9 ⟨H9, I9, q9⟩ => ?_) fun _ _ z => z
      have back : ∀ {m' : Nat} {H10 : Hp} {s10 : Shared}, Inv (cxC X xs js scope h3.objs.size { s with heap := h3 } (upd H s.heap.objs.size (.lst [])) fp) ([] ++ pinsAt fp s7.heap) (cσ os8 js σ) H10 s10 → m' < n → W (i + 1) m' H10 →
          ∃ m, m < n ∧ ∃ i os H', os.length = xs.length ∧ Inv (cxC X xs js scope h3.objs.size { s with heap := h3 } (upd H s.heap.objs.size (.lst [])) fp) [] (cσ os js σ) H' s10 ∧ tn i s10.heap ∧ (∀ b ∈ fp, H' b = none) ∧ W i m H' := fun {m' H10 s10} I10 hm' w10 => by
        refine ⟨m', hm', i + 1, os8, H10, l8, I10.unpinned, T.keep _ _ _ st7 fun b hb o e => (I10.pin (b, o) (List.mem_append_right _ (List.mem_append_right _ (mem_pinsAt hb e)))).1, fun b hb => ?_, w10⟩
        obtain ⟨o', e, d⟩ := T.obj _ _ st7 b hb
        exact (I10.pin (b, o') (List.mem_append_right _ (List.mem_append_right _ (mem_pinsAt hb e)))).2.1
      cases ok with
      | false =>
        rw [if_neg Bool.false_ne_true] at q9 ⊢
        obtain ⟨m', hm', w9⟩ := q9
        exact back I9 hm' w9
      | true =>
        rw [if_pos rfl] at q9 ⊢
        refine wpAny_mono (he _ _ _ _ _ s9 _ _ _ I9 q9) (fun v s10 ⟨vv, H10, I10, r10, ys, hd10, hl10, q10⟩ => ?_) fun _ _ z => z
        refine wpAny_mono (mt_append (X := (cxC X xs js scope h3.objs.size { s with heap := h3 } (upd H s.heap.objs.size (.lst [])) fp)) _ s10 _ H10 (.ref s.heap.objs.size) [vv] (.ref s.heap.objs.size) [v] (fun _ H' => ∃ m', m' < n ∧ W (i + 1) m' H') I10 rfl (.cons r10 .nil) ⟨_, ys, vv, rfl, rfl, hd10, hl10, q10⟩) (fun _ s11 ⟨_, H11, I11, _, m', hm', w11⟩ => ?_) fun _ _ z => z
        exact back I11 hm' w11
  exact codeAny_compStart_list loop (T.self X.A 0 _ _ _ st4 loop)
theorem pe_comp (c : CScope X xs js scope) (hc : X.calm = true) (hi : PI X tg iter wi) (hG : TgOk xs.length g own) (hg : ∀ C s H fp, PG (cxC X xs js scope C s H fp) tg g) (ht : ∀ C s H fp, PTs (cxC X xs js scope C s H fp) ifs tc) (he : ∀ C s H fp, PE (cxC X xs js scope C s H fp) elt te) (hs : ∀ x, foldedSetIterable iter X.env x = pure x := by intro _; rfl) :
    PE X (.ListComp elt [⟨tg, iter, ifs, 0⟩] scope pos) (tCompL js own wi tc te) := by
  intro pins s σ H Q I h
  rw [eval_ListComp]
  refine wpAny_comprehension_free (use := none) rfl hs (c.clos I.ok) c.kind c.names (thn (hi pins s σ H _ I h) fun v s1 h1 => thn h1 fun itv s2 ⟨it, fp, tn, J, H2, e, I2, T, st, f2, w⟩ => ?_)
  subst e
  refine comp_run (R := fun acc C => compPost (model X.prog X.w) X.A X.xe none (EP X pins σ Q) acc C) c hc hG hg ht he I2 T st f2 w fun D C H' s' I' fC ⟨m, hm⟩ q => ?_
  exact ⟨m, hm, fun h' hsb => ⟨.ref D, H', I'.turned (t' := s'.toks) (fun b o ne e => hsb.extBut b o ne e) fC.1 fC.2.1 fC.2.2.2.1 fC.2.2.2.2.1 fC.2.2.2.2.2, rfl, q⟩⟩
theorem ps_comp {i : Nat} {y : Str} {py spos : Pos} (c : CScope X xs js scope) (hc : X.calm = true) (hN : X.N.Nodup) (hi : PI X tg iter wi) (hG : TgOk xs.length g own) (hg : ∀ C s H fp, PG (cxC X xs js scope C s H fp) tg g) (ht : ∀ C s H fp, PTs (cxC X xs js scope C s H fp) ifs tc) (he : ∀ C s H fp, PE (cxC X xs js scope C s H fp) elt te) (hy : X.N[i]? = some y) (hl : X.env.scope.names.lookup y = some .local)
    (hsw : swapsWith (.ListComp elt [⟨tg, iter, ifs, 0⟩] scope pos) (some (.Name y py)) spos.line X.env = pure true) (hs : ∀ x, foldedSetIterable iter X.env x = pure x := by intro _; rfl) :
    PS X (.Assign [.Name y py] (.ListComp elt [⟨tg, iter, ifs, 0⟩] scope pos) spos) (tAsg (tCompL js own wi tc te) (gName i)) := by
  intro pins s σ H B I h
  rw [exec_Assign_Name_used _ _ _ _ hsw]
  refine wpAny_bind (wpAny_standAt (wpAny_bind ?_))
  show wpAny _ X.A (do let _ ← comprehension (.ListComp elt [⟨tg, iter, ifs, 0⟩] scope pos) scope X.env _ (newList []) false (eval iter X.env) (some (assign (.Name y py) X.env))) _ _ s
  refine wpAny_bind (wpAny_mono (wpAny_comprehension_free (use := some (assign (.Name y py) X.env)) (Q := fun _ s' => SP X pins B .next s') rfl hs (c.clos I.ok) c.kind c.names
    (thn (hi pins s σ H _ I h) fun v s1 h1 => thn h1 fun itv s2 z => ?_)) (fun _ s' hq => wpAny_pure (wpAny_pure hq)) fun _ _ e => e)
  obtain ⟨it, fp, tn, J, H2, e, I2, T, st, f2, w⟩ := z
  subst e
  refine comp_run (R := fun acc C => compPost (model X.prog X.w) X.A X.xe (some (assign (.Name y py) X.env)) (fun _ s' => SP X pins B .next s') acc C) c hc hG hg ht he I2 T st f2 w fun D C H' s' I' fC ⟨m, hm⟩ q => ?_
  show wpAny _ X.A (assign (.Name y py) X.env (.ref D)) _ _ _
  refine wpAny_assign_Name (store_ok2 I' hN hy (.inl hl) (v := .ref D) rfl (fun s9 I9 ⟨a, sb, ha⟩ => ?_) (.inr hl))
  have hne : C ≠ a := by
    rcases ha with z | z
    · rw [z]; exact fC.2.1
    · exact fun e => fC.2.2.2.2.1 y a z e.symm
  refine ⟨m, hm.sameBut sb hne, fun h' hsb => ?_⟩
  exact ⟨_, H', I9.turned (t' := s9.toks) (fun b o ne e => hsb.extBut b o ne e) fC.1 fC.2.1 fC.2.2.2.1 fC.2.2.2.2.1 fC.2.2.2.2.2, q⟩
end
end SD
set_option Elab.async false
set_option linter.all false
namespace SD
theorem ln_1 {α : Type} {l : List α} (h : l.length = 1) : ∃ a, l = [a] := by
  cases l with
  | nil => cases h
  | cons a l =>
    cases l with
    | nil => exact ⟨a, rfl⟩
    | cons b l => cases h
theorem ln_s {α : Type} {n : Nat} {l : List α} (h : l.length = n + 1) : ∃ a r, l = a :: r ∧ r.length = n := by
  cases l with
  | nil => cases h
  | cons a l => exact ⟨a, l, rfl, Nat.succ.inj h⟩
theorem ln_2 {α : Type} {l : List α} (h : l.length = 2) : ∃ a b, l = [a, b] := by
  obtain ⟨a, r, rfl, h2⟩ := ln_s h
  obtain ⟨b, rfl⟩ := ln_1 h2
  exact ⟨a, b, rfl⟩
end SD
set_option Elab.async false
set_option linter.all false
set_option maxRecDepth 100000
namespace SD
open PySem PySem.Spec PyProof.Rows L2
inductive Tgt where
  | one | many (n : Nat)
noncomputable def Tgt.len : Tgt → Nat
  | .one => 1
  | .many n => n
noncomputable def ownV (K : PySem.W.Frag) : Tgt → Own
  | .one => fun y _ os => os = [some y]
  | .many n => fun y H os => ∃ a xs, y = .ref a ∧ SqT K H a xs ∧ xs.length = n ∧ os = xs.map some
theorem tg_one {K : PySem.W.Frag} : TgOk 1 (gName 0) (ownV K .one) := ⟨fun _ _ os h => by rw [h]; rfl, fun y H os0 tail os Q hl ho q => by
  obtain ⟨o, rfl⟩ := ln_1 hl
  rw [show os = [some y] from ho] at q; exact q⟩
theorem tg_two {K : PySem.W.Frag} : TgOk 2 (gTup K 2 (gCons (gName 0) (gCons (gName 1) gNil))) (ownV K (.many 2)) := ⟨fun _ _ os z => by
    obtain ⟨a, xs, _, _, hl, e⟩ := z
    rw [e]; simpa using hl, fun y H os0 tail os Q hl z q => by
  obtain ⟨a, xs, e, hq, hx, ho⟩ := z
  obtain ⟨o, o', rfl⟩ := ln_2 hl
  obtain ⟨u, v, rfl⟩ := ln_2 hx
  rw [ho] at q; exact ⟨a, _, e, hq, hx, u, _, rfl, v, _, rfl, rfl, q⟩⟩
noncomputable def ownD : Tgt → D → DS → Prop
  | .one, d, os => os = [some d]
  | .many n, d, os => ∃ ds, d = .tup ds ∧ ds.length = n ∧ os = ds.map some
noncomputable def cδ (os : DS) (js : List Nat) (δ : DS) : DS := os ++ js.map fun j => (δ[j]?).join
theorem slots_c {K : PySem.W.Frag} {H : Hp} {δ os : DS} {σ us : L2.St} {js : List Nat} (hs : Slots K H δ σ) (r : Slots K H os us) : Slots K H (cδ os js δ) (cσ us js σ) := by
  refine ⟨by simp [cδ, cσ, r.len], fun i e q => ?_⟩
  unfold cδ at q
  unfold cσ
  by_cases hi : i < os.length
  · rw [List.getElem?_append_left hi] at q
    rw [List.getElem?_append_left (by rw [← r.len]; exact hi)]
    exact r.at' i e q
  · rw [List.getElem?_append_right (by omega)] at q
    rw [List.getElem?_append_right (by rw [← r.len]; omega), ← r.len]
    rw [List.getElem?_map] at q ⊢
    cases ej : js[i - os.length]? with
    | none => rw [ej] at q; cases q
    | some j =>
      rw [ej] at q
      have e2 : (δ[j]?).join = some e := Option.some.inj q
      have e3 : δ[j]? = some (some e) := by
        cases z : δ[j]? with
        | none => rw [z] at e2; cases e2
        | some o => rw [z] at e2; exact congrArg some e2
      obtain ⟨v', e4, e5⟩ := hs.at' j e e3
      exact ⟨v', by rw [show (some j).map (fun j => (σ[j]?).join) = some ((σ[j]?).join) from rfl, e4]; rfl, e5⟩
theorem slots_all {K : PySem.W.Frag} {H : Hp} {ds : List D} {xs : List V} (r : Reps K H ds xs) : Slots K H (ds.map some) (xs.map some) := by
  refine ⟨by simp [r.length], fun i d e => ?_⟩
  rw [List.getElem?_map] at e ⊢
  cases q : ds[i]? with
  | none => rw [q] at e; cases e
  | some d' =>
    rw [q] at e; cases e
    obtain ⟨x, e1, e2⟩ := r.get q
    exact ⟨x, by rw [e1]; rfl, e2⟩
theorem own_lift {K : PySem.W.Frag} {H : Hp} {tk : Tgt} {d : D} {v : V} {os : DS} (r : Rep K H d v) (h : ownD tk d os) : ∃ us, ownV K tk v H us ∧ Slots K H os us := by
  cases tk with
  | one =>
    rw [show os = [some d] from h]
    exact ⟨[some v], rfl, slots_all (.cons r .nil)⟩
  | many n =>
    obtain ⟨ds, rfl, hl, rfl⟩ := h
    rw [Rep] at r
    obtain ⟨a, xs, rfl, hq, rs⟩ := r
    exact ⟨_, ⟨a, xs, rfl, hq, by rw [← rs.length]; exact hl, rfl⟩, slots_all rs⟩
noncomputable def tTrueD : TTD := fun _ M Q => Q true M
noncomputable def kComp (I : ItD) (tk : Tgt) (js : List Nat) (tc : TTD) (te : TD) (δ : DS) (M1 : MH) (Q : DK) : Prop := I.n ≤ 1000000 ∧ ∀ p, M1 p = none → ∃ W : Nat → List D → MH → Prop, W 0 [] (updM M1 p (.lst [])) ∧ (∀ i ys M, i ≤ I.n → W i ys M → I.C M) ∧
  (∀ i ys d M, i < I.n → I.item i = some d → W i ys M → ∃ os, ownD tk d os ∧ tc (cδ os js δ) M fun b M2 => if b = true then te (cδ os js δ) M2 fun e M' => ∃ M3, Sub M3 M' ∧ M3 p = some (.lst ys) ∧ W (i + 1) (ys ++ [e]) (updM M3 p (.lst (ys ++ [e]))) else ∃ M3, Sub M3 M2 ∧ W (i + 1) ys M3) ∧ ∀ ys M, W I.n ys M → Q (.ref p) M
noncomputable def tCompD (wd : TID) (tk : Tgt) (js : List Nat) (tc : TTD) (te : TD) : TD := fun δ M Q => wd δ M fun I M1 => kComp I tk js tc te δ M1 Q
section
variable {X : Cx} {K : PySem.W.Frag}
theorem comp_lift {wd : TID} {tk : Tgt} {js : List Nat} {tc : TTD} {te : TD} {σ : L2.St} {H : Hp} {Q : VK} (h : lift K (tCompD wd tk js tc te) σ H Q) : tCompL js (ownV K tk) (liftI K wd) (liftT K tc) (lift K te) σ H Q := by
  obtain ⟨δ, M, R, hs, hM, q, fin⟩ := h
  refine ⟨δ, M, _, hs, hM, q, fun I M1 H1 J g1 a1 kc io p hp => ?_⟩
  obtain ⟨hn, kc⟩ := kc
  obtain ⟨W, w0, hC, turn, done⟩ := kc p (a1.fresh hp)
  refine ⟨fun i m H2 => m = I.n - i ∧ i ≤ I.n ∧ Grow K H1 H2 ∧ ∃ ys M, ys.length ≤ i ∧ Abs K H2 M ∧ W i ys M, ⟨I.n, by simp, Nat.zero_le _, .new hp, [], _, Nat.le_refl _, a1.newL hp .nil, w0⟩, ?_⟩
  rintro i m H2 ⟨rfl, hi, g2, ys, M2, hl, a2, w2⟩
  by_cases hin : i < I.n
  · refine .inr ⟨io.go i H2 M2 hin g2 a2 (hC _ _ _ hi w2), fun v H3 hy => ?_⟩
    obtain ⟨g3, a3, d, ed, rd⟩ := io.yld i H2 M2 v H3 hin g2 a2 (hC _ _ _ hi w2) hy
    obtain ⟨os, ow, q3⟩ := turn i ys d M2 hin ed w2
    obtain ⟨us, uv, su⟩ := own_lift rd ow
    have s3 := slots_c (js := js) (hs.mono ((g1.trans g2).trans g3)) su
    refine ⟨us, uv, cδ os js δ, M2, _, s3, a3, q3, fun b M4 H4 g4 a4 q4 => ?_⟩
    cases b with
    | false =>
      rw [if_neg Bool.false_ne_true] at q4 ⊢
      obtain ⟨M5, s5, w5⟩ := q4
      exact ⟨I.n - (i + 1), by omega, rfl, hin, (g2.trans g3).trans g4, ys, M5, by omega, a4.sub s5, w5⟩
    | true =>
      rw [if_pos rfl] at q4 ⊢
      refine ⟨cδ os js δ, M4, _, s3.mono g4, a4, q4, fun e M' u H5 g5 r5 a5 ⟨M6, s6, e6, w6⟩ => ?_⟩
      obtain ⟨zs, hx, rs⟩ := (a5.sub s6) _ _ e6
      refine ⟨zs, hx, ?_, I.n - (i + 1), by omega, rfl, hin, (((g2.trans g3).trans g4).trans g5).trans (.lst hx), ys ++ [e], _, by simp; omega, (a5.sub s6).setL hx (rs.append (.cons r5 .nil)), w6⟩
      rw [← rs.length]
      exact Nat.lt_of_le_of_lt hl (Nat.lt_of_lt_of_le hin (Nat.le_trans hn (by decide)))
  · obtain rfl : i = I.n := by omega
    exact .inl ⟨io.stop H2 M2 g2 a2 (hC _ _ _ hi w2), fin _ _ _ _ (g1.trans g2) (by rw [Rep]) a2 (done ys M2 w2)⟩
variable {xs : List Str} {tg : Expr} {pos : Pos} {js : List Nat} {scope : Scope} {elt iter : Expr} {ifs : List Expr} {te : TD} {tc : TTD} {g : TG} {tk : Tgt} {wd : TID}
noncomputable def DTs (X : Cx) (ifs : List Expr) (t : TTD) : Prop := PTs X ifs (liftT X.K t)
theorem dts_nil : DTs X [] tTrueD := fun pins s σ H Q I ⟨δ, M, R, hs, hM, q, fin⟩ => pts_nil pins s σ H Q I (fin _ _ _ .refl hM q)
theorem de_comp (c : CScope X xs js scope) (hc : X.calm = true) (hi : DI X tg iter wd) (hG : TgOk xs.length g (ownV X.K tk)) (hg : ∀ C s H fp, PG (cxC X xs js scope C s H fp) tg g) (ht : ∀ C s H fp, DTs (cxC X xs js scope C s H fp) ifs tc) (he : ∀ C s H fp, DE (cxC X xs js scope C s H fp) elt te)
    (hs : ∀ x, foldedSetIterable iter X.env x = pure x := by intro _; rfl) : DE X (.ListComp elt [⟨tg, iter, ifs, 0⟩] scope pos) (tCompD wd tk js tc te) :=
  pe_imp (pe_comp (te := lift X.K te) (tc := liftT X.K tc) c hc hi hG hg ht he hs) fun _ _ _ h => comp_lift h
theorem ds_comp (i : Nat) {y : Str} {py spos : Pos} (hN : X.N.Nodup) (c : CScope X xs js scope) (hc : X.calm = true) (hi : DI X tg iter wd) (hG : TgOk xs.length g (ownV X.K tk)) (hg : ∀ C s H fp, PG (cxC X xs js scope C s H fp) tg g) (ht : ∀ C s H fp, DTs (cxC X xs js scope C s H fp) ifs tc) (he : ∀ C s H fp, DE (cxC X xs js scope C s H fp) elt te)
    (hy : X.N[i]? = some y := by rfl) (hl : X.env.scope.names.lookup y = some .local := by rfl)
    (hsw : swapsWith (.ListComp elt [⟨tg, iter, ifs, 0⟩] scope pos) (some (.Name y py)) spos.line X.env = pure true := by rfl) (hs : ∀ x, foldedSetIterable iter X.env x = pure x := by intro _; rfl) :
    DSt X (.Assign [.Name y py] (.ListComp elt [⟨tg, iter, ifs, 0⟩] scope pos) spos) (tAsgD (tCompD wd tk js tc te) (gNameD i)) :=
  ps_imp (ps_comp (te := lift X.K te) (tc := liftT X.K tc) c hc hN hi hG hg ht he hy hl hsw hs) fun E σ H ⟨δ, M, hs, a, B, ok, q⟩ =>
    comp_lift ⟨δ, M, _, hs, a, q, fun d M1 v H1 g1 r1 a1 q1 => ok.nx _ _ _ _ g1 ((hs.mono g1).set r1 i) a1 q1⟩
theorem comp_map {I : ItD} {tk : Tgt} {js : List Nat} {te : TD} {δ : DS} {M1 : MH} {Q : DK} (f : Nat → D) (hn : I.n ≤ 1000000) (hC : ∀ p ys, M1 p = none → I.C (updM M1 p (.lst ys)))
    (h : ∀ i d M, i < I.n → I.item i = some d → Sub M1 M → ∃ os, ownD tk d os ∧ ∀ K : DK, (∀ M', Sub M M' → K (f i) M') → te (cδ os js δ) M K) (hq : ∀ p, M1 p = none → Q (.ref p) (updM M1 p (.lst ((List.range I.n).map f)))) : kComp I tk js tTrueD te δ M1 Q := by
  refine ⟨hn, fun p hp => ⟨fun i ys M => ys = (List.range i).map f ∧ M = updM M1 p (.lst ys), ⟨rfl, rfl⟩, ?_, ?_, ?_⟩⟩
  · rintro i ys M _ ⟨_, rfl⟩
    exact hC p ys hp
  · rintro i ys d M hi hd ⟨rfl, rfl⟩
    obtain ⟨os, ow, k⟩ := h i d _ hi hd (.new hp .refl)
    refine ⟨os, ow, ?_⟩
    unfold tTrueD
    refine iteT (k _ ?_)
    exact fun M' s' => ⟨_, s', updM_same, by rw [List.range_succ, List.map_append]; rfl, by rw [updM_updM]⟩
  · rintro ys M ⟨rfl, rfl⟩
    exact hq p hp
end
noncomputable def cchk (X : Cx) (xs : List Str) (js : List Nat) (scope : Scope) : Bool :=
  scope.kind == .function && scope.names.all (fun y => (y.2 != .cell || xs.contains y.1) && (y.2 != .free || !xs.contains y.1)) && scope.names.all (fun y => y.2 != .local || scope.names.lookup y.1 == some .local) && xs.all (fun x => scope.names.lookup x == some .local || scope.names.lookup x == some .cell) &&
    scope.names.all (fun y => y.2 != .free || (X.env.kindOf y.1 == some .cell || X.env.kindOf y.1 == some .free)) && decide (cN X xs js).Nodup && js.all (fun j => scope.names.lookup ((X.N[j]?).getD ("" : Str)) != some .local)
theorem CScope.of {X : Cx} {xs : List Str} {js : List Nat} {scope : Scope} (h : cchk X xs js scope = true) : CScope X xs js scope := by
  unfold cchk at h
  simp only [Bool.and_eq_true] at h
  obtain ⟨⟨⟨⟨⟨⟨h1, h2⟩, h3⟩, h4⟩, h5⟩, h6⟩, h7⟩ := h
  refine ⟨by simpa using h1, fun y hy hc => ?_, fun y hy hf => ?_, fun y hy hl => ?_, fun x hx => ?_, fun y hy hf => ?_, of_decide_eq_true h6, fun j hj => ?_⟩
  · have := List.all_eq_true.mp h2 y hy; rw [hc] at this; simpa using this
  · have := List.all_eq_true.mp h2 y hy; rw [hf] at this; simpa using this
  · have := List.all_eq_true.mp h3 y hy; rw [hl] at this; simpa using this
  · have := List.all_eq_true.mp h4 x hx; simpa using this
  · have := List.all_eq_true.mp h5 y hy; rw [hf] at this; simpa using this
  · have := List.all_eq_true.mp h7 j hj; simpa using this
noncomputable abbrev TOD := DS → MH → (Option Int → MH → Prop) → Prop
noncomputable def liftO (K : PySem.W.Frag) (t : TOD) : TO := fun σ H Q => ∃ δ M R, Slots K H δ σ ∧ Abs K H M ∧ t δ M R ∧ ∀ o M' H', Grow K H H' → Abs K H' M' → R o M' → Q o H'
noncomputable def tNoPartD : TOD := fun _ M Q => Q none M
noncomputable def tPartD (t : TD) : TOD := fun δ M Q => t δ M fun x M1 => ∃ i, x = .int i ∧ Q (some i) M1
noncomputable def cutD (xs : List D) (lo hi : Option Int) : List D := (xs.drop (HT.sIx xs.length 0 lo)).take (HT.sIx xs.length xs.length hi - HT.sIx xs.length 0 lo)
noncomputable def rSlD : D → Option Int → Option Int → MH → DK → Prop := fun x lo hi M Q => match x with
  | .ref a => ∃ ds, M a = some (.lst ds) ∧ ∀ p, M p = none → Q (.ref p) (updM M p (.lst (cutD ds lo hi)))
  | .rol ds => ∀ p, M p = none → Q (.ref p) (updM M p (.lst (cutD ds lo hi)))
  | .tup ds => ¬ (HT.sIx ds.length 0 lo = 0 ∧ HT.sIx ds.length ds.length hi = ds.length) ∧ Q (.tup (cutD ds lo hi)) M
  | _ => False
noncomputable def tSlD (te : TD) (tl th : TOD) : TD := fun δ M Q => te δ M fun x M1 => tl δ M1 fun l M2 => th δ M2 fun u M3 => rSlD x l u M3 Q
theorem Reps.cut {K : PySem.W.Frag} {H : Hp} {ds : List D} {xs : List V} (h : Reps K H ds xs) (lo hi : Option Int) : Reps K H (cutD ds lo hi) (cutV xs lo hi) := by
  unfold cutD cutV
  rw [h.length]
  exact (h.drop _).take _
section
variable {X : Cx} {e a : Expr} {te : TD} {tl th : TOD} {lo hi : Option Expr} {pos p2 : Pos}
theorem po_imp {e : Option Expr} {t t' : TO} (h : PO X e t) (k : ∀ σ H Q, t' σ H Q → t σ H Q) : PO X e t' := fun pins s σ H Q I q => h pins s σ H Q I (k _ _ _ q)
theorem do_none : PO X none (liftO X.K tNoPartD) := po_imp po_none fun σ H Q ⟨δ, M, R, hs, a, q, fin⟩ => fin _ _ _ .refl a q
theorem do_some (h : DE X e te) : PO X (some e) (liftO X.K (tPartD te)) := po_imp (po_some h) fun σ H Q ⟨δ, M, R, hs, a, q, fin⟩ => ⟨δ, M, _, hs, a, q, fun d M1 v H1 g1 r1 a1 z9 => by
  obtain ⟨i, ei, q1⟩ := z9
  subst ei
  rw [Rep] at r1
  exact ⟨i, r1, fin _ _ _ g1 a1 q1⟩⟩
theorem de_slice (he : DE X a te) (hl : PO X lo (liftO X.K tl)) (hu : PO X hi (liftO X.K th)) : DE X (.Subscript a (.Slice lo hi none p2) pos) (tSlD te tl th) :=
  pe_imp (pe_slice (sl_list.or sl_tup) he hl hu) fun σ H Q ⟨δ, M, R, hs, a, q, fin⟩ => ⟨δ, M, _, hs, a, q, fun x M1 v H1 g1 r1 a1 q1 => ⟨δ, M1, _, hs.mono g1, a1, q1, fun l M2 H2 g2 a2 q2 => ⟨δ, M2, _, hs.mono (g1.trans g2), a2, q2, fun u M3 H3 g3 a3 q3 => by
    have G := (g1.trans g2).trans g3
    have r3 := r1.mono (g2.trans g3)
    unfold rSlD at q3
    split at q3
    · obtain ⟨ds, e3, q3⟩ := q3
      obtain rfl : v = .ref _ := r3
      obtain ⟨xs, hx, rs⟩ := a3 _ _ e3
      exact .inl ⟨_, xs, rfl, SqL.of hx, fun z hz => fin _ _ _ _ (G.trans (.new hz)) (by rw [Rep]) (a3.newL hz (rs.cut _ _)) (q3 z (a3.fresh hz))⟩
    · rw [Rep] at r3
      obtain ⟨b, xs, rfl, hx, rs⟩ := r3
      exact .inl ⟨_, xs, rfl, hx.sql, fun z hz => fin _ _ _ _ (G.trans (.new hz)) (by rw [Rep]) (a3.newL hz (rs.cut _ _)) (q3 z (a3.fresh hz))⟩
    · obtain ⟨hw, q3⟩ := q3
      rw [Rep] at r3
      obtain ⟨b, xs, rfl, hx, rs⟩ := r3
      exact .inr ⟨_, xs, rfl, hx, by rw [← rs.length]; exact hw, fun z hz => fin _ _ _ _ (G.trans (.new hz)) (by rw [Rep]; exact ⟨z, _, rfl, SqT.of upd_same, (rs.cut _ _).mono (.new hz)⟩) (a3.new hz) q3⟩
    · exact q3.elim⟩⟩⟩
end
end SD
set_option Elab.async false
set_option linter.all false
set_option maxRecDepth 100000
namespace SD
open PySem PySem.Spec PyProof.Rows L2
section
variable {X : Cx} {x y z : Str} {px py pz pt pos : Pos} {kt : Nat} {js : List Nat} {scope : Scope} {elt iter : Expr} {ifs : List Expr} {te : TD} {tc : TTD} {wd : TID} {xs : List Str}
theorem pg_own (c : CScope X xs js scope) (i : Nat) (hx : xs[i]? = some x) {C : Addr} {s : Shared} {H : Hp} {fp : List Addr} : PG (cxC X xs js scope C s H fp) (.Name x px) (gName i) := by
  have hi : i < xs.length := (List.getElem?_eq_some_iff.mp hx).1
  have hm := List.mem_of_getElem? hx
  have hl : Loc (cxC X xs js scope C s H fp).env.scope x := by
    rcases c.own x hm with z | z
    · exact .inl (relabel_keep (by decide) z)
    · exact .inr (relabel_keep (by decide) z)
  refine pg_name (i := i) c.nd ?_ hl (.inl (by show xs.contains x = true; simpa using hm))
  show (xs ++ js.map fun j => (X.N[j]?).getD ("" : Str))[i]? = some x
  rw [List.getElem?_append_left hi]
  exact hx
theorem pg_own2 (c : CScope X [x, y] js scope) (hc : X.calm = true) {C : Addr} {s : Shared} {H : Hp} {fp : List Addr} : PG (cxC X [x, y] js scope C s H fp) (.Tuple [.Name x px, .Name y py] kt pt) (gTup X.K 2 (gCons (gName 0) (gCons (gName 1) gNil))) :=
  pg_tup (X := cxC X [x, y] js scope C s H fp) hc (pgs_cons (pg_own c 0 rfl) (pgs_cons (pg_own c 1 rfl) pgs_nil)) rfl rfl
theorem de_comp1 (c : CScope X [x] js scope) (hc : X.calm = true) (hi : DI X (.Name x px) iter wd) (ht : ∀ C s H fp, DTs (cxC X [x] js scope C s H fp) ifs tc) (he : ∀ C s H fp, DE (cxC X [x] js scope C s H fp) elt te)
    (hs : ∀ x, foldedSetIterable iter X.env x = pure x := by intro _; rfl) : DE X (.ListComp elt [⟨.Name x px, iter, ifs, 0⟩] scope pos) (tCompD wd .one js tc te) :=
  de_comp c hc hi tg_one (fun _ _ _ _ => pg_own c 0 rfl) ht he hs
theorem de_comp2 (c : CScope X [x, y] js scope) (hc : X.calm = true) (hi : DI X (.Tuple [.Name x px, .Name y py] kt pt) iter wd) (ht : ∀ C s H fp, DTs (cxC X [x, y] js scope C s H fp) ifs tc) (he : ∀ C s H fp, DE (cxC X [x, y] js scope C s H fp) elt te)
    (hs : ∀ x, foldedSetIterable iter X.env x = pure x := by intro _; rfl) : DE X (.ListComp elt [⟨.Tuple [.Name x px, .Name y py] kt pt, iter, ifs, 0⟩] scope pos) (tCompD wd (.many 2) js tc te) :=
  de_comp c hc hi tg_two (fun _ _ _ _ => pg_own2 c hc) ht he hs
theorem ds_comp1 (i : Nat) {v : Str} {pv spos : Pos} (hN : X.N.Nodup) (c : CScope X [x] js scope) (hc : X.calm = true) (hi : DI X (.Name x px) iter wd) (ht : ∀ C s H fp, DTs (cxC X [x] js scope C s H fp) ifs tc) (he : ∀ C s H fp, DE (cxC X [x] js scope C s H fp) elt te)
    (hy : X.N[i]? = some v := by rfl) (hl : X.env.scope.names.lookup v = some .local := by rfl)
    (hsw : swapsWith (.ListComp elt [⟨.Name x px, iter, ifs, 0⟩] scope pos) (some (.Name v pv)) spos.line X.env = pure true := by rfl) (hs : ∀ x, foldedSetIterable iter X.env x = pure x := by intro _; rfl) :
    DSt X (.Assign [.Name v pv] (.ListComp elt [⟨.Name x px, iter, ifs, 0⟩] scope pos) spos) (tAsgD (tCompD wd .one js tc te) (gNameD i)) :=
  ds_comp i hN c hc hi tg_one (fun _ _ _ _ => pg_own c 0 rfl) ht he hy hl hsw hs
end
end SD
set_option Elab.async false
set_option linter.all false
set_option maxRecDepth 100000
namespace SD
open PySem PySem.Spec PyProof.Rows L2
section
variable {prog : Program} {w : World} {A : Around} {E : Value → Shared → Prop} {s : Shared}
theorem max_two {a b : Value} {c : Bool} {Q : Value → Shared → Prop} (hh : A.handled = none)
    (cmp : ∀ (t : Shared) (Q' : Value → Shared → Prop) (E' : Value → Shared → Prop), (∀ x o, s.heap.get? x = some o → t.heap.get? x = some o) → Q' (.bool c) t → wpAny (model prog w) A.in1 (richCompare .Gt b a) Q' E' t)
    (h : ∀ h' tk, (∀ x o, s.heap.get? x = some o → h'.get? x = some o) → Q (if c = true then b else a) { s with heap := h', toks := tk }) :
    wpAny (model prog w) A (call (.builtin "max") [a, b]) Q E s := by
  have nm : (toString "max" ++ toString ".loop" : String) = "max.loop" := by decide
  refine call_function_tree F.kind_max F.plain_max F.entry_max (F.args_max2 _ _) ?_
  show wpAny _ A.in1 (Builtin.Builtins.bindParams "max" ["key", "default"] 0 ⟨[], []⟩ >>= fun _ => _) _ _ s
  refine wpAny_bind (wpAny_of_eq (a := [none, none]) rfl ?_)
  show wpAny _ A.in1 (newTuple [a, b] >>= fun _ => _) _ _ s
  refine wpAny_bind (wpAny_newObj_type ?_)
  generalize e1 : s.heap.push { cls := .type "tuple", dict := none, data := .seq ([a, b] : List Value).toArray } = h1
  have k1 : ∀ x o, s.heap.get? x = some o → h1.get? x = some o := fun x o q => by rw [← e1]; exact Heap.get?_push_of_some _ q
  have hT : h1.IsTuple s.heap.objs.size #[a, b] := by rw [← e1]; exact ⟨_, Heap.get?_push_size _ rfl, rfl, 0, rfl⟩
  have z1 : h1.objs.size = s.heap.objs.size + 1 := by rw [← e1, Heap.size_push]
  refine wpAny_bind (wpAny_pyIter_tuple (s := { s with heap := h1 }) hT ?_)
  refine wpAny_bind (wpAny_newObj_type ?_)
  dsimp only
  generalize eI : h1.objs.size = I
  generalize e2 : h1.push _ = h2
  have k2 : ∀ x o, h1.get? x = some o → h2.get? x = some o := fun x o q => by rw [← e2]; exact Heap.get?_push_of_some _ q
  have hI : h2.IsTupleIter I s.heap.objs.size 0 := by rw [← e2, ← eI]; exact ⟨_, Heap.get?_push_size _ rfl, rfl, rfl⟩
  have z2 : h2.objs.size = I + 1 := by rw [← e2, Heap.size_push, eI]
  generalize eS : h2.objs.size = S
  generalize e3 : h2.push _ = h3
  have k3 : ∀ x o, h2.get? x = some o → h3.get? x = some o := fun x o q => by rw [← e3]; exact Heap.get?_push_of_some _ q
  have hS : h3.get? S = some { cls := .type "list", dict := none, data := .seq #[] 0, slots := #[] } := by rw [← e3, ← eS]; exact Heap.get?_push_size _ rfl
  have SI : S ≠ I := by omega
  have old : ∀ x o, s.heap.get? x = some o → x ≠ I ∧ x ≠ S := fun x o q => ⟨Nat.ne_of_lt (Nat.lt_of_lt_of_le (Heap.lt_size q) (by omega)), Nat.ne_of_lt (Nat.lt_of_lt_of_le (Heap.lt_size q) (by omega))⟩
  have hT3 : h3.IsTuple s.heap.objs.size #[a, b] := by
    obtain ⟨o, q, r⟩ := hT
    exact ⟨o, k3 _ _ (k2 _ _ q), r⟩
  have hI3 : h3.IsTupleIter I s.heap.objs.size 0 := hI.at fun o q => k3 _ _ q
  have TI : s.heap.objs.size ≠ I := by omega
  have TS : s.heap.objs.size ≠ S := by omega
  have keep3 : ∀ x o, s.heap.get? x = some o → h3.get? x = some o := fun x o q => k3 _ _ (k2 _ _ (k1 _ _ q))
  rw [nm]
  refine wpAny_pure ⟨plainId_quiet F.plain_max_loop _, ?_⟩
  have last : ∀ (t : Shared) (v : Value) (n : Nat), t.heap.IsTupleIter I s.heap.objs.size 2 → t.heap.IsTuple s.heap.objs.size #[a, b] → t.heap.get? S = some { cls := .type "list", dict := none, data := .seq #[v, v] n, slots := #[] } →
      (∃ h' tk, t = { s with heap := h', toks := tk } ∧ ∀ x o, s.heap.get? x = some o → h'.get? x = some o) → v = (if c = true then b else a) → codeAny (model prog w) A (.builtin "max.loop" ⟨[.ref I, .none, .ref S], []⟩) (fun r s' => match r with | .ok (.ret v) => Q v s' | .ok _ => False | .error e => E e s') t := by
    rintro t v n i2 tT lS ⟨h', tk, rfl, kt⟩ ev
    refine codeAny_builtin F.entry_max_loop ?_
    rw [Around.under_plainId F.plain_max_loop _]
    show wpAny _ A.in1 (seqItems? (.ref S) >>= fun _ => _) _ _ _
    refine wpAny_bind (wpAny_seqItems lS rfl ?_)
    show wpAny _ A.in1 (tryCatch (pyNext (.ref I)) _ >>= fun _ => _) _ _ _
    refine wpAny_bind (wpAny_tryCatch (wpAny_pyNext_tuple_end (A := A.in1) hh i2 tT (by simp) fun h4 q4 => ?_))
    have lS4 : h4.get? S = some _ := q4 _ _ SI lS
    show wpAny _ A.in1 (updateSeq S (fun _ => #[]) >>= fun _ => _) _ _ _
    refine wpAny_bind (wpAny_updateSeq lS4 rfl (wpAny_bind (wpAny_letGo (wpAny_pure ?_))))
    show Q v _
    rw [ev]
    exact h _ _ fun x o q => (Heap.get?_update_other _ _ (old x o q).2.symm).trans (q4 x o (old x o q).1 (kt x o q))
  refine codeAny_builtin F.entry_max_loop ?_
  rw [Around.under_plainId F.plain_max_loop _]
  show wpAny _ A.in1 (seqItems? (.ref S) >>= fun _ => _) _ _ _
  refine wpAny_bind (wpAny_seqItems (s := { s with heap := h3 }) hS rfl ?_)
  show wpAny _ A.in1 (tryCatch (pyNext (.ref I)) _ >>= fun _ => _) _ _ _
  refine wpAny_bind (wpAny_tryCatch (wpAny_pyNext_tuple_item (s := { s with heap := h3 }) hI3 hT3 (x := a) (by simp) fun h4 i4 q4 => ?_))
  have hS4 : h4.get? S = some _ := (q4.2 _ SI).trans hS
  have hT4 : h4.IsTuple s.heap.objs.size #[a, b] := by
    obtain ⟨o, q, r⟩ := hT3
    exact ⟨o, (q4.2 _ TI).trans q, r⟩
  show wpAny _ A.in1 (updateSeq S (fun _ => #[a, a]) >>= fun _ => _) _ _ _
  refine wpAny_bind (wpAny_updateSeq hS4 rfl ?_)
  rw [nm]
  refine wpAny_pure ⟨plainId_quiet F.plain_max_loop _, ?_⟩
  generalize e5 : h4.update S _ = h5
  have o5 : ∀ x, x ≠ S → h5.get? x = h4.get? x := fun x q => by rw [← e5]; exact Heap.get?_update_other _ _ q.symm
  have hS5 : ∃ n, h5.get? S = some { cls := .type "list", dict := none, data := .seq #[a, a] n, slots := #[] } := ⟨_, by rw [← e5]; exact Heap.get?_update_self _ hS4 rfl⟩
  obtain ⟨n5, hS5⟩ := hS5
  have i5 : h5.IsTupleIter I s.heap.objs.size 1 := i4.at fun o q => (o5 _ SI.symm).trans q
  have hT5 : h5.IsTuple s.heap.objs.size #[a, b] := by
    obtain ⟨o, q, r⟩ := hT4
    exact ⟨o, (o5 _ TS).trans q, r⟩
  have keep5 : ∀ x o, s.heap.get? x = some o → h5.get? x = some o := fun x o q => (o5 _ (old x o q).2).trans ((q4.2 _ (old x o q).1).trans (keep3 x o q))
  refine codeAny_builtin F.entry_max_loop ?_
  rw [Around.under_plainId F.plain_max_loop _]
  show wpAny _ A.in1 (seqItems? (.ref S) >>= fun _ => _) _ _ _
  refine wpAny_bind (wpAny_seqItems (s := { s with heap := h5 }) hS5 rfl ?_)
  show wpAny _ A.in1 (tryCatch (pyNext (.ref I)) _ >>= fun _ => _) _ _ _
  refine wpAny_bind (wpAny_tryCatch (wpAny_pyNext_tuple_item (s := { s with heap := h5 }) i5 hT5 (x := b) (by simp) fun h6 i6 q6 => ?_))
  have hS6 : h6.get? S = some _ := (q6.2 _ SI).trans hS5
  have hT6 : h6.IsTuple s.heap.objs.size #[a, b] := by
    obtain ⟨o, q, r⟩ := hT5
    exact ⟨o, (q6.2 _ TI).trans q, r⟩
  have keep6 : ∀ x o, s.heap.get? x = some o → h6.get? x = some o := fun x o q => (q6.2 _ (old x o q).1).trans (keep5 x o q)
  show wpAny _ A.in1 (tryCatch (holding [b, b] (richCompare .Gt b a >>= fun _ => _)) _ >>= fun _ => _) _ _ _
  refine wpAny_bind (wpAny_tryCatch (wpAny_holding (wpAny_bind (cmp _ _ _ keep6 ?_))))
  refine wpAny_bind (wpAny_holding (wpAny_truthy_bool ?_))
  refine wpAny_bind (wpAny_letGo (wpAny_pure ?_))
  cases c with
  | true =>
    simp only [if_true] at last ⊢
    refine wpAny_bind (wpAny_updateSeq hS6 rfl (wpAny_bind (wpAny_letGo ?_)))
    rw [nm]
    refine wpAny_pure ⟨plainId_quiet F.plain_max_loop _, last _ b _ (i6.at fun o q => (Heap.get?_update_other _ _ SI).trans q) ?_ (Heap.get?_update_self _ hS6 rfl) ⟨_, _, rfl, fun x o q => (Heap.get?_update_other _ _ (old x o q).2.symm).trans (keep6 x o q)⟩ rfl⟩
    obtain ⟨o, q, r⟩ := hT6
    exact ⟨o, (Heap.get?_update_other _ _ TS.symm).trans q, r⟩
  | false =>
    simp only [Bool.false_eq_true, if_false] at last ⊢
    refine wpAny_bind (wpAny_letGo ?_)
    rw [nm]
    exact wpAny_pure ⟨plainId_quiet F.plain_max_loop _, last _ a _ i6 hT6 hS6 ⟨_, _, rfl, keep6⟩ rfl⟩
theorem min_two {a b : Value} {c : Bool} {Q : Value → Shared → Prop} (hh : A.handled = none)
    (cmp : ∀ (t : Shared) (Q' : Value → Shared → Prop) (E' : Value → Shared → Prop), (∀ x o, s.heap.get? x = some o → t.heap.get? x = some o) → Q' (.bool c) t → wpAny (model prog w) A.in1 (richCompare .Lt b a) Q' E' t)
    (h : ∀ h' tk, (∀ x o, s.heap.get? x = some o → h'.get? x = some o) → Q (if c = true then b else a) { s with heap := h', toks := tk }) :
    wpAny (model prog w) A (call (.builtin "min") [a, b]) Q E s := by
  have nm : (toString "min" ++ toString ".loop" : String) = "min.loop" := by decide
  refine call_function_tree F.kind_min F.plain_min F.entry_min (F.args_min2 _ _) ?_
  show wpAny _ A.in1 (Builtin.Builtins.bindParams "min" ["key", "default"] 0 ⟨[], []⟩ >>= fun _ => _) _ _ s
  refine wpAny_bind (wpAny_of_eq (a := [none, none]) rfl ?_)
  show wpAny _ A.in1 (newTuple [a, b] >>= fun _ => _) _ _ s
  refine wpAny_bind (wpAny_newObj_type ?_)
  generalize e1 : s.heap.push { cls := .type "tuple", dict := none, data := .seq ([a, b] : List Value).toArray } = h1
  have k1 : ∀ x o, s.heap.get? x = some o → h1.get? x = some o := fun x o q => by rw [← e1]; exact Heap.get?_push_of_some _ q
  have hT : h1.IsTuple s.heap.objs.size #[a, b] := by rw [← e1]; exact ⟨_, Heap.get?_push_size _ rfl, rfl, 0, rfl⟩
  have z1 : h1.objs.size = s.heap.objs.size + 1 := by rw [← e1, Heap.size_push]
  refine wpAny_bind (wpAny_pyIter_tuple (s := { s with heap := h1 }) hT ?_)
  refine wpAny_bind (wpAny_newObj_type ?_)
  dsimp only
  generalize eI : h1.objs.size = I
  generalize e2 : h1.push _ = h2
  have k2 : ∀ x o, h1.get? x = some o → h2.get? x = some o := fun x o q => by rw [← e2]; exact Heap.get?_push_of_some _ q
  have hI : h2.IsTupleIter I s.heap.objs.size 0 := by rw [← e2, ← eI]; exact ⟨_, Heap.get?_push_size _ rfl, rfl, rfl⟩
  have z2 : h2.objs.size = I + 1 := by rw [← e2, Heap.size_push, eI]
  generalize eS : h2.objs.size = S
  generalize e3 : h2.push _ = h3
  have k3 : ∀ x o, h2.get? x = some o → h3.get? x = some o := fun x o q => by rw [← e3]; exact Heap.get?_push_of_some _ q
  have hS : h3.get? S = some { cls := .type "list", dict := none, data := .seq #[] 0, slots := #[] } := by rw [← e3, ← eS]; exact Heap.get?_push_size _ rfl
  have SI : S ≠ I := by omega
  have old : ∀ x o, s.heap.get? x = some o → x ≠ I ∧ x ≠ S := fun x o q => ⟨Nat.ne_of_lt (Nat.lt_of_lt_of_le (Heap.lt_size q) (by omega)), Nat.ne_of_lt (Nat.lt_of_lt_of_le (Heap.lt_size q) (by omega))⟩
  have hT3 : h3.IsTuple s.heap.objs.size #[a, b] := by
    obtain ⟨o, q, r⟩ := hT
    exact ⟨o, k3 _ _ (k2 _ _ q), r⟩
  have hI3 : h3.IsTupleIter I s.heap.objs.size 0 := hI.at fun o q => k3 _ _ q
  have TI : s.heap.objs.size ≠ I := by omega
  have TS : s.heap.objs.size ≠ S := by omega
  have keep3 : ∀ x o, s.heap.get? x = some o → h3.get? x = some o := fun x o q => k3 _ _ (k2 _ _ (k1 _ _ q))
  rw [nm]
  refine wpAny_pure ⟨plainId_quiet F.plain_min_loop _, ?_⟩
  have last : ∀ (t : Shared) (v : Value) (n : Nat), t.heap.IsTupleIter I s.heap.objs.size 2 → t.heap.IsTuple s.heap.objs.size #[a, b] → t.heap.get? S = some { cls := .type "list", dict := none, data := .seq #[v, v] n, slots := #[] } →
      (∃ h' tk, t = { s with heap := h', toks := tk } ∧ ∀ x o, s.heap.get? x = some o → h'.get? x = some o) → v = (if c = true then b else a) → codeAny (model prog w) A (.builtin "min.loop" ⟨[.ref I, .none, .ref S], []⟩) (fun r s' => match r with | .ok (.ret v) => Q v s' | .ok _ => False | .error e => E e s') t := by
    rintro t v n i2 tT lS ⟨h', tk, rfl, kt⟩ ev
    refine codeAny_builtin F.entry_min_loop ?_
    rw [Around.under_plainId F.plain_min_loop _]
    show wpAny _ A.in1 (seqItems? (.ref S) >>= fun _ => _) _ _ _
    refine wpAny_bind (wpAny_seqItems lS rfl ?_)
    show wpAny _ A.in1 (tryCatch (pyNext (.ref I)) _ >>= fun _ => _) _ _ _
    refine wpAny_bind (wpAny_tryCatch (wpAny_pyNext_tuple_end (A := A.in1) hh i2 tT (by simp) fun h4 q4 => ?_))
    have lS4 : h4.get? S = some _ := q4 _ _ SI lS
    show wpAny _ A.in1 (updateSeq S (fun _ => #[]) >>= fun _ => _) _ _ _
    refine wpAny_bind (wpAny_updateSeq lS4 rfl (wpAny_bind (wpAny_letGo (wpAny_pure ?_))))
    show Q v _
    rw [ev]
    exact h _ _ fun x o q => (Heap.get?_update_other _ _ (old x o q).2.symm).trans (q4 x o (old x o q).1 (kt x o q))
  refine codeAny_builtin F.entry_min_loop ?_
  rw [Around.under_plainId F.plain_min_loop _]
  show wpAny _ A.in1 (seqItems? (.ref S) >>= fun _ => _) _ _ _
  refine wpAny_bind (wpAny_seqItems (s := { s with heap := h3 }) hS rfl ?_)
  show wpAny _ A.in1 (tryCatch (pyNext (.ref I)) _ >>= fun _ => _) _ _ _
  refine wpAny_bind (wpAny_tryCatch (wpAny_pyNext_tuple_item (s := { s with heap := h3 }) hI3 hT3 (x := a) (by simp) fun h4 i4 q4 => ?_))
  have hS4 : h4.get? S = some _ := (q4.2 _ SI).trans hS
  have hT4 : h4.IsTuple s.heap.objs.size #[a, b] := by
    obtain ⟨o, q, r⟩ := hT3
    exact ⟨o, (q4.2 _ TI).trans q, r⟩
  show wpAny _ A.in1 (updateSeq S (fun _ => #[a, a]) >>= fun _ => _) _ _ _
  refine wpAny_bind (wpAny_updateSeq hS4 rfl ?_)
  rw [nm]
  refine wpAny_pure ⟨plainId_quiet F.plain_min_loop _, ?_⟩
  generalize e5 : h4.update S _ = h5
  have o5 : ∀ x, x ≠ S → h5.get? x = h4.get? x := fun x q => by rw [← e5]; exact Heap.get?_update_other _ _ q.symm
  have hS5 : ∃ n, h5.get? S = some { cls := .type "list", dict := none, data := .seq #[a, a] n, slots := #[] } := ⟨_, by rw [← e5]; exact Heap.get?_update_self _ hS4 rfl⟩
  obtain ⟨n5, hS5⟩ := hS5
  have i5 : h5.IsTupleIter I s.heap.objs.size 1 := i4.at fun o q => (o5 _ SI.symm).trans q
  have hT5 : h5.IsTuple s.heap.objs.size #[a, b] := by
    obtain ⟨o, q, r⟩ := hT4
    exact ⟨o, (o5 _ TS).trans q, r⟩
  have keep5 : ∀ x o, s.heap.get? x = some o → h5.get? x = some o := fun x o q => (o5 _ (old x o q).2).trans ((q4.2 _ (old x o q).1).trans (keep3 x o q))
  refine codeAny_builtin F.entry_min_loop ?_
  rw [Around.under_plainId F.plain_min_loop _]
  show wpAny _ A.in1 (seqItems? (.ref S) >>= fun _ => _) _ _ _
  refine wpAny_bind (wpAny_seqItems (s := { s with heap := h5 }) hS5 rfl ?_)
  show wpAny _ A.in1 (tryCatch (pyNext (.ref I)) _ >>= fun _ => _) _ _ _
  refine wpAny_bind (wpAny_tryCatch (wpAny_pyNext_tuple_item (s := { s with heap := h5 }) i5 hT5 (x := b) (by simp) fun h6 i6 q6 => ?_))
  have hS6 : h6.get? S = some _ := (q6.2 _ SI).trans hS5
  have hT6 : h6.IsTuple s.heap.objs.size #[a, b] := by
    obtain ⟨o, q, r⟩ := hT5
    exact ⟨o, (q6.2 _ TI).trans q, r⟩
  have keep6 : ∀ x o, s.heap.get? x = some o → h6.get? x = some o := fun x o q => (q6.2 _ (old x o q).1).trans (keep5 x o q)
  show wpAny _ A.in1 (tryCatch (holding [b, b] (richCompare .Lt b a >>= fun _ => _)) _ >>= fun _ => _) _ _ _
  refine wpAny_bind (wpAny_tryCatch (wpAny_holding (wpAny_bind (cmp _ _ _ keep6 ?_))))
  refine wpAny_bind (wpAny_holding (wpAny_truthy_bool ?_))
  refine wpAny_bind (wpAny_letGo (wpAny_pure ?_))
  cases c with
  | true =>
    simp only [if_true] at last ⊢
    refine wpAny_bind (wpAny_updateSeq hS6 rfl (wpAny_bind (wpAny_letGo ?_)))
    rw [nm]
    refine wpAny_pure ⟨plainId_quiet F.plain_min_loop _, last _ b _ (i6.at fun o q => (Heap.get?_update_other _ _ SI).trans q) ?_ (Heap.get?_update_self _ hS6 rfl) ⟨_, _, rfl, fun x o q => (Heap.get?_update_other _ _ (old x o q).2.symm).trans (keep6 x o q)⟩ rfl⟩
    obtain ⟨o, q, r⟩ := hT6
    exact ⟨o, (Heap.get?_update_other _ _ TS.symm).trans q, r⟩
  | false =>
    simp only [Bool.false_eq_true, if_false] at last ⊢
    refine wpAny_bind (wpAny_letGo ?_)
    rw [nm]
    exact wpAny_pure ⟨plainId_quiet F.plain_min_loop _, last _ a _ i6 hT6 hS6 ⟨_, _, rfl, keep6⟩ rfl⟩
end
end SD
set_option Elab.async false
set_option linter.all false
set_option maxRecDepth 100000
namespace HT
open PySem PyProof.Rows
noncomputable def lexLe : List Int → List Int → Bool
  | [], [] => true
  | [], _ :: _ => true
  | _ :: _, [] => false
  | x :: xs, y :: ys => if x = y then lexLe xs ys else decide (x ≤ y)
theorem lexLe_cons (x y : Int) (xs ys : List Int) : lexLe (x :: xs) (y :: ys) = if x = y then lexLe xs ys else decide (x ≤ y) := rfl
theorem lexLe_nil_nil : lexLe [] [] = true := rfl
theorem lexLe_nil_cons (y : Int) (ys : List Int) : lexLe [] (y :: ys) = true := rfl
theorem lexLe_cons_nil (x : Int) (xs : List Int) : lexLe (x :: xs) [] = false := rfl
theorem rcLe_int (A : Around) (s : Shared) (a : Int) (t : Tok) (c : Int) (u : Tok) (prog : Program) (w : World) (E : Value → Shared → Prop) (Q : Value → Shared → Prop) (h : Q (.bool (decide (a ≤ c))) s) :
    wpAny (model prog w) A (richCompare .LtE (.int a t) (.int c u)) Q E s :=
  (PyProof.Rows.le_int h : wpAny (model prog w) A (compareOp .LtE (.int a t) (.int c u)) Q E s)
section
open PySem.SeqAt
open PySem.AutoSeq1 (wpAny_loadPart')
open PySem.MeetsSeq PySem.MeetsSeq2 PySem.MeetsSeq3
theorem tuple_le_ints (l b : Addr) (items items2 : Array Value) (n n2 : Nat) (dd dd2 : Option Addr) (sl sl2 : Array (Option Value)) (ns ms : List Int) (hi : IntsAre items.toList ns) (hj : IntsAre items2.toList ms) :
    Meets (Builtin.«tuple.__le__» ⟨[.ref l, .ref b], []⟩)
      (fun _ R s => s.heap.get? l = some { cls := .type "tuple", dict := dd, data := .seq items n, slots := sl } ∧ s.heap.get? b = some { cls := .type "tuple", dict := dd2, data := .seq items2 n2, slots := sl2 } ∧
        R (.ok (.ret (.bool (lexLe ns ms)))) s) :=
  .of_wp fun prog w A R s h => by
    obtain ⟨hp, g, d, tk, os⟩ := s; obtain ⟨hl, hb, h⟩ := h
    have f2 := AutoSeq1.sub_tuple_tuple
    have z1 : items.size = ns.length := by rw [← hi.length]; simp
    have z2 : items2.size = ms.length := by rw [← hj.length]; simp
    wp_walk using wpAny_loadPart' hl, wpAny_loadPart' hb, wpAny_forIn_list _ (fun rest b s' => b.1 = none ∧ s' = ⟨hp, g, d, tk, os⟩ ∧ ∃ (vs ws : List Value) (ns' ms' : List Int), rest = vs.zip ws ∧
      IntsAre vs ns' ∧ IntsAre ws ms' ∧ ns'.length + items2.size = ms'.length + items.size ∧ R (.ok (.ret (.bool (lexLe ns' ms')))) ⟨hp, g, d, tk, os⟩) _
    case turn =>
      rintro ⟨y, x⟩ rest b s' ⟨hb', rfl, vs, ws, ns', ms', hz, hvi, hwi, hlen, hR⟩
      cases hvi with
      | nil => rw [List.zip_nil_left] at hz; cases hz
      | cons a t hvi' =>
        cases hwi with
        | nil => rw [List.zip_nil_right] at hz; cases hz
        | cons c u hwi' =>
          rw [List.zip_cons_cons] at hz
          injection hz with hyx hrest
          injection hyx with hy hx
          subst hy hx
          rw [lexLe_cons] at hR
          simp only [List.length_cons] at hlen
          obtain ⟨e, he, hiff⟩ := eqAt_int A.in1 ⟨hp, g, d, tk, os⟩ a t c u
          refine wpAny_bind (he prog w _ _ ?_)
          cases e with
          | true =>
            rw [if_pos (hiff.mp rfl)] at hR
            wp_walk
            exact ⟨rfl, rfl, _, _, _, _, hrest, hvi', hwi', by omega, hR⟩
          | false =>
            rw [if_neg (fun q => absurd (hiff.mpr q) Bool.false_ne_true)] at hR
            have hri := rcLe_int A.in1 ⟨hp, g, d, tk, os⟩ a t c u prog w
            wp_walk using hri
            exact ⟨_, rfl, by simpa using hR⟩
    case fin =>
      rintro ⟨b1, b2⟩ s' ⟨hb', rfl, vs, ws, ns', ms', hz, hvi, hwi, hlen, hR⟩
      simp only at hb'
      subst hb'
      have hv : lexLe ns' ms' = decide (items.size ≤ items2.size) := by
        cases hvi with
        | nil =>
          cases hwi with
          | nil =>
            simp only [List.length_nil] at hlen
            rw [lexLe_nil_nil]
            exact (decide_eq_true (by omega)).symm
          | cons c u hw =>
            simp only [List.length_nil, List.length_cons] at hlen
            rw [lexLe_nil_cons]
            exact (decide_eq_true (by omega)).symm
        | cons a t hv =>
          cases hwi with
          | nil =>
            simp only [List.length_nil, List.length_cons] at hlen
            rw [lexLe_cons_nil]
            exact (decide_eq_false (by omega)).symm
          | cons c u hw =>
            rw [List.zip_cons_cons] at hz
            cases hz
      rw [hv] at hR
      wp_walk
      exact ⟨_, rfl, by simpa [Builtin.Tuple.tupleCompareSizes] using hR⟩
    case h =>
      exact ⟨rfl, rfl, items.toList, items2.toList, ns, ms, rfl, hi, hj, by omega, h⟩
end
section
variable {prog : Program} {w : World} {A : Around} {E : Value → Shared → Prop} {s : Shared}
theorem le_tupInts {l b : Addr} {items items2 : Array Value} {ns ms : List Int} {Q : Value → Shared → Prop} (hl : IsTup s.heap l items) (hb : IsTup s.heap b items2) (hi : IntsAre items.toList ns) (hj : IntsAre items2.toList ms)
    (hu : A.units < cLine) (h : Q (.bool (lexLe ns ms)) s) : wpAny (model prog w) A (compareOp .LtE (.ref l) (.ref b)) Q E s := by
  obtain ⟨⟨cls, dd, data, sl⟩, ho, hc, n, hd⟩ := id hl
  obtain ⟨⟨cls2, dd2, data2, sl2⟩, ho2, hc2, n2, hd2⟩ := id hb
  simp only at hc hd hc2 hd2
  subst hc hd hc2 hd2
  exact richCompare_meets_room (op := .LtE) ⟨_, ho, rfl⟩ ⟨_, ho2, rfl⟩ PySem.F.slot_tuple_le PySem.F.entry_tuple_le (PySem.F.args_tuple_le_2 _ _) (tuple_le_ints l b items items2 n n2 dd dd2 sl sl2 ns ms hi hj)
    ⟨ho, ho2, show Value.bool (lexLe ns ms) ≠ Value.notImplemented ∧ Q (.bool (lexLe ns ms)) s from ⟨(fun x => nomatch x), h⟩⟩ hu
end
noncomputable def lexGt : List Int → List Int → Bool
  | [], [] => false
  | [], _ :: _ => false
  | _ :: _, [] => true
  | x :: xs, y :: ys => if x = y then lexGt xs ys else decide (y < x)
theorem lexGt_cons (x y : Int) (xs ys : List Int) : lexGt (x :: xs) (y :: ys) = if x = y then lexGt xs ys else decide (y < x) := rfl
theorem lexGt_nil_nil : lexGt [] [] = false := rfl
theorem lexGt_nil_cons (y : Int) (ys : List Int) : lexGt [] (y :: ys) = false := rfl
theorem lexGt_cons_nil (x : Int) (xs : List Int) : lexGt (x :: xs) [] = true := rfl
theorem rcGt_int (A : Around) (s : Shared) (a : Int) (t : Tok) (c : Int) (u : Tok) (prog : Program) (w : World) (E : Value → Shared → Prop) (Q : Value → Shared → Prop) (h : Q (.bool (decide (c < a))) s) :
    wpAny (model prog w) A (richCompare .Gt (.int a t) (.int c u)) Q E s :=
  (PyProof.Rows.gt_int h : wpAny (model prog w) A (compareOp .Gt (.int a t) (.int c u)) Q E s)
section
open PySem.SeqAt
open PySem.AutoSeq1 (wpAny_loadPart')
open PySem.MeetsSeq PySem.MeetsSeq2 PySem.MeetsSeq3
theorem tuple_gt_ints (l b : Addr) (items items2 : Array Value) (n n2 : Nat) (dd dd2 : Option Addr) (sl sl2 : Array (Option Value)) (ns ms : List Int) (hi : IntsAre items.toList ns) (hj : IntsAre items2.toList ms) :
    Meets (Builtin.«tuple.__gt__» ⟨[.ref l, .ref b], []⟩)
      (fun _ R s => s.heap.get? l = some { cls := .type "tuple", dict := dd, data := .seq items n, slots := sl } ∧ s.heap.get? b = some { cls := .type "tuple", dict := dd2, data := .seq items2 n2, slots := sl2 } ∧
        R (.ok (.ret (.bool (lexGt ns ms)))) s) :=
  .of_wp fun prog w A R s h => by
    obtain ⟨hp, g, d, tk, os⟩ := s; obtain ⟨hl, hb, h⟩ := h
    have f2 := AutoSeq1.sub_tuple_tuple
    have z1 : items.size = ns.length := by rw [← hi.length]; simp
    have z2 : items2.size = ms.length := by rw [← hj.length]; simp
    wp_walk using wpAny_loadPart' hl, wpAny_loadPart' hb, wpAny_forIn_list _ (fun rest b s' => b.1 = none ∧ s' = ⟨hp, g, d, tk, os⟩ ∧ ∃ (vs ws : List Value) (ns' ms' : List Int), rest = vs.zip ws ∧
      IntsAre vs ns' ∧ IntsAre ws ms' ∧ ns'.length + items2.size = ms'.length + items.size ∧ R (.ok (.ret (.bool (lexGt ns' ms')))) ⟨hp, g, d, tk, os⟩) _
    case turn =>
      rintro ⟨y, x⟩ rest b s' ⟨hb', rfl, vs, ws, ns', ms', hz, hvi, hwi, hlen, hR⟩
      cases hvi with
      | nil => rw [List.zip_nil_left] at hz; cases hz
      | cons a t hvi' =>
        cases hwi with
        | nil => rw [List.zip_nil_right] at hz; cases hz
        | cons c u hwi' =>
          rw [List.zip_cons_cons] at hz
          injection hz with hyx hrest
          injection hyx with hy hx
          subst hy hx
          rw [lexGt_cons] at hR
          simp only [List.length_cons] at hlen
          obtain ⟨e, he, hiff⟩ := eqAt_int A.in1 ⟨hp, g, d, tk, os⟩ a t c u
          refine wpAny_bind (he prog w _ _ ?_)
          cases e with
          | true =>
            rw [if_pos (hiff.mp rfl)] at hR
            wp_walk
            exact ⟨rfl, rfl, _, _, _, _, hrest, hvi', hwi', by omega, hR⟩
          | false =>
            rw [if_neg (fun q => absurd (hiff.mpr q) Bool.false_ne_true)] at hR
            have hri := rcGt_int A.in1 ⟨hp, g, d, tk, os⟩ a t c u prog w
            wp_walk using hri
            exact ⟨_, rfl, by simpa using hR⟩
    case fin =>
      rintro ⟨b1, b2⟩ s' ⟨hb', rfl, vs, ws, ns', ms', hz, hvi, hwi, hlen, hR⟩
      simp only at hb'
      subst hb'
      have hv : lexGt ns' ms' = decide (items.size > items2.size) := by
        cases hvi with
        | nil =>
          cases hwi with
          | nil =>
            simp only [List.length_nil] at hlen
            rw [lexGt_nil_nil]
            exact (decide_eq_false (by omega)).symm
          | cons c u hw =>
            simp only [List.length_nil, List.length_cons] at hlen
            rw [lexGt_nil_cons]
            exact (decide_eq_false (by omega)).symm
        | cons a t hv =>
          cases hwi with
          | nil =>
            simp only [List.length_nil, List.length_cons] at hlen
            rw [lexGt_cons_nil]
            exact (decide_eq_true (by omega)).symm
          | cons c u hw =>
            rw [List.zip_cons_cons] at hz
            cases hz
      rw [hv] at hR
      wp_walk
      exact ⟨_, rfl, by simpa [Builtin.Tuple.tupleCompareSizes] using hR⟩
    case h =>
      exact ⟨rfl, rfl, items.toList, items2.toList, ns, ms, rfl, hi, hj, by omega, h⟩
end
section
variable {prog : Program} {w : World} {A : Around} {E : Value → Shared → Prop} {s : Shared}
theorem gt_tupInts {l b : Addr} {items items2 : Array Value} {ns ms : List Int} {Q : Value → Shared → Prop} (hl : IsTup s.heap l items) (hb : IsTup s.heap b items2) (hi : IntsAre items.toList ns) (hj : IntsAre items2.toList ms)
    (hu : A.units < cLine) (h : Q (.bool (lexGt ns ms)) s) : wpAny (model prog w) A (compareOp .Gt (.ref l) (.ref b)) Q E s := by
  obtain ⟨⟨cls, dd, data, sl⟩, ho, hc, n, hd⟩ := id hl
  obtain ⟨⟨cls2, dd2, data2, sl2⟩, ho2, hc2, n2, hd2⟩ := id hb
  simp only at hc hd hc2 hd2
  subst hc hd hc2 hd2
  exact richCompare_meets_room (op := .Gt) ⟨_, ho, rfl⟩ ⟨_, ho2, rfl⟩ PySem.F.slot_tuple_gt PySem.F.entry_tuple_gt (PySem.F.args_tuple_gt_2 _ _) (tuple_gt_ints l b items items2 n n2 dd dd2 sl sl2 ns ms hi hj)
    ⟨ho, ho2, show Value.bool (lexGt ns ms) ≠ Value.notImplemented ∧ Q (.bool (lexGt ns ms)) s from ⟨(fun x => nomatch x), h⟩⟩ hu
end
end HT
namespace SD
open PySem PySem.Spec PyProof.Rows L2
section
variable {X : Cx}
theorem ints_of {K : PySem.W.Frag} {H : Hp} : ∀ {ns : List Int} {xs : List V}, Reps K H (ns.map D.int) xs → xs = ns.map V.int
  | [], xs, h => by rw [List.map_nil, Reps] at h; exact h
  | n :: ns, xs, h => by
    rw [List.map_cons, Reps] at h
    obtain ⟨x, r, rfl, h1, h2⟩ := h
    rw [Rep] at h1
    rw [h1, ints_of h2]; rfl
theorem op_leT (hu : X.A.units < cLine) : OpR X (compareOp .LtE) (fun x y H Q => ∃ a b ns ms, x = .ref a ∧ y = .ref b ∧ SqT X.K H a (ns.map V.int) ∧ SqT X.K H b (ms.map V.int) ∧ Q (.bl (HT.lexLe ns ms)) H) := by
  intro pins s σ H x y v u Q I rx ry h
  obtain ⟨a, b, ns, ms, rfl, rfl, ha, hb, q⟩ := h
  cases rx
  cases ry
  obtain ⟨its, r1, p1, _⟩ := I.tuple ha
  obtain ⟨its2, r2, p2, _⟩ := I.tuple hb
  exact HT.le_tupInts p1 p2 (intsAre_of r1) (intsAre_of r2) hu ⟨.bl (HT.lexLe ns ms), H, I, rfl, q⟩
theorem op_gtT (hu : X.A.units < cLine) : OpR X (compareOp .Gt) (fun x y H Q => ∃ a b ns ms, x = .ref a ∧ y = .ref b ∧ SqT X.K H a (ns.map V.int) ∧ SqT X.K H b (ms.map V.int) ∧ Q (.bl (HT.lexGt ns ms)) H) := by
  intro pins s σ H x y v u Q I rx ry h
  obtain ⟨a, b, ns, ms, rfl, rfl, ha, hb, q⟩ := h
  cases rx
  cases ry
  obtain ⟨its, r1, p1, _⟩ := I.tuple ha
  obtain ⟨its2, r2, p2, _⟩ := I.tuple hb
  exact HT.gt_tupInts p1 p2 (intsAre_of r1) (intsAre_of r2) hu ⟨.bl (HT.lexGt ns ms), H, I, rfl, q⟩
noncomputable def rCmpX (f : Int → Int → Bool) (g : List Int → List Int → Bool) : R2D := fun x y M Q => match x, y with
  | .int i, .int j => True ∧ Q (.bl (f i j)) M
  | .tup a, .tup b => ∃ ns ms, a = List.map D.int ns ∧ b = List.map D.int ms ∧ Q (.bl (g ns ms)) M
  | _, _ => False
theorem opd_X {op : CmpOp} {f : Int → Int → Bool} {g : List Int → List Int → Bool} (h1 : OpD X (compareOp op) (rI2 (fun _ _ => True) fun i j => .bl (f i j)))
    (h2 : OpR X (compareOp op) (fun x y H Q => ∃ a b ns ms, x = .ref a ∧ y = .ref b ∧ SqT X.K H a (ns.map V.int) ∧ SqT X.K H b (ms.map V.int) ∧ Q (.bl (g ns ms)) H)) : OpD X (compareOp op) (rCmpX f g) := by
  refine op_imp (h1.or h2) fun v u H Q ⟨x, y, M, R, r1, r2, a, q, fin⟩ => ?_
  unfold rCmpX at q
  split at q
  · exact .inl ⟨_, _, M, R, r1, r2, a, q, fin⟩
  · obtain ⟨ns, ms, rfl, rfl, q⟩ := q
    rw [Rep] at r1
    obtain ⟨p, xs, rfl, hx, rx⟩ := r1
    obtain ⟨p', ys, rfl, hy, ry⟩ : ∃ a xs, u = V.ref a ∧ SqT X.K H a xs ∧ Reps X.K H (List.map D.int ms) xs := by rw [Rep] at r2; exact r2
    rw [ints_of rx] at hx
    rw [ints_of ry] at hy
    exact .inr ⟨p, p', ns, ms, rfl, rfl, hx, hy, fin _ _ _ _ .refl (by rw [Rep]) a q⟩
  · exact q.elim
theorem od_ltX (hu : X.A.units + 64 < cLine) : OpD X (compareOp .Lt) (rCmpX (fun i j => decide (i < j)) HT.lexLt) := opd_X od_lt (op_ltT (by omega))
theorem od_leX (hu : X.A.units + 64 < cLine) : OpD X (compareOp .LtE) (rCmpX (fun i j => decide (i ≤ j)) HT.lexLe) := opd_X od_le (op_leT (by omega))
theorem od_gtX (hu : X.A.units + 64 < cLine) : OpD X (compareOp .Gt) (rCmpX (fun i j => decide (j < i)) HT.lexGt) := opd_X od_gt (op_gtT (by omega))
theorem call_maxT (hc : X.calm = true) (hu : X.A.units + 64 < cLine) : CallR X (.builtin "max") (fun xs H Q => ∃ p q ns ms, xs = [.ref p, .ref q] ∧ SqT X.K H p (ns.map V.int) ∧ SqT X.K H q (ms.map V.int) ∧ Q (if HT.lexGt ms ns = true then .ref q else .ref p) H) := by
  intro pins s σ H xs us Q I r z0
  obtain ⟨p, q, ns, ms, e, hp, hq, k⟩ := z0
  subst e
  obtain ⟨u, v, rfl, ru, rv⟩ := vals2 r
  cases ru
  cases rv
  obtain ⟨its, r1, p1, _⟩ := I.tuple hp
  obtain ⟨its2, r2, p2, _⟩ := I.tuple hq
  refine max_two (c := HT.lexGt ms ns) (I.ok.hd hc) (fun t Q' E' kt q' => ?_) fun h' tk kt => ⟨_, H, I.kept kt, ?_, k⟩
  · obtain ⟨o1, a1, b1⟩ := p1
    obtain ⟨o2, a2, b2⟩ := p2
    exact HT.gt_tupInts (A := X.A.in1) (s := t) ⟨o2, kt _ _ a2, b2⟩ ⟨o1, kt _ _ a1, b1⟩ (intsAre_of r2) (intsAre_of r1) (by show X.A.units + 1 < cLine; omega) q'
  · cases HT.lexGt ms ns <;> rfl
theorem call_minT (hc : X.calm = true) (hu : X.A.units + 64 < cLine) : CallR X (.builtin "min") (fun xs H Q => ∃ p q ns ms, xs = [.ref p, .ref q] ∧ SqT X.K H p (ns.map V.int) ∧ SqT X.K H q (ms.map V.int) ∧ Q (if HT.lexLt ms ns = true then .ref q else .ref p) H) := by
  intro pins s σ H xs us Q I r z0
  obtain ⟨p, q, ns, ms, e, hp, hq, k⟩ := z0
  subst e
  obtain ⟨u, v, rfl, ru, rv⟩ := vals2 r
  cases ru
  cases rv
  obtain ⟨its, r1, p1, _⟩ := I.tuple hp
  obtain ⟨its2, r2, p2, _⟩ := I.tuple hq
  refine min_two (c := HT.lexLt ms ns) (I.ok.hd hc) (fun t Q' E' kt q' => ?_) fun h' tk kt => ⟨_, H, I.kept kt, ?_, k⟩
  · obtain ⟨o1, a1, b1⟩ := p1
    obtain ⟨o2, a2, b2⟩ := p2
    exact HT.lt_tupInts (A := X.A.in1) (s := t) ⟨o2, kt _ _ a2, b2⟩ ⟨o1, kt _ _ a1, b1⟩ (intsAre_of r2) (intsAre_of r1) (by show X.A.units + 1 < cLine; omega) q'
  · cases HT.lexLt ms ns <;> rfl
noncomputable def rMaxX : RC := fun ds M Q => match ds with
  | [.int i, .int j] => Q (.int (max i j)) M
  | [.tup a, .tup b] => ∃ ns ms, a = List.map D.int ns ∧ b = List.map D.int ms ∧ Q (.tup (List.map D.int (if HT.lexGt ms ns = true then ms else ns))) M
  | _ => False
noncomputable def rMinX : RC := fun ds M Q => match ds with
  | [.int i, .int j] => Q (.int (min i j)) M
  | [.tup a, .tup b] => ∃ ns ms, a = List.map D.int ns ∧ b = List.map D.int ms ∧ Q (.tup (List.map D.int (if HT.lexLt ms ns = true then ms else ns))) M
  | _ => False
theorem cd_maxX (hc : X.calm = true) (hu : X.A.units + 64 < cLine) : CallD X (.builtin "max") rMaxX := call_imp (CallR.or (cd_max hc) (call_maxT hc hu)) fun vs H Q z9 => by
  obtain ⟨ds, M, R, rs, a, q, fin⟩ := z9
  unfold rMaxX at q
  split at q
  · exact .inl ⟨_, M, R, rs, a, q, fin⟩
  · obtain ⟨ns, ms, rfl, rfl, q⟩ := q
    obtain ⟨v, u, rfl, r1, r2⟩ := reps2 rs
    rw [Rep] at r1
    obtain ⟨p, xs, rfl, hx, rx⟩ := r1
    obtain ⟨p', ys, rfl, hy, ry⟩ : ∃ a xs, u = V.ref a ∧ SqT X.K H a xs ∧ Reps X.K H (List.map D.int ms) xs := by rw [Rep] at r2; exact r2
    have hx' := hx
    have hy' := hy
    rw [ints_of rx] at hx'
    rw [ints_of ry] at hy'
    refine .inr ⟨p, p', ns, ms, rfl, hx', hy', fin _ _ _ _ .refl ?_ a q⟩
    by_cases z : HT.lexGt ms ns = true
    · rw [if_pos z, if_pos z, Rep]; exact ⟨_, _, rfl, hy, ry⟩
    · rw [if_neg z, if_neg z, Rep]; exact ⟨_, _, rfl, hx, rx⟩
  · exact q.elim
theorem cd_minX (hc : X.calm = true) (hu : X.A.units + 64 < cLine) : CallD X (.builtin "min") rMinX := call_imp (CallR.or (cd_min hc) (call_minT hc hu)) fun vs H Q z9 => by
  obtain ⟨ds, M, R, rs, a, q, fin⟩ := z9
  unfold rMinX at q
  split at q
  · exact .inl ⟨_, M, R, rs, a, q, fin⟩
  · obtain ⟨ns, ms, rfl, rfl, q⟩ := q
    obtain ⟨v, u, rfl, r1, r2⟩ := reps2 rs
    rw [Rep] at r1
    obtain ⟨p, xs, rfl, hx, rx⟩ := r1
    obtain ⟨p', ys, rfl, hy, ry⟩ : ∃ a xs, u = V.ref a ∧ SqT X.K H a xs ∧ Reps X.K H (List.map D.int ms) xs := by rw [Rep] at r2; exact r2
    have hx' := hx
    have hy' := hy
    rw [ints_of rx] at hx'
    rw [ints_of ry] at hy'
    refine .inr ⟨p, p', ns, ms, rfl, hx', hy', fin _ _ _ _ .refl ?_ a q⟩
    by_cases z : HT.lexLt ms ns = true
    · rw [if_pos z, if_pos z, Rep]; exact ⟨_, _, rfl, hy, ry⟩
    · rw [if_neg z, if_neg z, Rep]; exact ⟨_, _, rfl, hx, rx⟩
  · exact q.elim
end
end SD
set_option Elab.async false
set_option linter.all false
set_option maxRecDepth 100000
namespace Ma
open SD
theorem pos_mul {p z : Int} (h : 0 < p) : 0 < p * z ↔ 0 < z := by
  constructor
  · intro q
    by_cases hz : 0 < z
    · exact hz
    · have : p * z ≤ 0 := Int.mul_nonpos_of_nonneg_of_nonpos (by omega) (by omega)
      omega
  · exact fun q => Int.mul_pos h q
theorem divInt_lt {a b c d : Int} (hb : 0 < b) (hd : 0 < d) : Rat.divInt a b < Rat.divInt c d ↔ a * d < c * b := by
  have e := Rat.divInt_sub_divInt c a (d₁ := d) (d₂ := b) (by omega) (by omega)
  have h1 : Rat.divInt a b < Rat.divInt c d ↔ 0 < Rat.divInt c d - Rat.divInt a b := by constructor <;> intro z <;> grind
  rw [h1, e, divInt_pos (Int.mul_pos hd hb)]
  omega
noncomputable def ut (t b X m x : Int) : Rat := Rat.divInt (x * t + X * m) (b * m)
theorem ut_lt {t b X m n x y : Int} (ht : 0 < t) (hb : 0 < b) (hm : 0 < m) (hn : 0 < n) : ut t b X m x < ut t b X n y ↔ n * x < m * y := by
  unfold ut
  rw [divInt_lt (Int.mul_pos hb hm) (Int.mul_pos hb hn)]
  have e : (y * t + X * n) * (b * m) - (x * t + X * m) * (b * n) = (b * t) * (m * y - n * x) := by grind
  have := pos_mul (z := m * y - n * x) (Int.mul_pos hb ht)
  omega
theorem ut_eq {t b X m n x y : Int} (ht : 0 < t) (hb : 0 < b) (hm : 0 < m) (hn : 0 < n) : ut t b X m x = ut t b X n y ↔ n * x = m * y := by
  have h1 := ut_lt (X := X) (x := x) (y := y) ht hb hm hn
  have h2 := ut_lt (X := X) (x := y) (y := x) ht hb hn hm
  constructor
  · intro e
    have a : ¬ ut t b X m x < ut t b X n y := by rw [e]; exact Rat.lt_irrefl
    have c : ¬ ut t b X n y < ut t b X m x := by rw [e]; exact Rat.lt_irrefl
    rw [h1] at a
    rw [h2] at c
    omega
  · intro e
    have a : ¬ ut t b X m x < ut t b X n y := by rw [h1]; omega
    have c : ¬ ut t b X n y < ut t b X m x := by rw [h2]; omega
    grind
theorem ut_one {t b X x : Int} : Rat.divInt (x * t + X) b = ut t b X 1 x := by
  unfold ut
  rw [Int.mul_one, Int.mul_one]
theorem ut_ah {t b X Y m n x y u v : Int} (ht : 0 < t) (hb : 0 < b) (hm : 0 < m) (hn : 0 < n) :
    ah (ut t b X m x) (ut t b Y m y) (ut t b X n u) (ut t b Y n v) ↔ HT.lexLt [n * x, n * y] [m * u, m * v] = true := by
  unfold ah
  rw [ut_lt ht hb hm hn, ut_eq ht hb hm hn, ut_lt ht hb hm hn]
  simp only [HT.lexLt]
  by_cases h : n * x = m * u
  · rw [if_pos h]
    by_cases h2 : n * y = m * v
    · rw [if_pos h2]; simp; omega
    · rw [if_neg h2]; simp; omega
  · rw [if_neg h]; simp; omega
theorem lexLe_two (a b c d : Int) : HT.lexLe [a, b] [c, d] = !HT.lexLt [c, d] [a, b] := by
  simp only [HT.lexLe, HT.lexLt]
  by_cases h : a = c
  · subst h
    rw [if_pos rfl, if_pos rfl]
    by_cases h2 : b = d
    · subst h2; rw [if_pos rfl, if_pos rfl]; rfl
    · rw [if_neg h2, if_neg (fun e => h2 e.symm)]
      rw [← decide_not, decide_eq_decide]; omega
  · rw [if_neg h, if_neg (fun e => h e.symm), ← decide_not, decide_eq_decide]; omega
theorem lexGt_two (a b c d : Int) : HT.lexGt [a, b] [c, d] = HT.lexLt [c, d] [a, b] := by
  simp only [HT.lexGt, HT.lexLt]
  by_cases h : a = c
  · subst h
    rw [if_pos rfl, if_pos rfl]
    by_cases h2 : b = d
    · subst h2; simp
    · rw [if_neg h2, if_neg (fun e => h2 e.symm)]
  · rw [if_neg h, if_neg (fun e => h e.symm)]
theorem lexLt_two {a b c d : Int} : HT.lexLt [a, b] [c, d] = true ↔ a < c ∨ (a = c ∧ b < d) := by
  simp only [HT.lexLt]
  by_cases h : a = c
  · subst h
    rw [if_pos rfl]
    by_cases h2 : b = d
    · subst h2; rw [if_pos rfl]; simp
    · rw [if_neg h2]; simp
  · rw [if_neg h]; simp; omega
end Ma
set_option Elab.async false
set_option linter.all false
set_option maxRecDepth 100000
namespace SD
open PySem PySem.Spec PyProof.Rows L2
theorem ne_fresh {M : MH} {a p : PySem.Addr} {o : MO} (h : M a = some o) (hp : M p = none) : a ≠ p := fun e => by subst e; rw [h] at hp; cases hp
noncomputable def scl (t b x y : Int) : D := .tup [.int t, .int b, .int x, .int y]
structure Scl (t b x y : Int) : Prop where
  t0 : 0 < t
  t1 : t ≤ 10 ^ 24
  b0 : 0 < b
  b1 : b ≤ 10 ^ 26
  x0 : -(10 ^ 30) ≤ x
  x1 : x ≤ 10 ^ 30
  y0 : -(10 ^ 30) ≤ y
  y1 : y ≤ 10 ^ 30
noncomputable def uw (w : Int × Int × Int × Int) : D := .tup [.tup [.int w.1, .int w.2.1], .tup [.int w.2.2.1, .int w.2.2.2]]
noncomputable def rwl (t b x y : Int) (w : Int × Int × Int × Int) : D := Ma.wll (Ma.ut t b x 1 w.1) (Ma.ut t b y 1 w.2.1) (Ma.ut t b x 1 w.2.2.1) (Ma.ut t b y 1 w.2.2.2)
noncomputable def Uok (n : Int) (w : Int × Int × Int × Int) : Prop := (-n ≤ w.1 ∧ w.1 ≤ n) ∧ (-n ≤ w.2.1 ∧ w.2.1 ≤ n) ∧ (-n ≤ w.2.2.1 ∧ w.2.2.1 ≤ n) ∧ (-n ≤ w.2.2.2 ∧ w.2.2.2 ≤ n)
noncomputable def uby (m : Int) (w : Int × Int × Int × Int) : Int × Int × Int × Int := (m * w.1, m * w.2.1, m * w.2.2.1, m * w.2.2.2)
theorem range_getD (l : List D) : (List.range l.length).map (fun i => (l[i]?).getD .non) = l := by
  refine List.ext_getElem (by simp) fun i h1 h2 => ?_
  simp [h2]
theorem getD_map {α : Type} {f : α → D} {l : List α} {i : Nat} {a : α} (h : l[i]? = some a) : ((l.map f)[i]?).getD .non = f a := by
  rw [List.getElem?_map, h]; rfl
theorem ut_bq {t b x m p : Int} (ht : 0 < t ∧ t ≤ 10 ^ 24) (hb : 0 < b ∧ b ≤ 10 ^ 26) (hx : -(10 ^ 30) ≤ x ∧ x ≤ 10 ^ 30) (hm : 0 < m ∧ m ≤ 10 ^ 6) (hp : -(10 ^ 6) ≤ p ∧ p ≤ 10 ^ 6) : Ma.Bq 200 (Ma.ut t b x m p) := by
  have bt : Bd 80 t := by show t.natAbs < 2 ^ 80; omega
  have bm : Bd 64 m := by show m.natAbs < 2 ^ 64; omega
  have bp : Bd 64 p := by show p.natAbs < 2 ^ 64; omega
  have bb : Bd 90 b := by show b.natAbs < 2 ^ 90; omega
  have bx : Bd 100 x := by show x.natAbs < 2 ^ 100; omega
  refine Ma.Bq.divInt (by have := Int.mul_pos hb.1 hm.1; omega) ?_ ((bb.mul bm).mono (by decide))
  exact (((bp.mul bt).mono (by decide : 64 + 80 ≤ 164)).add (bx.mul bm)).mono (by decide)
theorem Scl.bx {t b x y m p : Int} (S : Scl t b x y) (hm : 0 < m ∧ m ≤ 10 ^ 6) (hp : -(10 ^ 6) ≤ p ∧ p ≤ 10 ^ 6) : Ma.Bq 200 (Ma.ut t b x m p) := ut_bq ⟨S.t0, S.t1⟩ ⟨S.b0, S.b1⟩ ⟨S.x0, S.x1⟩ hm hp
theorem Scl.by' {t b x y m p : Int} (S : Scl t b x y) (hm : 0 < m ∧ m ≤ 10 ^ 6) (hp : -(10 ^ 6) ≤ p ∧ p ≤ 10 ^ 6) : Ma.Bq 200 (Ma.ut t b y m p) := ut_bq ⟨S.t0, S.t1⟩ ⟨S.b0, S.b1⟩ ⟨S.y0, S.y1⟩ hm hp
theorem eqv_two (a b c d : Int) : PyData.eqv (.tuple [.int a, .int b]) (.tuple [.int c, .int d]) = decide (a = c ∧ b = d) := by
  simp only [PyData.eqv, PyData.eqvAll, beq_dec, Bool.and_true, Bool.decide_and]
end SD
set_option Elab.async false
set_option linter.all false
set_option maxRecDepth 100000
namespace SD
open PySem PySem.Spec PyProof.Rows L2
section
variable {X : Cx}
noncomputable def rMaxY : RC := fun ds M Q => match ds with
  | [.ref l] => ∃ i j, M l = some (.lst [.int i, .int j]) ∧ Q (.int (max i j)) M
  | ds => rMaxX ds M Q
noncomputable def rMinY : RC := fun ds M Q => match ds with
  | [.ref l] => ∃ i j, M l = some (.lst [.int i, .int j]) ∧ Q (.int (min i j)) M
  | ds => rMinX ds M Q
end
end SD
set_option Elab.async false
set_option linter.all false
set_option maxRecDepth 100000
namespace SD
open PySem PySem.Spec PyProof.Rows L2 Ma
noncomputable instance (a b c d : Rat) : Decidable (Ma.ah a b c d) := inferInstanceAs (Decidable (_ ∨ _))
noncomputable def inlD (a b c d e f g h : Rat) : D :=
  let s := if Ma.ah e f a b then (a, b) else (e, f)
  let n := if Ma.ah c d g h then (c, d) else (g, h)
  if Ma.ah s.1 s.2 n.1 n.2 then .tup [.str "stretch", Ma.wll s.1 s.2 n.1 n.2] else if Ma.ah n.1 n.2 s.1 s.2 then .non else .tup [.str "spot", Ma.spt s.1 s.2]
noncomputable def btw (x y s : Rat) : Rat := x + s * (y - x)
noncomputable def meetD (a b c d e f g h : Rat) : D :=
  if Ma.sgn (Ma.cr a b c d e f) = 0 ∧ Ma.sgn (Ma.cr a b c d g h) = 0 then inlD a b c d e f g h
  else if 0 < Ma.sgn (Ma.cr a b c d e f) * Ma.sgn (Ma.cr a b c d g h) ∨ 0 < Ma.sgn (Ma.cr e f g h a b) * Ma.sgn (Ma.cr e f g h c d) then .non
  else .tup [.str "spot", Ma.spt (btw e g (Ma.cr a b c d e f / (Ma.cr a b c d e f - Ma.cr a b c d g h))) (btw f h (Ma.cr a b c d e f / (Ma.cr a b c d e f - Ma.cr a b c d g h)))]
noncomputable def crs (a b c d : Int) : Int := a * d - b * c
noncomputable def maxP (p q e f : Int) : Int × Int := if HT.lexGt [e, f] [p, q] = true then (e, f) else (p, q)
noncomputable def minP (r s g h : Int) : Int × Int := if HT.lexLt [g, h] [r, s] = true then (g, h) else (r, s)
noncomputable def toldD (p q r s e f g h : Int) : D :=
  let w := crs (r - p) (s - q) (g - e) (h - f)
  if w = 0 then
    if crs (r - p) (s - q) (e - p) (f - q) ≠ 0 ∨ HT.lexGt [(maxP p q e f).1, (maxP p q e f).2] [(minP r s g h).1, (minP r s g h).2] = true then .non
    else if (maxP p q e f).1 = (minP r s g h).1 ∧ (maxP p q e f).2 = (minP r s g h).2 then .tup [.int (maxP p q e f).1, .int (maxP p q e f).2, .int 1]
    else .tup [.tup [.int (maxP p q e f).1, .int (maxP p q e f).2], .tup [.int (minP r s g h).1, .int (minP r s g h).2]]
  else
    let k := if w < 0 then -crs (e - p) (f - q) (g - e) (h - f) else crs (e - p) (f - q) (g - e) (h - f)
    let m := if w < 0 then -crs (e - p) (f - q) (r - p) (s - q) else crs (e - p) (f - q) (r - p) (s - q)
    if min k m < 0 ∨ (w.natAbs : Int) < max k m then .non else .tup [.int (p * (w.natAbs : Int) + k * (r - p)), .int (q * (w.natAbs : Int) + k * (s - q)), .int (w.natAbs : Int)]
noncomputable def dueD (t b X Y : Int) : D → D
  | .tup [.int x, .int y, .int m] => .tup [.str "spot", Ma.spt (Ma.ut t b X m x) (Ma.ut t b Y m y)]
  | .tup [.tup [.int x, .int y], .tup [.int u, .int v]] => .tup [.str "stretch", Ma.wll (Ma.ut t b X 1 x) (Ma.ut t b Y 1 y) (Ma.ut t b X 1 u) (Ma.ut t b Y 1 v)]
  | _ => .non
theorem ut_lin {t b X m x : Int} (hb : 0 < b) (hm : 0 < m) : Ma.ut t b X m x = ((t : Rat) / b) * ((x : Rat) / m) + (X : Rat) / b := by
  unfold Ma.ut
  rw [Rat.divInt_eq_div]
  have h1 : (b : Rat) ≠ 0 := by have := Ma.pos_int hb; grind
  have h2 : (m : Rat) ≠ 0 := by have := Ma.pos_int hm; grind
  rw [Rat.intCast_add, Rat.intCast_mul, Rat.intCast_mul, Rat.intCast_mul]
  grind
theorem ut_lin1 {t b X x : Int} (hb : 0 < b) : Ma.ut t b X 1 x = ((t : Rat) / b) * (x : Rat) + (X : Rat) / b := by
  rw [ut_lin hb (by decide)]
  have : ((1 : Int) : Rat) = 1 := rfl
  rw [this]
  grind
theorem ah_ut {t b X Y p q e f : Int} (ht : 0 < t) (hb : 0 < b) : Ma.ah (Ma.ut t b X 1 p) (Ma.ut t b Y 1 q) (Ma.ut t b X 1 e) (Ma.ut t b Y 1 f) ↔ (p < e ∨ (p = e ∧ q < f)) := by
  rw [Ma.ut_ah ht hb (by decide) (by decide), Ma.lexLt_two]
  omega
end SD
set_option Elab.async false
set_option linter.all false
set_option maxRecDepth 100000
namespace HT
open PySem PyProof.Rows
noncomputable def lexGe : List Int → List Int → Bool
  | [], [] => true
  | [], _ :: _ => false
  | _ :: _, [] => true
  | x :: xs, y :: ys => if x = y then lexGe xs ys else decide (y ≤ x)
section
open PySem.SeqAt
open PySem.AutoSeq1 (wpAny_loadPart')
open PySem.MeetsSeq PySem.MeetsSeq2 PySem.MeetsSeq3
end
section
variable {prog : Program} {w : World} {A : Around} {E : Value → Shared → Prop} {s : Shared}
end
end HT
namespace SD
open PySem PySem.Spec PyProof.Rows L2
section
variable {X : Cx}
noncomputable def rInG (g : Bool → Bool) : R2D := fun x y M Q => ∃ p ps, Pd M x p ∧ (Pd M y (.list ps) ∨ Pd M y (.tuple ps)) ∧ SeqAt.shaped p = true ∧ PyData.canLayAll0 ps = true ∧ Q (.bl (g (ps.any fun q => PyData.eqv q p))) M
theorem shaped_min {p : PyData} {n : Nat} (h : SeqAt.shaped p = true) : min n p.depth ≤ 63 + 1 := Nat.le_trans (Nat.min_le_right _ _) (SeqAt.depth_of_shaped h)
theorem od_notin (hu : X.A.units + 66 < cLine) : OpD X (compareOp .NotIn) (rInG fun b => !b) := by
  intro pins s σ H v u v' u' Q I rv ru h
  obtain ⟨x, y, M, R, r1, r2, a, ⟨p, ps, p1, p2, s1, s2, hq⟩, fin⟩ := h
  obtain ⟨as, q1⟩ := pd_reads I a p1 r1 rv
  have hm := shaped_min (n := PyData.depthAll ps) s1
  rcases p2 with p2 | p2
  · obtain ⟨bs, q2⟩ := pd_reads I a p2 r2 ru
    exact SeqAt.notIn_list_reads q2 q1 s2 (SeqAt.canLay_of_shaped s1) (by omega) ⟨.bl _, H, I, rfl, fin _ _ _ _ .refl (by rw [Rep]) a hq⟩
  · obtain ⟨bs, q2⟩ := pd_reads I a p2 r2 ru
    exact SeqAt.notIn_tuple_reads q2 q1 s2 (SeqAt.canLay_of_shaped s1) (by omega) ⟨.bl _, H, I, rfl, fin _ _ _ _ .refl (by rw [Rep]) a hq⟩
noncomputable def rAll : RC := fun ds M Q => match ds with
  | [.ref l] => ∃ bs : List Bool, M l = some (.lst (List.map D.bl bs)) ∧ Q (.bl (bs.all id)) M
  | _ => False
noncomputable def tAppD (to : TD) (t : TAD) : TD := fun δ M Q => to δ M fun x M1 => ∃ l ys, x = .ref l ∧ M1 l = some (.lst ys) ∧ t δ M1 fun ds M2 => ∃ xs d, ds = [d] ∧ M2 l = some (.lst xs) ∧ xs.length < 1000000 ∧ Q .non (updM M2 l (.lst (xs ++ [d])))
variable {o e : Expr} {to : TD} {t : TAD} {apos cpos : Pos}
theorem de_m_append (ho : DE X o to) (ha : DA X [e] t)
    (hbase : attributeBase o "append" X.env (eval o X.env) = eval o X.env := by rfl)
    (hfew : ((backTo cpos (starEach [e] X.env)).all (fun x => !x.1) && (backToKw cpos (keywordEach [] X.env)).all (fun x => x.1.isSome)
      && decide ([e].length + ([] : List Keyword).length + (if ([] : List Keyword).isEmpty then 0 else 1) < 30)) = true := by rfl)
    (hline : (apos.endLine == cpos.line) = true := by rfl) (hs : starEach [e] X.env = (false, eval e X.env) :: starEach [] X.env := by rfl) (hplain : (backTo cpos (starEach [] X.env)).any (·.1) = false := by rfl) :
    DE X (.Call (.Attribute o "append" apos) [e] [] cpos) (tAppD to t) :=
  pe_imp (pe_bm PySem.F.plainAttrs_list PySem.F.slot_list_append PySem.F.type_list_append mt_append ho ha hbase hfew hline hs hplain) fun σ H Q z9 => by
    obtain ⟨δ, M, R, hsl, hM, q, fin⟩ := z9
    refine ⟨δ, M, _, hsl, hM, q, fun x M1 v H1 g1 r1 a1 ⟨l, ys, ex, hl, q1⟩ => ?_⟩
    subst ex
    rw [Rep] at r1
    subst r1
    obtain ⟨vs, hvs, _⟩ := a1 _ _ hl
    refine ⟨.inl ⟨rfl, vs, SqL.of hvs⟩, δ, M1, _, hsl.mono g1, a1, q1, fun ds M2 us H2 g2 r2 a2 ⟨xs, d, ed, hx, hn, q2⟩ => ?_⟩
    subst ed
    obtain ⟨u, rfl, ru⟩ := reps1 r2
    obtain ⟨ws, hws, rws⟩ := a2 _ _ hx
    have hlen := rws.length
    refine ⟨l, ws, u, rfl, rfl, hws, Nat.lt_of_lt_of_le (by omega) (show 1000000 ≤ sizeLine from Nat.le_of_ble_eq_true rfl), ?_⟩
    exact fin _ _ _ _ (g1.trans (g2.trans (.lst hws))) (by rw [Rep]) (a2.setL hws (rws.append (.cons ru .nil))) q2
end
end SD
set_option Elab.async false
set_option linter.all false
set_option maxRecDepth 100000
namespace SD
open PySem PySem.Spec PyProof.Rows L2
theorem ru66 {k : Nat} {A : Around} (r : Room k A) : A.units + 66 < cLine := by have := r.un; omega
noncomputable abbrev Wl := Int × Int × Int × Int
noncomputable def la (x y : Int) : Int := 100 * x + y
noncomputable def l1 (w : Wl) : Int := la w.1 w.2.1
noncomputable def l2 (w : Wl) : Int := la w.2.2.1 w.2.2.2
noncomputable def sd (w : Wl) (x y : Int) : Int := crs (w.2.2.1 - w.1) (w.2.2.2 - w.2.1) (x - w.1) (y - w.2.1)
noncomputable def sd1 (w v : Wl) : Int := sd w v.1 v.2.1
noncomputable def sd2 (w v : Wl) : Int := sd w v.2.2.1 v.2.2.2
structure Un5 (w : Wl) : Prop where
  a : 0 ≤ w.1 ∧ w.1 ≤ 20
  b : 0 ≤ w.2.1 ∧ w.2.1 ≤ 20
  c : 0 ≤ w.2.2.1 ∧ w.2.2.1 ≤ 20
  d : 0 ≤ w.2.2.2 ∧ w.2.2.2 ≤ 20
  lt : l1 w < l2 w
noncomputable def EndOk (w : Wl) (l s : Int) : Prop := l = l1 w ∨ l = l2 w ∨ l < l1 w ∨ l2 w < l ∨ s ≠ 0
structure Fair (U V : Wl) : Prop where
  ne : ¬ (l1 U = l1 V ∧ l2 U = l2 V)
  e1 : EndOk U (l1 V) (sd1 U V)
  e2 : EndOk U (l2 V) (sd2 U V)
  e3 : EndOk V (l1 U) (sd1 V U)
  e4 : EndOk V (l2 U) (sd2 V U)
  pr : 0 ≤ Int.sign (sd1 U V) * Int.sign (sd2 U V) ∨ 0 ≤ Int.sign (sd1 V U) * Int.sign (sd2 V U)
theorem Fair.swap {U V : Wl} (h : Fair U V) : Fair V U := ⟨fun z => h.ne ⟨z.1.symm, z.2.symm⟩, h.e3, h.e4, h.e1, h.e2, h.pr.symm⟩
noncomputable def abv (U V : Wl) : Bool :=
  if max (l1 U) (l1 V) < min (l2 U) (l2 V) then
    if l1 U = l1 V then (if l2 U < l2 V then decide (0 < sd2 V U) else decide (sd2 U V < 0))
    else if l1 V < l1 U then decide (0 < sd1 V U) else decide (sd1 U V < 0)
  else false
noncomputable def sides (U V : Wl) : List Int :=
  ((if l1 V ≤ l1 U ∧ l1 U ≤ l2 V then [Int.sign (sd1 V U)] else []) ++ (if l1 V ≤ l2 U ∧ l2 U ≤ l2 V then [Int.sign (sd2 V U)] else [])) ++
  ((if l1 U ≤ l1 V ∧ l1 V ≤ l2 U then [-Int.sign (sd1 U V)] else []) ++ (if l1 U ≤ l2 V ∧ l2 V ≤ l2 U then [-Int.sign (sd2 U V)] else []))
theorem pos_of {z k : Int} (hk : 0 < k) (h : 0 < z * k) : 0 < z := by
  rcases Int.lt_trichotomy z 0 with q | q | q
  · have := Int.mul_neg_of_neg_of_pos q hk; omega
  · subst q; simp at h
  · exact q
theorem neg_of {z k : Int} (hk : 0 < k) (h : z * k < 0) : z < 0 := by
  rcases Int.lt_trichotomy z 0 with q | q | q
  · exact q
  · subst q; simp at h
  · have := Int.mul_pos q hk; omega
theorem within {a b c d u1 u2 v1 v2 : Int} (I1 : a * (v2 - v1) = d * (u1 - v1) - c * (u2 - v1)) (I2 : b * (v2 - v1) = d * (u1 - v2) - c * (u2 - v2))
    (h1 : v1 < u1) (h2 : v1 < u2) (h3 : u1 < v2) (h4 : u2 < v2) (F : (¬ (0 < c ∧ d < 0) ∧ ¬ (c < 0 ∧ 0 < d)) ∨ (¬ (0 < a ∧ b < 0) ∧ ¬ (a < 0 ∧ 0 < b))) (c0 : c ≠ 0) (d0 : d ≠ 0) : 0 < c ↔ 0 < d := by
  have k : 0 < v2 - v1 := by omega
  have A1 : ¬ (0 < c ∧ d < 0) := fun z9 => by
    obtain ⟨x, y⟩ := z9
    have p1 := Int.mul_neg_of_neg_of_pos y (show 0 < u1 - v1 by omega)
    have p2 := Int.mul_pos x (show 0 < u2 - v1 by omega)
    have p3 := Int.mul_pos_of_neg_of_neg y (show u1 - v2 < 0 by omega)
    have p4 := Int.mul_neg_of_pos_of_neg x (show u2 - v2 < 0 by omega)
    have a1 := neg_of (z := a) k (by omega)
    have b1 := pos_of (z := b) k (by omega)
    omega
  have A2 : ¬ (c < 0 ∧ 0 < d) := fun z9 => by
    obtain ⟨x, y⟩ := z9
    have p1 := Int.mul_pos y (show 0 < u1 - v1 by omega)
    have p2 := Int.mul_neg_of_neg_of_pos x (show 0 < u2 - v1 by omega)
    have p3 := Int.mul_neg_of_pos_of_neg y (show u1 - v2 < 0 by omega)
    have p4 := Int.mul_pos_of_neg_of_neg x (show u2 - v2 < 0 by omega)
    have a1 := pos_of (z := a) k (by omega)
    have b1 := neg_of (z := b) k (by omega)
    omega
  omega
theorem la_inj {x y u v : Int} (h1 : 0 ≤ y ∧ y ≤ 20) (h2 : 0 ≤ v ∧ v ≤ 20) (h : la x y = la u v) : x = u ∧ y = v := by
  unfold la at h; omega
theorem EndOk.nz {w : Wl} {l s : Int} (h : EndOk w l s) (h1 : l1 w < l) (h2 : l < l2 w) : s ≠ 0 := by
  unfold EndOk at h
  rcases h with h | h | h | h | h
  · omega
  · omega
  · omega
  · omega
  · exact h
theorem lt_la {a b c d : Int} (hb : 0 ≤ b ∧ b ≤ 20) (hd : 0 ≤ d ∧ d ≤ 20) : HT.lexLt [a, b] [c, d] = decide (la a b < la c d) := by
  have h := Ma.lexLt_two (a := a) (b := b) (c := c) (d := d)
  rw [Bool.eq_iff_iff, h, decide_eq_true_eq]
  unfold la
  omega
theorem le_la {a b c d : Int} (hb : 0 ≤ b ∧ b ≤ 20) (hd : 0 ≤ d ∧ d ≤ 20) : HT.lexLe [a, b] [c, d] = decide (la a b ≤ la c d) := by
  rw [Ma.lexLe_two, lt_la hd hb, ← decide_not, decide_eq_decide]; omega
theorem gt_la {a b c d : Int} (hb : 0 ≤ b ∧ b ≤ 20) (hd : 0 ≤ d ∧ d ≤ 20) : HT.lexGt [a, b] [c, d] = decide (la c d < la a b) := by
  rw [Ma.lexGt_two, lt_la hd hb]
theorem eq_la {x y u v : Int} (h1 : 0 ≤ y ∧ y ≤ 20) (h2 : 0 ≤ v ∧ v ≤ 20) : (x = u ∧ y = v) ↔ la x y = la u v := by unfold la; omega
theorem endOk_of {A : Wl} {x y : Int} (hA : Un5 A) (hy : 0 ≤ y ∧ y ≤ 20) (h : (!(decide (A.1 = x ∧ A.2.1 = y) || decide (A.2.2.1 = x ∧ A.2.2.2 = y)) && (decide (l1 A ≤ la x y) && decide (la x y ≤ l2 A) && decide (sd A x y = 0))) = false) : EndOk A (la x y) (sd A x y) := by
  unfold EndOk
  by_cases h1 : A.1 = x ∧ A.2.1 = y
  · exact .inl ((eq_la hA.b hy).mp h1).symm
  · by_cases h2 : A.2.2.1 = x ∧ A.2.2.2 = y
    · exact .inr (.inl ((eq_la hA.d hy).mp h2).symm)
    · rw [decide_eq_false h1, decide_eq_false h2, Bool.or_false, Bool.not_false, Bool.true_and, ← Bool.decide_and, ← Bool.decide_and, decide_eq_false_iff_not] at h
      by_cases h3 : sd A x y = 0
      · rcases Int.lt_or_le (la x y) (l1 A) with z | z
        · exact .inr (.inr (.inl z))
        · rcases Int.lt_or_le (l2 A) (la x y) with z' | z'
          · exact .inr (.inr (.inr (.inl z')))
          · exact absurd ⟨⟨z, z'⟩, h3⟩ h
      · exact .inr (.inr (.inr (.inr h3)))
theorem sg_bd (z : Int) : Bd 64 (Int.sign z) := by
  rcases Int.lt_trichotomy z 0 with h | h | h
  · rw [Int.sign_eq_neg_one_of_neg h]; decide
  · subst h; decide
  · rw [Int.sign_eq_one_of_pos h]; decide
end SD
set_option Elab.async false
set_option linter.all false
set_option maxRecDepth 100000
namespace SD
open PySem PySem.Spec PyProof.Rows L2
noncomputable def uwP (w : Wl) : PyData := .tuple [.tuple [.int w.1, .int w.2.1], .tuple [.int w.2.2.1, .int w.2.2.2]]
noncomputable def PF (ws : List Wl) : Prop := ∀ (i j : Nat) (U V : Wl), i ≠ j → ws[i]? = some U → ws[j]? = some V → Fair U V
theorem pf_nil : PF [] := fun i j U V _ h => by simp at h
theorem pf_append {ws : List Wl} {U : Wl} (h : PF ws) (hU : ∀ (j : Nat) (w : Wl), ws[j]? = some w → Fair U w) : PF (ws ++ [U]) := by
  intro i j A B hij hA hB
  have get : ∀ {k : Nat} {C : Wl}, (ws ++ [U])[k]? = some C → ws[k]? = some C ∨ (k = ws.length ∧ C = U) := fun {k C} e => by
    rcases Nat.lt_trichotomy k ws.length with z | z | z
    · rw [List.getElem?_append_left z] at e; exact .inl e
    · subst z
      rw [List.getElem?_append_right (Nat.le_refl _)] at e
      simp at e
      exact .inr ⟨rfl, e.symm⟩
    · rw [List.getElem?_eq_none (by simp; omega)] at e; cases e
  rcases get hA with a | ⟨a, rfl⟩ <;> rcases get hB with b | ⟨b, rfl⟩
  · exact h i j A B hij a b
  · exact (hU _ _ a).swap
  · exact hU _ _ b
  · omega
theorem order_two {p q e f : Int} (hp : 0 ≤ p ∧ p ≤ 20) (hq : 0 ≤ q ∧ q ≤ 20) (he : 0 ≤ e ∧ e ≤ 20) (hf : 0 ≤ f ∧ f ≤ 20) (ne : ¬ (p = e ∧ q = f)) :
    ∃ w : Wl, (if HT.lexLt [e, f] [p, q] = true then [e, f] else [p, q]) = [w.1, w.2.1] ∧ (if HT.lexGt [e, f] [p, q] = true then [e, f] else [p, q]) = [w.2.2.1, w.2.2.2] ∧ Un5 w := by
  rw [lt_la hf hq, gt_la hf hq]
  have nl : la p q ≠ la e f := fun z => ne ((eq_la hq hf).mpr z)
  by_cases h : la e f < la p q
  · exact ⟨(e, f, p, q), by rw [if_pos (decide_eq_true h)], by rw [if_neg (by simp; omega)], ⟨he, hf, hp, hq, h⟩⟩
  · have h' : la p q < la e f := by omega
    exact ⟨(p, q, e, f), by rw [if_neg (by simpa using h)], by rw [if_pos (decide_eq_true h')], ⟨hp, hq, he, hf, h'⟩⟩
theorem pds_ints {M : MH} : ∀ ns : List Int, Pds M (ns.map D.int) (ns.map PyData.int)
  | [] => .nil
  | n :: ns => .cons (.int n) (pds_ints ns)
theorem lay_ints : ∀ ns : List Int, PyData.canLayAll0 (ns.map PyData.int) = true
  | [] => rfl
  | n :: ns => by rw [List.map_cons, PyData.canLayAll0, lay_ints ns]; rfl
end SD
set_option Elab.async false
set_option linter.all false
set_option maxRecDepth 100000
namespace SD
open PySem PySem.Spec PyProof.Rows L2
section
variable {X : Cx}
noncomputable def insD {α : Type} (xs : List α) (j : Nat) (y : α) : List α := xs.take j ++ y :: xs.drop j
noncomputable def rInsert : V → List V → Hp → VK → Prop := fun x vs H Q => ∃ l xs y, ∃ (k : Int) (j : Nat), x = .ref l ∧ vs = [.int k, y] ∧ k = (j : Int) ∧ H l = some (.lst xs) ∧ j ≤ xs.length ∧ xs.length < 1000000 ∧ Q .non (upd H l (.lst (insD xs j y)))
theorem ins_arr (its : List Value) (k : Int) (j : Nat) (u : Value) (hk : k = (j : Int)) (hj : j ≤ its.length) :
    (its.toArray.extract 0 (if k < 0 then (k + ((its.toArray.size : Nat) : Int)).toNat else min k.toNat its.toArray.size)).push u ++ its.toArray.extract (if k < 0 then (k + ((its.toArray.size : Nat) : Int)).toNat else min k.toNat its.toArray.size) = (insD its j u).toArray := by
  have e : (if k < 0 then (k + ((its.toArray.size : Nat) : Int)).toNat else min k.toNat its.toArray.size) = j := by
    rw [if_neg (by omega), List.size_toArray]; omega
  rw [e]
  apply Array.toList_inj.mp
  simp [insD]
  exact List.take_of_length_le (by simp)
theorem mt_insert : MtM X "list.insert" rInsert := by
  intro pins s σ H x vs v us Q I rx rv z0
  obtain ⟨l, xs, y, k, j, ex, ev, hk, hH, hj, hz, q⟩ := z0
  subst ex ev
  cases rx
  obtain ⟨u1, u2, rfl, r1, r2⟩ := rv.two
  obtain ⟨t, rfl⟩ := r1
  obtain ⟨z, its, n, r, hl, e⟩ := I.lstM hH
  have fits : Builtin.List.listFitsIndex k = true := by
    unfold Builtin.List.listFitsIndex
    simp
    omega
  have hsz : its.toArray.size ≤ sizeLine := by rw [List.size_toArray, ← hl]; exact z
  refine call_meets PySem.F.slot_list_insert ⟨_, e, rfl⟩ PySem.F.entry_list_insert (PySem.F.args_list_insert_3 _ _ _) (PySem.AutoSeq1.list_insert_list_int_val_1 l its.toArray n k t u2 (by rw [fits]; decide) hsz) ⟨e, ?_⟩
  refine ⟨.non, _, I.lset (its' := insD its j u2) hH e (ins_arr its k j u2 hk (by omega)) ((Vals.take j r).append (.cons r2 (Vals.drop j r))) ?_, rfl, q⟩
  show (xs.take j ++ y :: xs.drop j).length ≤ sizeLine
  simp only [List.length_append, List.length_take, List.length_cons, List.length_drop]
  have : 1000000 ≤ sizeLine := Nat.le_of_ble_eq_true rfl
  omega
noncomputable def tInsD (to : TD) (t : TAD) : TD := fun δ M Q => to δ M fun x M1 => ∃ l ys, x = .ref l ∧ M1 l = some (.lst ys) ∧ t δ M1 fun ds M2 => ∃ xs d, ∃ j : Nat, ds = [.int (j : Int), d] ∧ M2 l = some (.lst xs) ∧ j ≤ xs.length ∧ xs.length < 1000000 ∧ Q .non (updM M2 l (.lst (insD xs j d)))
variable {o e1 e2 : Expr} {to : TD} {t : TAD} {apos cpos : Pos}
theorem de_m_insert (ho : DE X o to) (ha : DA X [e1, e2] t)
    (hbase : attributeBase o "insert" X.env (eval o X.env) = eval o X.env := by rfl)
    (hfew : ((backTo cpos (starEach [e1, e2] X.env)).all (fun x => !x.1) && (backToKw cpos (keywordEach [] X.env)).all (fun x => x.1.isSome)
      && decide ([e1, e2].length + ([] : List Keyword).length + (if ([] : List Keyword).isEmpty then 0 else 1) < 30)) = true := by rfl)
    (hline : (apos.endLine == cpos.line) = true := by rfl) (hs : starEach [e1, e2] X.env = (false, eval e1 X.env) :: starEach [e2] X.env := by rfl) (hplain : (backTo cpos (starEach [e2] X.env)).any (·.1) = false := by rfl) :
    DE X (.Call (.Attribute o "insert" apos) [e1, e2] [] cpos) (tInsD to t) :=
  pe_imp (pe_bm PySem.F.plainAttrs_list PySem.F.slot_list_insert PySem.F.type_list_insert mt_insert ho ha hbase hfew hline hs hplain) fun σ H Q z9 => by
    obtain ⟨δ, M, R, hsl, hM, q, fin⟩ := z9
    refine ⟨δ, M, _, hsl, hM, q, fun x M1 v H1 g1 r1 a1 ⟨l, ys, ex, hl, q1⟩ => ?_⟩
    subst ex
    rw [Rep] at r1
    subst r1
    obtain ⟨vs, hvs, _⟩ := a1 _ _ hl
    refine ⟨.inl ⟨rfl, vs, SqL.of hvs⟩, δ, M1, _, hsl.mono g1, a1, q1, fun ds M2 us H2 g2 r2 a2 ⟨xs, d, j, ed, hx, hj, hn, q2⟩ => ?_⟩
    subst ed
    obtain ⟨u1, u2, rfl, ru1, ru2⟩ := reps2 r2
    rw [Rep] at ru1
    subst ru1
    obtain ⟨ws, hws, rws⟩ := a2 _ _ hx
    have hlen := rws.length
    exact ⟨l, ws, u2, _, j, rfl, rfl, rfl, hws, by omega, by omega, fin _ _ _ _ (g1.trans (g2.trans (.lst hws))) (by rw [Rep]) (a2.setL hws ((rws.take j).append (.cons ru2 (rws.drop j)))) q2⟩
noncomputable def rList : RC := fun ds M Q => match ds with
  | [.ref l] => ∃ xs, M l = some (.lst xs) ∧ ∀ p, M p = none → Q (.ref p) (updM M p (.lst xs))
  | [.tup xs] => ∀ p, M p = none → Q (.ref p) (updM M p (.lst xs))
  | _ => False
theorem cd_list : CallD X (.type "list") rList := call_imp call_list_of fun vs H Q z9 => by
  obtain ⟨ds, M, R, rs, a, q, fin⟩ := z9
  unfold rList at q
  split at q
  · obtain ⟨ys, e, q⟩ := q
    obtain ⟨v, rfl, r⟩ := reps1 rs
    rw [Rep] at r; subst r
    obtain ⟨xs, hx, rx⟩ := a _ _ e
    exact ⟨_, xs, rfl, .inl (SqL.of hx), fun z hz => fin _ _ _ _ (.new hz) (by rw [Rep]) (a.newL hz rx) (q z (a.fresh hz))⟩
  · obtain ⟨v, rfl, r⟩ := reps1 rs
    rw [Rep] at r
    obtain ⟨p, xs, rfl, hx, rx⟩ := r
    exact ⟨_, xs, rfl, .inr hx, fun z hz => fin _ _ _ _ (.new hz) (by rw [Rep]) (a.newL hz rx) (q z (a.fresh hz))⟩
  · exact q.elim
end
end SD
set_option Elab.async false
set_option linter.all false
set_option maxRecDepth 100000
namespace SD
open PySem PySem.Spec PyProof.Rows L2
noncomputable def lam (w : Wl) : Int := l2 w - l1 w
noncomputable def Nm (w : Wl) (t : Int) : Int := 2 * w.1 * lam w + (t - 2 * l1 w) * (w.2.2.1 - w.1)
noncomputable def Gh (U V : Wl) (t : Int) : Int := Nm V t * lam U - Nm U t * lam V
theorem g_lin (U V : Wl) (p q t : Int) : Gh U V t * (q - p) = Gh U V p * (q - t) + Gh U V q * (t - p) := by
  unfold Gh Nm
  grind
theorem g_pos {U V : Wl} {p q t : Int} (h1 : p < t) (h2 : t < q) (gp : 0 ≤ Gh U V p) (gq : 0 ≤ Gh U V q) (g : 0 < Gh U V p ∨ 0 < Gh U V q) : 0 < Gh U V t := by
  refine pos_of (k := q - p) (by omega) ?_
  rw [g_lin U V p q t]
  have a1 := Int.mul_nonneg gp (show 0 ≤ q - t by omega)
  have a2 := Int.mul_nonneg gq (show 0 ≤ t - p by omega)
  rcases g with g | g
  · have := Int.mul_pos g (show 0 < q - t by omega); omega
  · have := Int.mul_pos g (show 0 < t - p by omega); omega
end SD
set_option Elab.async false
set_option linter.all false
set_option maxRecDepth 100000
namespace SD
open PySem PySem.Spec PyProof.Rows L2
theorem insD_map {α β : Type} (f : α → β) (xs : List α) (j : Nat) (y : α) : insD (xs.map f) j (f y) = (insD xs j y).map f := by
  unfold insD; simp [List.map_take, List.map_drop]
theorem insD_perm {α : Type} (xs : List α) (j : Nat) (y : α) : (insD xs j y).Perm (y :: xs) := by
  unfold insD
  have h : (xs.take j ++ y :: xs.drop j).Perm (y :: (xs.take j ++ xs.drop j)) := List.perm_middle
  rwa [List.take_append_drop] at h
theorem dep_ints : ∀ ns : List Int, PyData.depthAll (ns.map PyData.int) ≤ 10
  | [] => Nat.le_of_ble_eq_true rfl
  | n :: ns => by
    rw [List.map_cons, PyData.depthAll]
    exact Nat.max_le.mpr ⟨Nat.le_of_ble_eq_true rfl, dep_ints ns⟩
theorem shaped_list {ps : List PyData} (h1 : PyData.canLayAll0 ps = true) (h2 : PyData.depthAll ps ≤ 10) : SeqAt.shaped (.list ps) = true := by
  unfold SeqAt.shaped
  rw [Bool.and_eq_true]
  refine ⟨by rw [PyData.canLay0]; exact h1, decide_eq_true ?_⟩
  rw [PyData.depth]
  omega
theorem shaped_ints (ns : List Int) : SeqAt.shaped (.list (ns.map PyData.int)) = true := shaped_list (lay_ints ns) (dep_ints ns)
noncomputable def wAt (ws : List Wl) (k : Int) : Wl := (ws[k.toNat]?).getD (0, 0, 0, 0)
noncomputable def frP (q : Rat) : PyData := .tuple [.int q.num, .int (q.den : Int)]
noncomputable def rwP (t b x y : Int) (w : Wl) : PyData := .tuple [.tuple [frP (Ma.ut t b x 1 w.1), frP (Ma.ut t b y 1 w.2.1)], .tuple [frP (Ma.ut t b x 1 w.2.2.1), frP (Ma.ut t b y 1 w.2.2.2)]]
theorem rwP_refl (t b x y : Int) (w : Wl) : PyData.eqv (rwP t b x y w) (rwP t b x y w) = true := by
  simp [rwP, frP, PyData.eqv, PyData.eqvAll]
theorem pds_rw {M : MH} (t b x y : Int) : ∀ ws : List Wl, Pds M (ws.map (rwl t b x y)) (ws.map (rwP t b x y))
  | [] => .nil
  | w :: ws => .cons (Pd.of rfl) (pds_rw t b x y ws)
theorem lay_rw (t b x y : Int) : ∀ ws : List Wl, PyData.canLayAll0 (ws.map (rwP t b x y)) = true
  | [] => rfl
  | w :: ws => by rw [List.map_cons, PyData.canLayAll0, lay_rw t b x y ws]; rfl
theorem dep_rw (t b x y : Int) : ∀ ws : List Wl, PyData.depthAll (ws.map (rwP t b x y)) ≤ 10
  | [] => Nat.le_of_ble_eq_true rfl
  | w :: ws => by
    rw [List.map_cons, PyData.depthAll]
    exact Nat.max_le.mpr ⟨Nat.le_of_ble_eq_true rfl, dep_rw t b x y ws⟩
theorem eqvAll_rw (t b x y : Int) : ∀ ws : List Wl, PyData.eqvAll (ws.map (rwP t b x y)) (ws.map (rwP t b x y)) = true
  | [] => by simp [PyData.eqvAll]
  | w :: ws => by rw [List.map_cons, PyData.eqvAll, rwP_refl, eqvAll_rw t b x y ws]; rfl
end SD
namespace SD
open PySem PySem.Spec PyProof.Rows L2
noncomputable def spB (ws : List Wl) (m s : Int) (j : Nat) : Bool := decide (m * l1 (wAt ws (j : Int)) ≤ s) && decide (s < m * l2 (wAt ws (j : Int)))
noncomputable def spK (ws : List Wl) (m s : Int) : List Int := ((List.range ws.length).filter (spB ws m s)).map fun j : Nat => (j : Int)
end SD
set_option Elab.async false
set_option linter.all false
set_option maxRecDepth 100000
namespace SD
open PySem PySem.Spec PyProof.Rows L2
section
variable {X : Cx} {pins : List (Addr × Obj)} {σ : L2.St} {H : Hp} {s : Shared}
end
noncomputable def Ite (K : PySem.W.Frag) (a : Addr) : It :=
  ⟨fun i H => ∃ xs x, SqL K H a xs ∧ xs[i]? = some x, fun i H x H' => ∃ T y, x = .ref T ∧ H T = none ∧ H' = upd H T (.tup [.int (i : Int), y]) ∧ ∀ xs, SqL K H a xs → xs[i]? = some y, fun i H => ∃ xs, SqL K H a xs ∧ xs.length ≤ i⟩
section
variable {X : Cx} {elts : List Expr} {kt : Nat} {pt : Pos}
noncomputable def iEnum (K : PySem.W.Frag) (ta : TA) : TI := fun σ H R => ta σ H fun vs H1 => ∃ a xs, vs = [.ref a] ∧ H1 a = some (.lst xs) ∧ R (Ite K a) H1
noncomputable def dEnum (ta : TAD) : TID := fun δ M R => ta δ M fun ds M1 => ∃ l es, ds = [.ref l] ∧ M1 l = some (.lst es) ∧ R ⟨es.length, fun i => (es[i]?).map fun d => .tup [.int (i : Int), d], fun M => M l = some (.lst es)⟩ M1
end
end SD
set_option Elab.async false
set_option linter.all false
set_option maxRecDepth 100000
namespace SD
open PySem PySem.Spec PyProof.Rows L2
structure Un6 (w : Wl) : Prop where
  a : 0 ≤ w.1 ∧ w.1 ≤ 60
  b : 0 ≤ w.2.1 ∧ w.2.1 ≤ 20
  c : 0 ≤ w.2.2.1 ∧ w.2.2.1 ≤ 60
  d : 0 ≤ w.2.2.2 ∧ w.2.2.2 ≤ 20
  lt : l1 w < l2 w
noncomputable def EndOf (w : Wl) (x y : Int) : Prop := (x = w.1 ∧ y = w.2.1) ∨ (x = w.2.2.1 ∧ y = w.2.2.2)
end SD
set_option Elab.async false
set_option linter.all false
set_option maxRecDepth 100000
namespace SD
open PySem PySem.Spec PyProof.Rows L2
section
variable {X : Cx}
noncomputable def tRevD (to : TD) : TD := fun δ M Q => to δ M fun x M1 => ∃ l xs, x = .ref l ∧ M1 l = some (.lst xs) ∧ Q .non (updM M1 l (.lst xs.reverse))
theorem Reps.rev {K : PySem.W.Frag} {H : Hp} : ∀ {ds : List D} {xs : List V}, Reps K H ds xs → Reps K H ds.reverse xs.reverse
  | [], _, h => by rw [Reps] at h; subst h; exact .nil
  | d :: ds, _, h => by
    rw [Reps] at h
    obtain ⟨x, r, rfl, h1, h2⟩ := h
    rw [List.reverse_cons, List.reverse_cons]
    exact (Reps.rev h2).append (.cons h1 .nil)
variable {o : Expr} {to : TD} {apos cpos : Pos}
end
end SD
set_option Elab.async false
set_option linter.all false
set_option maxRecDepth 100000
namespace SD
open PySem PySem.W PySem.Spec PySem.Calls PyProof.Rows Builtin Builtin.ObjectAttr Builtin.Getset_descriptor
section
variable {prog : Program} {w : World} {A : Around} {E : Value → Shared → Prop} {h : Heap} {g : Array GenState} {d : Drawn} {t : Nat} {os : OsState} {K : Frag} {a C : Addr} {o : Obj}
structure ErrC (K : Frag) (C : Addr) : Prop where
  ga : findIn K (.ref C) "__getattribute__" = some (some (.builtin "BaseException.__getattribute__"))
  gt : findIn K (.ref C) "__getattr__" = some none
  cl : findIn K (.ref C) "__class__" = some (some (.builtin "object.__class__"))
  sub : subIn K (.ref C) (.type "BaseException") = some true
  mro : mroIn K C (.type "object") = some true
end
end SD
set_option Elab.async false
set_option linter.all false
set_option maxRecDepth 100000
namespace SD
open PySem PySem.Spec PyProof.Rows L2
noncomputable def hideL (h : Heap) : List Addr → Heap
  | [] => h
  | a :: l => (hideL h l).hide a
theorem frs_cons {env : Env} {l : List Env} {L : Addr} (h : env.frame = some L) : frs (env :: l) = L :: frs l := by unfold frs; rw [List.filterMap_cons, h]
theorem fun_mem {h base : Heap} : ∀ {l : List Env} {b : Addr}, h.FunFrames base l → b ∈ frs l → ∃ o, h.get? b = some o ∧ ∀ vs : Array Value, o.data ≠ .fields vs
  | [], _, _, m => by unfold frs at m; simp at m
  | env :: r, b, ⟨hk, ⟨L, o, hf, hn, ho, hd⟩, hr⟩, m => by
    rw [frs_cons hf] at m
    rcases List.mem_cons.mp m with e | m
    · exact ⟨o, by rw [e]; exact ho, hd⟩
    · exact fun_mem hr m
theorem obj_get {P : Program} {w : World} {H : Hp} {h : Heap} {a : Addr} {o : HO} (x : ObjOk P w H h a o) : ∃ u, h.get? a = some u := by
  cases o with
  | lst xs => obtain ⟨_, _, _, _, e⟩ := x; exact ⟨_, e⟩
  | tup xs => obtain ⟨_, _, _, ⟨_, e, _⟩, _⟩ := x; exact ⟨_, e⟩
  | dK kvs => obtain ⟨_, _, _, _, o, _, _, e, _⟩ := x; exact ⟨_, e⟩
  | dT kvs => obtain ⟨_, _, _, _, o, _, _, e, _⟩ := x; exact ⟨_, e⟩
  | set S n => obtain ⟨o, _, _, _, e, _⟩ := x; exact ⟨_, e⟩
  | ins C dx fs => obtain ⟨_, _, _, e, _⟩ := x; exact ⟨_, e⟩
  | own y => obtain ⟨_, e⟩ := x; exact ⟨_, e⟩
  | xd fs => obtain ⟨_, ⟨_, _, _, e, _⟩, _⟩ := x; exact ⟨_, e⟩
  | rng lo hi => obtain ⟨_, _, _, e⟩ := x; exact ⟨_, e⟩
  | frz ob u => obtain ⟨e, _⟩ := x; exact ⟨_, e⟩
  | tbl ps => exact ⟨_, (show h.get? a = some _ from x)⟩
  | met f y => exact ⟨_, (show h.get? a = some _ from x)⟩
  | ext φ => obtain ⟨_, e, _⟩ := x; exact e
structure Fly (P : Program) (w : World) (outer : List Env) (H H' : Hp) (s s' : Shared) (a C : Addr) : Prop where
  os : s'.os = s.os
  bare : AllBare s'.gens
  bs : ∃ (b : Heap) (a0 : Value), b.FlyingW outer a (.ref C) a0 s'.heap ∧ HOk P w H' b ∧
    (∀ x o, s.heap.get? x = some o → H x = none → x ∉ frs outer → b.get? x = some o) ∧ (∀ x o, s.heap.get? x = some o → x ∉ frs outer → ∃ o', b.get? x = some o')
  slot : ∀ x o, s.heap.get? x = some o → H x = none → x ∈ frs outer → ∃ sl, s'.heap.get? x = some { o with slots := sl }
  free : ∀ x o, s.heap.get? x = some o → H x = none → H' x = none
  tups : ∀ b xs, H b = some (.tup xs) → H' b = some (.tup xs)
  frzs : ∀ b o u, H b = some (.frz o u) → H' b = some (.frz o u)
  tbls : ∀ b ps, H b = some (.tbl ps) → ∃ more, H' b = some (.tbl (ps ++ more))
section
variable {P : Program} {w : World} {outer : List Env} {H H' : Hp} {s s' : Shared} {a C : Addr}
theorem Fly.un (F : Fly P w outer H H' s s' a C) (hf : ∀ x ∈ frs outer, H x = none) : Un (frs outer) [] H H' s.heap s'.heap := by
  obtain ⟨b, a0, fl, hok, kp, th⟩ := F.bs
  refine ⟨fun x o e n nf _ => fl.1 x o (kp x o e n nf), fun x o e n m _ => F.slot x o e n m, fun x o e n _ => F.free x o e n, fun x o e _ => ?_, F.tups, F.frzs, F.tbls⟩
  by_cases m : x ∈ frs outer
  · obtain ⟨sl, q⟩ := F.slot x o e (hf x m) m
    exact ⟨_, q⟩
  · obtain ⟨o', q⟩ := th x o e m
    exact ⟨o', fl.1 x o' q⟩
theorem Fly.hok (F : Fly P w outer H H' s s' a C) : HOk P w H' s'.heap := by
  obtain ⟨b, a0, fl, hok, _, _⟩ := F.bs
  exact hok.kept fl.1
theorem Fly.new (F : Fly P w outer H H' s s' a C) : H' a = none := by
  obtain ⟨b, a0, fl, hok, _, _⟩ := F.bs
  cases e : H' a with
  | none => rfl
  | some o =>
    obtain ⟨u, q⟩ := obj_get (hok a o e)
    rw [fl.2.1] at q; cases q
theorem Fly.apart (F : Fly P w outer H H' s s' a C) {x : Addr} {o : Obj} (e : s.heap.get? x = some o) (n : H x = none) : x ≠ a := by
  rintro rfl
  obtain ⟨b, a0, fl, hok, kp, _⟩ := F.bs
  by_cases m : x ∈ frs outer
  · obtain ⟨o', e', d⟩ := fun_mem fl.2.2.1 m
    obtain ⟨oe, vs, T, oT, ts, h1, _, h2, _⟩ := fl.2.2.2
    rw [h1] at e'; cases e'
    exact d vs h2
  · have := kp x o e n m
    rw [fl.2.1] at this; cases this
end
noncomputable def CXE (P : Program) (w : World) : CXT := fun outer H s E e s' => ∃ a C H', e = .ref a ∧ Fly P w outer H H' s s' a C ∧ E (.ref C) none H'
section
variable {P : Program} {w : World} {K : PySem.W.Frag} {mg : Str → Option Value} {base : Heap} {N : List Str} {qual : Str} {scope : Scope} {f : Addr} {cd : Value} {A : Around} {outer : List Env} {s : Shared} {H : Hp} {E : XK}
end
end SD
set_option Elab.async false
set_option linter.all false
set_option maxRecDepth 100000
namespace SD
open PySem PySem.Spec PyProof.Rows L2
theorem topRead_of {P : Program} {K : PySem.W.Frag} {mg : Str → Option Value} {base : Heap} (m : Mod K mg base) : ∃ loose mb, PySem.W.TopRead P loose mg mb base := by
  obtain ⟨mb, hb, hbb⟩ := m.blt
  obtain ⟨o, es, ep, ho, hd, hk, hf⟩ := id m.glob
  refine ⟨es.toList.filterMap (fun e => match e.key with | .str n _ => some n | _ => none), mb, ⟨m.glob, hb, m.nolimit, hbb, fun x _ hl _ _ _ => ?_⟩⟩
  rw [← hf x]; unfold nsFind findBy
  cases e : Array.find? (fun e => e.key.isStr x) es with
  | none => rfl
  | some en =>
    exfalso; apply hl
    have h1 := Array.mem_of_find?_eq_some e
    have h2 := Array.find?_some e
    obtain ⟨n, t, hkk⟩ := hk en h1
    rw [List.mem_filterMap]
    refine ⟨en, by simpa using h1, ?_⟩
    rw [hkk]; rw [hkk] at h2
    have h3 : (n == x) = true := h2
    rw [show x = n from (eq_of_beq h3).symm]
noncomputable abbrev veM : List Value := [Value.type "ValueError", Value.type "Exception", Value.type "BaseException", Value.type "object"]
structure ClsE (K : PySem.W.Frag) (x : Str) (C : Addr) : Prop where
  nm : PySem.W.nsIn K mainGlobals x = some (some (.ref C))
  ex : PySem.W.excIn K C veM "ValueError.__new__" = true
theorem ClsE.own {K : PySem.W.Frag} {x : Str} {C : Addr} {mg : Str → Option Value} {base : Heap} (c : ClsE K x C) (P : Program) (m : Mod K mg base) : OwnCls x C veM "ValueError.__new__" mg base :=
  let ⟨_, _, t⟩ := topRead_of (P := P) m
  PySem.W.own_of_in m.kin t c.nm c.ex
section
variable {P : Program} {w : World} {K : PySem.W.Frag} {mg : Str → Option Value} {base : Heap} {N : List Str} {qual : Str} {scope : Scope} {f : Addr} {cd : Value} {A : Around} {outer : List Env} {s : Shared} {H : Hp} {E : XK}
noncomputable def tRaiseD (R : Addr → MH → Prop) (C : Addr) (te : TAD) : TSD := fun B δ M => te δ M fun ds M1 => ds.length ≤ 1000 ∧ R C M1
noncomputable abbrev SpR := List D → MH → (Addr → MH → Prop) → Prop
noncomputable def liftSpR (K : PySem.W.Frag) (sp : SpR) : Sp := fun vs H _ E => ∃ ds M R, Reps K H ds vs ∧ Abs K H M ∧ sp ds M R ∧ ∀ C M' H', Abs K H' M' → R C M' → E (.ref C) none H'
noncomputable def CalR (P : Program) (w : World) (K : PySem.W.Frag) (mg : Str → Option Value) (base : Heap) (k : Nat) (x : Str) (sp : SpR) : Prop :=
  ∃ f fd ps, FnOk P w K mg base (CXE P w) k f fd ps (liftSpR K sp) ∧ mg x = some (.ref f) ∧ PySem.W.keepIn K (.ref f) = true ∧ Binds K fd ps []
theorem CalR.mono {j k : Nat} {x : Str} {sp : SpR} (h : CalR P w K mg base j x sp) (l : j ≤ k) : CalR P w K mg base k x sp :=
  let ⟨f, fd, ps, F, r⟩ := h; ⟨f, fd, ps, F.mono l, r⟩
noncomputable def tCallRD (sp : SpR) (R : Addr → MH → Prop) (t : TAD) : TD := fun δ M Q => t δ M fun ds M1 => sp ds M1 R
end
section
variable {P : Program} {w : World} {K : PySem.W.Frag} {mg : Str → Option Value} {base : Heap}
end
end SD
set_option Elab.async false
set_option linter.all false
set_option maxRecDepth 100000
namespace SD
open PySem PySem.Spec PyProof.Rows L2
noncomputable abbrev hold (X : Cx) (a : Addr) : Cx := { X with A := X.A.mark (some (.ref a)), calm := false }
section
variable {X : Cx} {pins : List (Addr × Obj)} {σ : L2.St} {H : Hp} {s : Shared} {a : Addr}
end
end SD
set_option Elab.async false
set_option linter.all false
set_option maxRecDepth 100000
namespace SD
open PySem PySem.Spec PyProof.Rows L2
noncomputable abbrev TR := L2.St → Hp → (Hp → XK) → Prop
noncomputable def TBr (X : Cx) (body : List Stmt) (tR : TR) : Prop :=
  ∀ (pins : List (Addr × Obj)) (s : Shared) (σ : L2.St) (H : Hp) (E : Hp → XK), Inv X pins σ H s → tR σ H E → wpAny (model X.prog X.w) X.A (execs body X.env) (fun _ _ => False) (fun e s' => ∃ H1 s1, Inv X pins σ H1 s1 ∧ CXE X.prog X.w X.stack H1 s1 (E H1) e s') s
noncomputable def TEr (X : Cx) (ex : Expr) (tR : TR) : Prop :=
  ∀ (pins : List (Addr × Obj)) (s : Shared) (σ : L2.St) (H : Hp) (E : Hp → XK), Inv X pins σ H s → tR σ H E → wpAny (model X.prog X.w) X.A (eval ex X.env) (fun _ _ => False) (fun e s' => ∃ H1 s1, Inv X pins σ H1 s1 ∧ CXE X.prog X.w X.stack H1 s1 (E H1) e s') s
section
variable {Y : Cx} {k : Nat} {f : Addr} {fd : FuncData} {ps : List Str} {sp : Sp} {x : Str} {p pos : Pos} {e : Expr} {es : List Expr} {t : TA}
end
noncomputable def gone (j : Nat) (D : Ends) : Ends := { nx := fun σ H => D.nx (σ.set j none) H, rt := D.rt, bk := fun σ H => D.bk (σ.set j none) H, ct := fun σ H => D.ct (σ.set j none) H }
noncomputable def tTry (K : PySem.W.Frag) (S : Addr) (j : Nat) (tb : TS) (tR : TR) (th : TS) : TS := fun D σ H => tb D σ H ∨
  tR σ H fun H1 cv _ H' => ∃ C, cv = .ref C ∧ PySem.W.subIn K (.ref C) (.ref S) = some true ∧ (Grow K H1 H' → ∀ a, H' a = none → th (gone j D) (σ.set j (some (.ref a))) (upd H' a (.ext (errF a C))))
theorem Slots.gone {K : PySem.W.Frag} {H : Hp} {δ : DS} {σ : L2.St} (h : Slots K H δ σ) (j : Nat) : Slots K H (δ.set j none) (σ.set j none) := by
  refine ⟨by simp [h.len], fun i d q => ?_⟩
  rw [List.getElem?_set] at q
  by_cases hij : j = i
  · rw [if_pos hij] at q
    split at q <;> cases q
  · rw [if_neg hij] at q
    obtain ⟨v', e1, e2⟩ := h.at' i d q
    exact ⟨v', by rw [List.getElem?_set, if_neg hij]; exact e1, e2⟩
noncomputable def goneD (j : Nat) (B : EndsD) : EndsD := { nx := fun δ M => B.nx (δ.set j none) M, rt := B.rt, bk := fun δ M => B.bk (δ.set j none) M, ct := fun δ M => B.ct (δ.set j none) M }
noncomputable abbrev TRD := DS → MH → (Addr → MH → Prop) → Prop
noncomputable def liftR (K : PySem.W.Frag) (t : TRD) : TR := fun σ H E => ∃ δ M R, Slots K H δ σ ∧ Abs K H M ∧ t δ M R ∧ ∀ C M' H1 H', Grow K H H1 → Abs K H' M' → R C M' → E H1 (.ref C) none H'
noncomputable def tCallR (sp : SpR) (t : TAD) : TRD := fun δ M R => t δ M fun ds M1 => sp ds M1 R
section
variable {Y : Cx}
noncomputable def tTryD (K : PySem.W.Frag) (S : Addr) (j : Nat) (tb : TSD) (tR : TRD) (th : TSD) : TSD := fun B δ M => tb B δ M ∨
  tR δ M fun C M' => PySem.W.subIn K (.ref C) (.ref S) = some true ∧ ∀ a, M' a = none → th (goneD j B) (δ.set j (some (.ref a))) (updM M' a (.err C))
end
end SD
set_option Elab.async false
set_option linter.all false
set_option maxRecDepth 100000
namespace SD
open PySem PySem.Spec PyProof.Rows L2
structure ErrK (K : PySem.W.Frag) (C : Addr) : Prop where
  c : ErrC K C
  s : (PySem.W.clsIn K C).isSome = true
noncomputable def clsV : D → Option Value
  | .ty n => some (.type n)
  | .ref d => some (.ref d)
  | _ => none
noncomputable def rIsInstE (K : PySem.W.Frag) : RC := fun ds M Q => rIsInst K ds M Q ∨ ∃ a C c cv b, ds = [.ref a, c] ∧ M a = some (.err C) ∧ ErrK K C ∧ clsV c = some cv ∧ PySem.W.kitOne K (.ref C) cv = some b ∧ Q (.bl b) M
section
variable {X : Cx}
noncomputable def rCountT : V → List V → Hp → VK → Prop := fun x vs H Q => ∃ l, ∃ bs : List Bool, x = .ref l ∧ vs = [.bl true] ∧ H l = some (.lst (bs.map V.bl)) ∧ Q (.int ((bs.countP (· == true) : Nat) : Int)) H
noncomputable def tCntD (to : TD) (t : TAD) : TD := fun δ M Q => to δ M fun x M1 => ∃ l ys, x = .ref l ∧ M1 l = some (.lst ys) ∧ t δ M1 fun ds M2 => ∃ bs : List Bool, ds = [.bl true] ∧ M2 l = some (.lst (bs.map D.bl)) ∧ Q (.int ((bs.countP (· == true) : Nat) : Int)) M2
variable {o e1 : Expr} {to : TD} {t : TAD} {apos cpos : Pos}
end
noncomputable def cl (K : PySem.W.Frag) (x : Str) : Addr := match PySem.W.nsIn K mainGlobals x with
  | some (some (.ref C)) => C
  | _ => 0
section
variable {K : PySem.W.Frag} {x y : Str} {C D : Addr} {b : Bool}
theorem cl_of (a : PySem.W.nsIn K mainGlobals x = some (some (.ref C))) : cl K x = C := by unfold cl; rw [a]
theorem cl_mg {h : Heap} {mg : Str → Option Value} (X : K.In h) (G : h.Ns mainGlobals mg) (a : PySem.W.nsIn K mainGlobals x = some (some (.ref C))) : mg x = some (.ref (cl K x)) := by rw [cl_of a]; exact PySem.W.mg_of X G a
end
end SD
set_option Elab.async false
set_option linter.all false
set_option maxRecDepth 100000
namespace SD
open PySem PySem.Spec PyProof.Rows L2
section
variable {prog : Program} {w : World} {A : Around} {E : Value → Shared → Prop} {s : Shared} {K : PySem.W.Frag} {e C t0 : Addr} {oe : Obj} {vs : Array Value} {m : Str} {tk : Tok}
end
section
variable {X : Cx} {pins : List (Addr × Obj)} {σ : L2.St} {H : Hp} {s : Shared} {a : Addr}
end
noncomputable def errT (a C t : Addr) : Heap → Prop := fun h => ∃ o vs, h.get? a = some o ∧ o.cls = .ref C ∧ o.data = .fields vs ∧ vs[0]? = some (.ref t)
section
variable {X : Cx} {c : Str} {C : Addr} {np cpos pos p : Pos} {e₀ : Expr} {te : TA}
end
theorem ru2 {k : Nat} {A : Around} (r : Room k A) : A.units + 2 < cLine := by have := r.un; omega
structure ClsS (K : PySem.W.Frag) (C : Addr) : Prop where
  kp : PySem.W.keepIn K (.ref C) = true
  b : PySem.W.subIn K (.ref C) (.type "BaseException") = some true
  st : PySem.W.findIn K (.ref C) "__str__" = some (some (.builtin "BaseException.__str__"))
noncomputable def tStrE (t : TAD) : TD := fun δ M Q => t δ M fun ds M1 => ∃ m, ds = [.str m] ∧ Q (.str m) M1
section
variable {K : PySem.W.Frag} {x : Str} {C : Addr}
end
end SD
set_option Elab.async false
set_option linter.all false
set_option maxRecDepth 100000
namespace SD
open PySem PySem.Spec PyProof.Rows L2
end SD
set_option Elab.async false
set_option linter.all false
set_option maxRecDepth 100000
namespace SD
open PySem PySem.Spec PyProof.Rows L2
section
variable {X : Cx} {pos : Pos}
noncomputable def tNewDct : TD := fun _ M Q => ∀ p, M p = none → Q (.ref p) (updM M p (.dct 0 fun _ => false))
noncomputable def tDctIn (g : Bool → Bool) (t : TAD) (i : Nat) : TD := fun δ M Q => t δ M fun ds M1 => ∃ a b l n P, ds = [.int a, .int b] ∧ δ[i]? = some (some (.ref l)) ∧ M1 l = some (.dct n P) ∧ Q (.bl (g (P [a, b]))) M1
variable {x : Str} {e1 e2 : Expr} {kt : Nat} {tp np : Pos} {t : TAD}
noncomputable def tDctPut (tv : TD) (t : TAD) (i : Nat) : TSD := fun B δ M => tv δ M fun d M1 => ∃ l, δ[i]? = some (some (.ref l)) ∧ t δ M1 fun ds M2 => ∃ a b n P, ds = [.int a, .int b] ∧ M2 l = some (.dct n P) ∧ n < 1000000 ∧ B.nx δ (updM M2 l (.dct (n + 1) fun k => decide (k = [a, b]) || P k))
noncomputable def tRngV (t : TA) : TE := fun σ H Q => t σ H fun vs H1 => ∃ n : Nat, vs = [.int (n : Int)] ∧ ∀ p, H1 p = none → Q (.ref p) (upd H1 p (.rng 0 (n : Int)))
noncomputable def tLstR (t : TAD) : TD := fun δ M Q => t δ M fun ds M1 => ∃ n : Nat, ds = [.int (n : Int)] ∧ n ≤ 1000000 ∧ ∀ p, M1 p = none → Q (.ref p) (updM M1 p (.lst ((List.range n).map fun i : Nat => D.int (i : Int))))
end
end SD
set_option Elab.async false
set_option linter.all false
set_option maxRecDepth 100000
namespace SD
open PySem PySem.Spec PyProof.Rows
noncomputable abbrev SpK := Int × Int × Int × Int
section
variable {P : Program} {w : World}
noncomputable def IsFr (P : Program) (w : World) (h : Heap) (n d : Int) (a : Addr) : Prop := IsTupleKey (intKind P w) h [n, d] a
noncomputable def IsSp (P : Program) (w : World) (h : Heap) (k : SpK) (a : Addr) : Prop := ∃ o b c m, h.get? a = some o ∧ o.cls = .type "tuple" ∧ o.data = .seq #[.ref b, .ref c] m ∧ IsFr P w h k.1 k.2.1 b ∧ IsFr P w h k.2.2.1 k.2.2.2 c
theorem IsSp.inj {h : Heap} {a : Addr} {x y : SpK} (p : IsSp P w h x a) (q : IsSp P w h y a) : x = y := by
  obtain ⟨o, b, c, m, h1, h2, h3, h4, h5⟩ := p
  obtain ⟨o', b', c', m', g1, g2, g3, g4, g5⟩ := q
  rw [h1] at g1; cases g1
  rw [h3] at g3
  injection g3 with e _
  have e1 : b = b' ∧ c = c' := by simpa using e
  obtain ⟨rfl, rfl⟩ := e1
  have i1 := IsTupleKey.inj h4 g4
  have i2 := IsTupleKey.inj h5 g5
  obtain ⟨x1, x2, x3, x4⟩ := x
  obtain ⟨y1, y2, y3, y4⟩ := y
  simp at i1 i2
  obtain ⟨rfl, rfl⟩ := i1
  obtain ⟨rfl, rfl⟩ := i2
  rfl
theorem IsSp.keeps {h h' : Heap} {k : SpK} {a d : Addr} {o : Obj} {es : Array DictEntry} {ep : Nat} (p : IsSp P w h k a) (hd : h.get? d = some o) (he : o.data = .dict es ep) (sb : Heap.SameBut d h h') : IsSp P w h' k a := by
  obtain ⟨oa, b, c, m, h1, h2, h3, h4, h5⟩ := p
  have ne : a ≠ d := fun z => by rw [z, hd] at h1; cases h1; rw [he] at h3; cases h3
  exact ⟨oa, b, c, m, (sb.2 a ne).trans h1, h2, h3, IsTupleKey.keeps h4 hd he sb, IsTupleKey.keeps h5 hd he sb⟩
noncomputable def spHash (P : Program) (w : World) (k : SpK) : Int := reduceHash (Builtin.Tuple.tupleHashOf [tupleKeyHash (intKind P w) [k.1, k.2.1], tupleKeyHash (intKind P w) [k.2.2.1, k.2.2.2]])
theorem IsSp.hash {A : Around} {E : Value → Shared → Prop} {s : Shared} {k : SpK} {a : Addr} {Q : Int → Shared → Prop} (hu : A.units + 4 < cLine) (p : IsSp P w s.heap k a) (q : Q (spHash P w k) { s with toks := s.toks + 7 }) : wpAny (model P w) A (pyHash (.ref a)) Q E s := by
  obtain ⟨o, b, c, m, h1, h2, h3, h4, h5⟩ := p
  obtain ⟨hp, g, d, tk, os⟩ := s
  show wpAny _ _ (pyHashByItsType (.ref a)) _ _ _
  refine PySem.W.pyHash_slot (T := "tuple") ⟨o, h1, h2⟩ F.slot_tuple_hash F.entry_tuple_hash (F.args_tuple_hash_1 _) rfl (.inr (by omega)) ?_
  unfold Builtin.«tuple.__hash__»
  simp only [← Array.forIn_toList]
  iterate 4 wp_step
  refine wpAny_pure ?_
  refine wpAny_bind (wpAny_tupleItemsOf h1 h3 ?_)
  refine wpAny_bind ?_
  simp only [List.forIn_cons, List.forIn_nil, pure_bind, bind_assoc]
  refine wpAny_bind (wpAny_pyHash_tuple (knd := intKind P w) (by show A.units + 1 < cLine; omega) h4 ?_)
  refine wpAny_bind (wpAny_pyHash_tuple (knd := intKind P w) (by show A.units + 1 < cLine; omega) h5 ?_)
  refine wpAny_pure ?_
  unfold retInt
  wp_walk
  exact ⟨_, _, rfl, q⟩
theorem isInt_of {n : Int} {v : Value} (h : (intKind P w).is n v = true) : ∃ t, v = .int n t := by
  have h : Value.isInt n v = true := h
  cases v with
  | int i t =>
    have : (i == n) = true := h
    exact ⟨t, by rw [eq_of_beq this]⟩
  | _ => cases h
noncomputable def frPd (n d : Int) : PyData := .tuple [.int n, .int d]
noncomputable def spPd (k : SpK) : PyData := .tuple [frPd k.1 k.2.1, frPd k.2.2.1 k.2.2.2]
theorem IsFr.reads {h : Heap} {n d : Int} {a : Addr} (p : IsFr P w h n d a) : ∃ as, Reads h (.ref a) (frPd n d) as := by
  obtain ⟨o, items, m, h1, h2, h3, h4⟩ := p
  generalize hl : items.toList = l at h4
  cases h4 with
  | cons hx r =>
    cases r with
    | cons hy r =>
      cases r
      obtain ⟨t1, rfl⟩ := isInt_of hx
      obtain ⟨t2, rfl⟩ := isInt_of hy
      exact ⟨_, .tuple h1 h2 h3 (by rw [hl]; exact .cons (.int _ _) (.cons (.int _ _) .nil))⟩
theorem IsSp.reads {h : Heap} {k : SpK} {a : Addr} (p : IsSp P w h k a) : ∃ as, Reads h (.ref a) (spPd k) as := by
  obtain ⟨o, b, c, m, h1, h2, h3, h4, h5⟩ := p
  obtain ⟨as, r1⟩ := h4.reads
  obtain ⟨bs, r2⟩ := h5.reads
  exact ⟨_, .tuple h1 h2 h3 (.cons r1 (.cons r2 .nil))⟩
theorem spPd_eqv (x y : SpK) : (spPd x).eqv (spPd y) = decide (x = y) := by
  obtain ⟨x1, x2, x3, x4⟩ := x
  obtain ⟨y1, y2, y3, y4⟩ := y
  simp only [spPd, frPd, PyData.eqv, PyData.eqvAll, Bool.and_true]
  rw [Bool.eq_iff_iff]
  simp [and_assoc]
theorem IsSp.eq {A : Around} {E : Value → Shared → Prop} {s : Shared} {x y : SpK} {a b : Addr} {Q : Bool → Shared → Prop} (hu : A.units + 4 < cLine) (p : IsSp P w s.heap x a) (p' : IsSp P w s.heap y b) (q : Q (decide (x = y)) s) : wpAny (model P w) A (eqBool (.ref a) (.ref b)) Q E s := by
  obtain ⟨as, r1⟩ := p.reads
  obtain ⟨bs, r2⟩ := p'.reads
  have hd : min (spPd x).depth (spPd y).depth ≤ 3 := Nat.le_trans (Nat.min_le_left _ _) (Nat.le_of_ble_eq_true rfl)
  have := SeqAt.eqAt_reads (spPd x) (spPd y) A s (.ref a) (.ref b) as bs r1 r2 rfl rfl (by omega)
  rw [spPd_eqv] at this
  exact this P w E Q q
theorem IsFr.quiet {A : Around} {E : Value → Shared → Prop} {s : Shared} {n d : Int} {a : Addr} {Q : Bool → Shared → Prop} (i : Nat) (p : IsFr P w s.heap n d a) (q : Q true s) : wpAny (model P w) A (eqIsQuiet (i + 1) (.ref a)) Q E s := by
  obtain ⟨o, items, m, h1, h2, h3, h4⟩ := p
  rw [eqIsQuiet.eq_2]
  refine wpAny_bind (wpAny_specialOf ⟨o, h1, h2⟩ F.slot_tuple_eq.lookup ?_)
  refine wpAny_bind (wpAny_isInstance ⟨o, h1, h2⟩ isSubtype_tuple_tuple ?_)
  simp only [Bool.not_true, Bool.false_eq_true, if_false]
  refine wpAny_bind (wpAny_seqItems h1 h3 ?_)
  simp only [Option.getD_some, ← Array.forIn_toList]
  generalize hl : items.toList = l at h4
  cases h4 with
  | cons hx r =>
    cases r with
    | cons hy r =>
      cases r
      obtain ⟨t1, rfl⟩ := isInt_of hx
      obtain ⟨t2, rfl⟩ := isInt_of hy
      refine wpAny_bind ?_
      simp only [List.forIn_cons, List.forIn_nil, pure_bind, bind_assoc, eqIsQuiet_byValue i (show carriedByValue (.int n t1) = true from rfl), eqIsQuiet_byValue i (show carriedByValue (.int d t2) = true from rfl), Bool.not_true, Bool.false_eq_true, if_false]
      refine wpAny_pure ?_
      exact wpAny_pure q
theorem IsSp.quiet {A : Around} {E : Value → Shared → Prop} {s : Shared} {k : SpK} {a : Addr} {Q : Bool → Shared → Prop} (p : IsSp P w s.heap k a) (q : Q true s) : wpAny (model P w) A (eqIsQuiet 8 (.ref a)) Q E s := by
  obtain ⟨o, b, c, m, h1, h2, h3, h4, h5⟩ := p
  rw [eqIsQuiet.eq_2]
  refine wpAny_bind (wpAny_specialOf ⟨o, h1, h2⟩ F.slot_tuple_eq.lookup ?_)
  refine wpAny_bind (wpAny_isInstance ⟨o, h1, h2⟩ isSubtype_tuple_tuple ?_)
  simp only [Bool.not_true, Bool.false_eq_true, if_false]
  refine wpAny_bind (wpAny_seqItems h1 h3 ?_)
  simp only [Option.getD_some, ← Array.forIn_toList]
  refine wpAny_bind ?_
  simp only [List.forIn_cons, List.forIn_nil, pure_bind, bind_assoc]
  refine wpAny_bind (h4.quiet 6 ?_)
  simp only [Bool.not_true, Bool.false_eq_true, if_false, pure_bind]
  refine wpAny_bind (h5.quiet 6 ?_)
  simp only [Bool.not_true, Bool.false_eq_true, if_false, pure_bind]
  refine wpAny_pure ?_
  exact wpAny_pure q
noncomputable def spotKind (P : Program) (w : World) : HeapKind P w SpK where
  is := IsSp P w
  hash := spHash P w
  draws := fun _ => 7
  room := fun A => A.units + 4 < cLine
  inj := fun p q => p.inj q
  keeps := fun p hd he sb => p.keeps hd he sb
  pyHash := fun hu p q => p.hash hu q
  eqBool := fun hu p p' q => p.eq hu p' q
  quiet := fun p q => p.quiet q
end
end SD
set_option Elab.async false
set_option linter.all false
set_option maxRecDepth 100000
namespace SD
open PySem PySem.Spec PyProof.Rows L2
section
variable {X : Cx} {pins : List (Addr × Obj)} {σ : L2.St} {H : Hp} {s : Shared} {a b : Addr} {k : SpK}
noncomputable def SpAt (K : PySem.W.Frag) (H : Hp) (b : Addr) (k : SpK) : Prop := ∃ f g, SqT K H b [.ref f, .ref g] ∧ SqT K H f [.int k.1, .int k.2.1] ∧ SqT K H g [.int k.2.2.1, .int k.2.2.2]
noncomputable abbrev SpE := SpK × Addr × V
noncomputable def dspF (P : Program) (w : World) (a : Addr) (xs : List SpE) : Heap → Prop := fun h => (a == sysModules) = false ∧ xs.length ≤ sizeLine ∧ (xs.map (·.1)).Nodup ∧ ∃ ys : List (SpK × Addr × Value),
  Paired (fun (p : SpE) (q : SpK × Addr × Value) => p.1 = q.1 ∧ p.2.1 = q.2.1 ∧ RelV p.2.2 q.2.2) xs ys ∧ ∃ o es ep, h.get? a = some o ∧ o.ExactDict ∧ o.data = .dict es ep ∧ es.toList = ys.map (entryOfKey (spotKind P w))
noncomputable def putS (xs : List SpE) (k : SpK) (b : Addr) (v : V) : List SpE := if (xs.any fun x => decide (x.1 = k)) = true then xs.map (fun x => if x.1 = k then (x.1, x.2.1, v) else x) else xs ++ [(k, b, v)]
noncomputable abbrev PrS := fun (p : SpE) (q : SpK × Addr × Value) => p.1 = q.1 ∧ p.2.1 = q.2.1 ∧ RelV p.2.2 q.2.2
noncomputable def valS (xs : List SpE) (k : SpK) : Option V := (xs.find? fun x => decide (x.1 = k)).map (·.2.2)
end
end SD
set_option Elab.async false
set_option linter.all false
set_option maxRecDepth 100000
namespace SD
open PySem PySem.Spec PyProof.Rows L2
section
variable {prog : Program} {w : World} {K : Type} [DecidableEq K] {knd : HeapKind prog w K} {A : Around} {E : Value → Shared → Prop} {s : Shared}
end
section
variable {X : Cx} {pins : List (Addr × Obj)} {σ : L2.St} {H : Hp} {s : Shared} {a b : Addr} {k : SpK}
end
end SD
set_option Elab.async false
set_option linter.all false
set_option maxRecDepth 100000
namespace SD
open PySem PySem.Spec PyProof.Rows L2
section
variable {X : Cx}
noncomputable def tDsNew (X : Cx) : TE := fun _ H Q => ∀ p, H p = none → Q (.ref p) (upd H p (.ext (dspF X.prog X.w p [])))
structure DsAt (X : Cx) (H : Hp) (a b : Addr) (xs : List SpE) (k : SpK) : Prop where
  d : H a = some (.ext (dspF X.prog X.w a xs))
  ks : ∀ x ∈ xs, SpAt X.K H x.2.1 x.1
  key : SpAt X.K H b k
noncomputable def tDsGet (X : Cx) (td ty : TE) : TE := fun σ H Q => td σ H fun x H1 => ty σ H1 fun y H2 => ∃ a b xs k v, x = .ref a ∧ y = .ref b ∧ DsAt X H2 a b xs k ∧ valS xs k = some v ∧ Q v H2
noncomputable def sDsPut (X : Cx) (td ty tv : TE) : TS := fun D σ H => tv σ H fun v H1 => td σ H1 fun x H2 => ty σ H2 fun y H3 => ∃ a b xs k, x = .ref a ∧ y = .ref b ∧ DsAt X H3 a b xs k ∧ xs.length < sizeLine ∧ D.nx σ (upd H3 a (.ext (dspF X.prog X.w a (putS xs k b v))))
noncomputable def tDsSd (X : Cx) (to : TE) (t : TA) : TE := fun σ H Q => to σ H fun x H1 => ∃ a xs0, x = .ref a ∧ H1 a = some (.ext (dspF X.prog X.w a xs0)) ∧ t σ H1 fun vs H2 => ∃ b v xs k, vs = [.ref b, v] ∧ DsAt X H2 a b xs k ∧ xs.length < sizeLine ∧
  (∀ v', valS xs k = some v' → Q v' H2) ∧ (valS xs k = none → Q v (upd H2 a (.ext (dspF X.prog X.w a (putS xs k b v)))))
end
end SD
set_option Elab.async false
set_option linter.all false
set_option maxRecDepth 100000
namespace SD
open PySem PySem.Spec PyProof.Rows L2
noncomputable def spD (k : SpK) : D := .tup [.tup [.int k.1, .int k.2.1], .tup [.int k.2.2.1, .int k.2.2.2]]
section
variable {K : PySem.W.Frag} {H H' : Hp} {M : MH} {a b : Addr} {k : SpK}
theorem sp_of {v : V} (r : Rep K H (spD k) v) : ∃ b, v = .ref b ∧ SpAt K H b k := by
  unfold spD at r
  rw [Rep] at r
  obtain ⟨b, xs, rfl, hx, rs⟩ := r
  obtain ⟨v1, v2, rfl, r1, r2⟩ := reps2 rs
  rw [Rep] at r1 r2
  obtain ⟨f, fs, rfl, hf, rf⟩ := r1
  obtain ⟨g, gs, rfl, hg, rg⟩ := r2
  obtain ⟨w1, w2, rfl, q1, q2⟩ := reps2 rf
  obtain ⟨w3, w4, rfl, q3, q4⟩ := reps2 rg
  rw [Rep] at q1 q2 q3 q4
  subst q1 q2 q3 q4
  exact ⟨b, rfl, f, g, hx, hf, hg⟩
theorem sp_rep (h : SpAt K H b k) : Rep K H (spD k) (.ref b) := by
  obtain ⟨f, g, hx, hf, hg⟩ := h
  unfold spD
  rw [Rep]
  refine ⟨b, _, rfl, hx, ?_⟩
  have i2 : ∀ (m n : Int), Reps K H [D.int m, D.int n] [V.int m, V.int n] := fun m n => reps_ints [m, n]
  rw [Reps]
  refine ⟨_, _, rfl, ?_, ?_⟩
  · rw [Rep]; exact ⟨f, _, rfl, hf, i2 _ _⟩
  · rw [Reps]
    refine ⟨_, _, rfl, ?_, ?_⟩
    · rw [Rep]; exact ⟨g, _, rfl, hg, i2 _ _⟩
    · rw [Reps]
theorem SpAt.mono (g : Grow K H H') (h : SpAt K H b k) : SpAt K H' b k := by
  obtain ⟨b', e, r⟩ := sp_of ((sp_rep h).mono g)
  cases e
  exact r
noncomputable abbrev SpT := List (SpK × D)
noncomputable def dsA (kvs : SpT) : PySem.W.Frag → Hp → Addr → Prop := fun K H a => ∃ xs : List SpE, (∀ P w, H a = some (.ext (dspF P w a xs))) ∧ xs.map (·.1) = kvs.map (·.1) ∧ (∀ x ∈ xs, SpAt K H x.2.1 x.1) ∧ Reps K H (kvs.map (·.2)) (xs.map (·.2.2))
noncomputable def dsM (kvs : SpT) : MO := .gen (dsA kvs)
noncomputable def valD (kvs : SpT) (k : SpK) : Option D := (kvs.find? fun x => decide (x.1 = k)).map (·.2)
noncomputable def putD (kvs : SpT) (k : SpK) (d : D) : SpT := if (kvs.any fun x => decide (x.1 = k)) = true then kvs.map (fun x => if x.1 = k then (x.1, d) else x) else kvs ++ [(k, d)]
theorem Grow.ext {φ : Heap → Prop} {o : HO} (h : H a = some (.ext φ)) : Grow K H (upd H a o) := .put (fun xs e => by rw [h] at e; cases e) (fun u xs e => by rw [h] at e; cases e)
end
section
variable {X : Cx}
noncomputable def tDsNewD : TD := fun _ M Q => ∀ p, M p = none → Q (.ref p) (updM M p (dsM []))
noncomputable def tDsGetD (td ty : TD) : TD := fun δ M Q => td δ M fun x M1 => ty δ M1 fun y M2 => ∃ l kvs k d, x = .ref l ∧ y = spD k ∧ M2 l = some (dsM kvs) ∧ valD kvs k = some d ∧ Q d M2
noncomputable def tDsPutD (td ty tv : TD) : TSD := fun B δ M => tv δ M fun d M1 => td δ M1 fun x M2 => ty δ M2 fun y M3 => ∃ l kvs k, x = .ref l ∧ y = spD k ∧ M3 l = some (dsM kvs) ∧ kvs.length < 1000000 ∧ B.nx δ (updM M3 l (dsM (putD kvs k d)))
noncomputable def tDsSdD (to : TD) (t : TAD) : TD := fun δ M Q => to δ M fun x M1 => ∃ l kvs0, x = .ref l ∧ M1 l = some (dsM kvs0) ∧ t δ M1 fun ds M2 => ∃ kvs k d, ds = [spD k, d] ∧ M2 l = some (dsM kvs) ∧ kvs.length < 1000000 ∧ (∀ d', valD kvs k = some d' → Q d' M2) ∧ (valD kvs k = none → Q d (updM M2 l (dsM (putD kvs k d))))
end
end SD
set_option Elab.async false
set_option linter.all false
set_option maxRecDepth 100000
namespace SD
open PySem PySem.Spec PyProof.Rows L2
noncomputable def two (elt t1 i1 t2 i2 : Expr) (scope : Scope) (pos : Pos) : Expr := .ListComp elt [⟨t1, i1, [], 0⟩, ⟨t2, i2, [], 0⟩] scope pos
section
variable {prog : Program} {w : World} {A : Around} {R : Result → Shared → Prop} {s : Shared} {elt t1 i1 t2 i2 : Expr} {scope : Scope} {pos : Pos} {it acc : Value} {env : Env}
end
noncomputable def wTwo (js : List Nat) (wi2 : TI) (te : TE) (σ : L2.St) (J : It) (H1 : Hp) (Q : VK) : Prop := ∀ D, H1 D = none → ∃ W : Nat → Nat → Hp → Prop, (∃ m, W 0 m (upd H1 D (.lst []))) ∧ ∀ i m H, W i m H →
  (J.stop i H ∧ Q (.ref D) H) ∨ (J.go i H ∧ ∀ y H', J.yld i H y H' → ∀ o, wi2 (cσ [some y, o] js σ) H' fun J2 H2 => ∃ U : Nat → Nat → Hp → Prop, (∃ n, U 0 n H2) ∧ ∀ j n H3, U j n H3 →
    (J2.stop j H3 ∧ ∃ m', m' < m ∧ W (i + 1) m' H3) ∨ (J2.go j H3 ∧ ∀ z H4, J2.yld j H3 z H4 → te (cσ [some y, some z] js σ) H4 fun v H5 => ∃ xs, H5 D = some (.lst xs) ∧ xs.length < sizeLine ∧ ∃ n', n' < n ∧ U (j + 1) n' (upd H5 D (.lst (xs ++ [v])))))
noncomputable def tTwoL (js : List Nat) (wi wi2 : TI) (te : TE) : TE := fun σ H Q => wi σ H fun J H1 => wTwo js wi2 te σ J H1 Q
section
variable {X : Cx} {x y : Str} {px py pos : Pos} {js : List Nat} {scope : Scope} {elt i1 i2 : Expr} {te : TE} {wi wi2 : TI} {pins : List (Addr × Obj)} {σ : L2.St} {H : Hp} {s : Shared} {fp : List Addr} {it : Addr} {tn : Nat → Heap → Prop} {J : It}
end
noncomputable def kTwo (I : ItD) (js : List Nat) (wd2 : TID) (te : TD) (δ : DS) (M1 : MH) (Q : DK) : Prop := I.n ≤ 1000 ∧ ∀ p, M1 p = none → ∃ W : Nat → List D → MH → Prop, W 0 [] (updM M1 p (.lst [])) ∧ (∀ i ys M, i ≤ I.n → W i ys M → I.C M) ∧
  (∀ i ys d M, i < I.n → I.item i = some d → W i ys M → wd2 (cδ [some d, none] js δ) M fun I2 M2 => I2.n ≤ 1000 ∧ ∃ U : Nat → List D → MH → Prop, U 0 ys M2 ∧ (∀ j zs M, j ≤ I2.n → U j zs M → I2.C M) ∧
    (∀ j zs e M, j < I2.n → I2.item j = some e → U j zs M → te (cδ [some d, some e] js δ) M fun v M' => ∃ M3, Sub M3 M' ∧ M3 p = some (.lst zs) ∧ U (j + 1) (zs ++ [v]) (updM M3 p (.lst (zs ++ [v])))) ∧ ∀ zs M, U I2.n zs M → W (i + 1) zs M) ∧ ∀ ys M, W I.n ys M → Q (.ref p) M
noncomputable def tTwoD (wd : TID) (js : List Nat) (wd2 : TID) (te : TD) : TD := fun δ M Q => wd δ M fun I M1 => kTwo I js wd2 te δ M1 Q
section
variable {X : Cx} {x y : Str} {px py pos : Pos} {js : List Nat} {scope : Scope} {elt i1 i2 : Expr} {te : TD} {wd wd2 : TID}
end
end SD
set_option Elab.async false
set_option linter.all false
set_option maxRecDepth 100000
namespace SD
open PySem PySem.Spec PyProof.Rows L2
section
variable {prog : Program} {w : World} {A : Around} {E : Value → Shared → Prop} {s : Shared}
end
section
variable {X : Cx} {e st : Expr} {pos p2 : Pos}
noncomputable def tRev (K : PySem.W.Frag) (te : TE) (ts : TO) : TE := fun σ H Q => te σ H fun x H1 => ts σ H1 fun o H2 => o = some (-1) ∧ ∃ a u v, x = .ref a ∧ SqT K H2 a [u, v] ∧ ∀ p, H2 p = none → Q (.ref p) (upd H2 p (.tup [v, u]))
noncomputable def tRvD (te : TD) (ts : TOD) : TD := fun δ M Q => te δ M fun x M1 => ts δ M1 fun o M2 => o = some (-1) ∧ ∃ d e, x = .tup [d, e] ∧ Q (.tup [e, d]) M2
end
section
variable {X : Cx}
noncomputable def rSum : RC := fun ds M Q => match ds with
  | [.ref l] => ∃ ns : List Int, M l = some (.lst (ns.map D.int)) ∧ Q (.int ns.sum) M
  | _ => False
end
end SD
set_option Elab.async false
set_option linter.all false
set_option maxRecDepth 100000
namespace SD
open PySem PySem.Spec PyProof.Rows L2
noncomputable def sqV (k : Int) : Wl := (k, 0, k, 1)
noncomputable def sqH (k y : Int) : Wl := (k, y, k + 1, y)
noncomputable def sqL (m : Int) : Nat → List Wl
  | 0 => [sqV m]
  | i + 1 => sqL m i ++ [sqH (i : Int) 0, sqH (i : Int) 1, sqV (i : Int)]
theorem sqL_len (m : Int) : ∀ i : Nat, (sqL m i).length = 1 + 3 * i
  | 0 => rfl
  | i + 1 => by rw [sqL, List.length_append, sqL_len m i]; simp; omega
theorem sqL_mem {m : Int} {w : Wl} : ∀ {i : Nat}, w ∈ sqL m i → w = sqV m ∨ ∃ k : Nat, k < i ∧ (w = sqH (k : Int) 0 ∨ w = sqH (k : Int) 1 ∨ w = sqV (k : Int))
  | 0, h => .inl (List.mem_singleton.mp h)
  | i + 1, h => by
    rw [sqL, List.mem_append] at h
    rcases h with h | h
    · rcases sqL_mem h with h | ⟨k, hk, h⟩
      · exact .inl h
      · exact .inr ⟨k, by omega, h⟩
    · simp only [List.mem_cons, List.not_mem_nil, or_false] at h
      exact .inr ⟨i, by omega, h⟩
noncomputable def IsSq (w : Wl) : Prop := ∃ k : Int, 0 ≤ k ∧ k ≤ 13 ∧ (w = sqV k ∨ w = sqH k 0 ∨ w = sqH k 1)
theorem sqL_is {m : Nat} {w : Wl} (hm : m ≤ 13) (h : w ∈ sqL (m : Int) m) : IsSq w := by
  rcases sqL_mem h with h | ⟨k, hk, h | h | h⟩
  · exact ⟨m, by omega, by omega, .inl h⟩
  · exact ⟨k, by omega, by omega, .inr (.inl h)⟩
  · exact ⟨k, by omega, by omega, .inr (.inr h)⟩
  · exact ⟨k, by omega, by omega, .inl h⟩
theorem sq_un {w : Wl} (h : IsSq w) : Un5 w := by
  obtain ⟨k, h0, h1, rfl | rfl | rfl⟩ := h
  · exact ⟨by simp only [sqV]; omega, by simp only [sqV]; omega, by simp only [sqV]; omega, by simp only [sqV]; omega, by simp only [sqV, l1, l2, la]; omega⟩
  · exact ⟨by simp only [sqH]; omega, by simp only [sqH]; omega, by simp only [sqH]; omega, by simp only [sqH]; omega, by simp only [sqH, l1, l2, la]; omega⟩
  · exact ⟨by simp only [sqH]; omega, by simp only [sqH]; omega, by simp only [sqH]; omega, by simp only [sqH]; omega, by simp only [sqH, l1, l2, la]; omega⟩
theorem sd_V (k x y : Int) : sd (sqV k) x y = k - x := by unfold sd crs sqV; simp; omega
theorem sd_H (k c x y : Int) : sd (sqH k c) x y = y - c := by
  unfold sd crs sqH
  simp only
  rw [show k + 1 - k = 1 by omega, Int.sub_self, Int.one_mul, Int.zero_mul, Int.sub_zero]
theorem sgn_same (z : Int) : 0 ≤ Int.sign z * Int.sign z := by
  rcases Int.lt_trichotomy z 0 with h | h | h
  · rw [Int.sign_eq_neg_one_of_neg h]; decide
  · subst h; decide
  · rw [Int.sign_eq_one_of_pos h]; decide
theorem sgn_step (z : Int) : 0 ≤ Int.sign z * Int.sign (z - 1) := by
  rcases Int.lt_trichotomy z 0 with h | h | h
  · rw [Int.sign_eq_neg_one_of_neg h, Int.sign_eq_neg_one_of_neg (by omega)]; decide
  · subst h; decide
  · rcases Int.lt_trichotomy (z - 1) 0 with g | g | g
    · omega
    · rw [g]; simp
    · rw [Int.sign_eq_one_of_pos h, Int.sign_eq_one_of_pos g]; decide
theorem sq_fair {U V : Wl} (hU : IsSq U) (hV : IsSq V) (ne : U ≠ V) : Fair U V := by
  have VV : ∀ k j : Int, k ≠ j → Fair (sqV k) (sqV j) := fun k j e => by
    refine ⟨?_, ?_, ?_, ?_, ?_, .inl ?_⟩
    · simp only [l1, l2, la, sqV]; omega
    · simp only [EndOk, sd1, sd2, sd_V]; simp only [l1, l2, la, sqV]; omega
    · simp only [EndOk, sd1, sd2, sd_V]; simp only [l1, l2, la, sqV]; omega
    · simp only [EndOk, sd1, sd2, sd_V]; simp only [l1, l2, la, sqV]; omega
    · simp only [EndOk, sd1, sd2, sd_V]; simp only [l1, l2, la, sqV]; omega
    · simp only [sd1, sd2, sd_V]; exact sgn_same _
  have VH : ∀ k j y : Int, (y = 0 ∨ y = 1) → Fair (sqV k) (sqH j y) := fun k j y hy => by
    refine ⟨?_, ?_, ?_, ?_, ?_, .inl ?_⟩
    · simp only [l1, l2, la, sqV, sqH]; omega
    · simp only [EndOk, sd1, sd2, sd_V, sd_H]; simp only [l1, l2, la, sqV, sqH]; omega
    · simp only [EndOk, sd1, sd2, sd_V, sd_H]; simp only [l1, l2, la, sqV, sqH]; omega
    · simp only [EndOk, sd1, sd2, sd_V, sd_H]; simp only [l1, l2, la, sqV, sqH]; omega
    · simp only [EndOk, sd1, sd2, sd_V, sd_H]; simp only [l1, l2, la, sqV, sqH]; omega
    · simp only [sd1, sd2, sd_V]
      have := sgn_step (k - j)
      rw [show k - j - 1 = k - (j + 1) by omega] at this
      exact this
  have HH : ∀ k y j x : Int, (y = 0 ∨ y = 1) → (x = 0 ∨ x = 1) → ¬ (k = j ∧ y = x) → Fair (sqH k y) (sqH j x) := fun k y j x hy hx e => by
    refine ⟨?_, ?_, ?_, ?_, ?_, .inl ?_⟩
    · simp only [l1, l2, la, sqH]; omega
    · simp only [EndOk, sd1, sd2, sd_H]; simp only [l1, l2, la, sqH]; omega
    · simp only [EndOk, sd1, sd2, sd_H]; simp only [l1, l2, la, sqH]; omega
    · simp only [EndOk, sd1, sd2, sd_H]; simp only [l1, l2, la, sqH]; omega
    · simp only [EndOk, sd1, sd2, sd_H]; simp only [l1, l2, la, sqH]; omega
    · simp only [sd1, sd2, sd_H]; exact sgn_same _
  have z0 : (0 : Int) = 0 ∨ (0 : Int) = 1 := .inl rfl
  have z1 : (1 : Int) = 0 ∨ (1 : Int) = 1 := .inr rfl
  obtain ⟨k, h0, h1, rfl | rfl | rfl⟩ := hU <;> obtain ⟨j, g0, g1, rfl | rfl | rfl⟩ := hV
  · exact VV k j fun z => ne (by rw [z])
  · exact VH k j 0 z0
  · exact VH k j 1 z1
  · exact (VH j k 0 z0).swap
  · exact HH k 0 j 0 z0 z0 fun z => ne (by rw [z.1])
  · exact HH k 0 j 1 z0 z1 fun z => by omega
  · exact (VH j k 1 z1).swap
  · exact HH k 1 j 0 z1 z0 fun z => by omega
  · exact HH k 1 j 1 z1 z1 fun z => ne (by rw [z.1])
theorem sqL_nodup (m : Nat) : ∀ i : Nat, i ≤ m → (sqL (m : Int) i).Nodup
  | 0, _ => List.nodup_cons.mpr ⟨by simp, List.nodup_nil⟩
  | i + 1, h => by
    rw [sqL, List.nodup_append]
    refine ⟨sqL_nodup m i (by omega), by simp [sqH, sqV], fun a ha b hb e => ?_⟩
    subst e
    have hb' : a = sqH (i : Int) 0 ∨ a = sqH (i : Int) 1 ∨ a = sqV (i : Int) := by simpa using hb
    rcases sqL_mem ha with ha | ⟨k, hk, ha⟩
    · subst ha
      rcases hb' with z | z | z <;> simp only [sqV, sqH, Prod.mk.injEq] at z <;> omega
    · rcases ha with rfl | rfl | rfl <;> rcases hb' with z | z | z <;> simp only [sqV, sqH, Prod.mk.injEq] at z <;> omega
theorem sq_pf {m : Nat} {ws : List Wl} (hm : m ≤ 13) (h : ws.Perm (sqL (m : Int) m)) : PF ws ∧ (∀ w ∈ ws, Un5 w) ∧ ws.length ≤ 40 := by
  have is : ∀ w ∈ ws, IsSq w := fun w hw => sqL_is hm (h.mem_iff.mp hw)
  have nd : ws.Nodup := h.nodup_iff.mpr (sqL_nodup m m (Nat.le_refl _))
  refine ⟨fun i j U V hij hU hV => ?_, fun w hw => sq_un (is w hw), by rw [h.length_eq, sqL_len]; omega⟩
  refine sq_fair (is U (List.mem_of_getElem? hU)) (is V (List.mem_of_getElem? hV)) fun e => ?_
  subst e
  obtain ⟨h1, e1⟩ := List.getElem?_eq_some_iff.mp hU
  obtain ⟨h2, e2⟩ := List.getElem?_eq_some_iff.mp hV
  exact hij ((List.getElem_inj nd).mp (e1.trans e2.symm))
noncomputable def bB (ws : List Wl) (m p q : Int) (j : Nat) : Bool := spB ws m (la p q) j && decide (Int.sign (sd (uby m (wAt ws (j : Int))) p q) = 1)
noncomputable def bK (ws : List Wl) (m p q : Int) : List Int := ((List.range ws.length).filter (bB ws m p q)).map fun j : Nat => (j : Int)
end SD
set_option Elab.async false
set_option linter.all false
set_option maxRecDepth 100000
namespace SD
open PySem PySem.Spec PyProof.Rows L2
noncomputable abbrev Vc := Int × Int
noncomputable def vc (a b : Vc) : Int := crs a.1 a.2 b.1 b.2
noncomputable def vl (a : Vc) : Int := la a.1 a.2
theorem vc_neg (a b : Vc) : vc b a = -vc a b := by unfold vc crs; grind
noncomputable def Ray (a b : Vc) : Prop := vc a b = 0 → vl a * vl b < 0
theorem Ray.swap {a b : Vc} (h : Ray a b) : Ray b a := fun z => by
  have := h (by rw [vc_neg, z]; rfl)
  rw [Int.mul_comm]; exact this
noncomputable def snr (b x y : Vc) : Bool := if Int.sign (vc b x) = Int.sign (vc b y) then decide (vc x y < 0) else decide (Int.sign (vc b x) < Int.sign (vc b y))
end SD
set_option Elab.async false
set_option linter.all false
set_option maxRecDepth 100000
namespace SD
open PySem PySem.Spec PyProof.Rows L2
noncomputable def rev (w : Wl) : Wl := (w.2.2.1, w.2.2.2, w.1, w.2.1)
noncomputable def fw (ws : List Wl) (f : Nat) : Wl := if f % 2 = 0 then wAt ws ((f / 2 : Nat) : Int) else rev (wAt ws ((f / 2 : Nat) : Int))
noncomputable def fa (ws : List Wl) (f : Nat) : Vc := ((fw ws f).1, (fw ws f).2.1)
noncomputable def fb (ws : List Wl) (f : Nat) : Vc := ((fw ws f).2.2.1, (fw ws f).2.2.2)
noncomputable def fd (ws : List Wl) (f : Nat) : Vc := ((fw ws f).2.2.1 - (fw ws f).1, (fw ws f).2.2.2 - (fw ws f).2.1)
noncomputable def fx (f : Nat) : Nat := if f % 2 = 0 then f + 1 else f - 1
noncomputable def fstep (R : Nat → Nat → Bool) (o : Option Nat) (g : Nat) : Option Nat := match o with
  | none => some g
  | some h => if R g h = true then some g else some h
noncomputable def candB (ws : List Wl) (f g : Nat) : Bool := decide (fa ws g = fb ws f) && decide (g ≠ fx f)
noncomputable def cand (ws : List Wl) (f : Nat) : List Nat := (List.range (2 * ws.length)).filter (candB ws f)
noncomputable def snF (ws : List Wl) (f g h : Nat) : Bool := snr (fd ws (fx f)) (fd ws g) (fd ws h)
noncomputable def bh (ws : List Wl) (f : Nat) : Nat := ((cand ws f).foldl (fstep (snF ws f)) none).getD (fx f)
end SD
set_option Elab.async false
set_option linter.all false
set_option maxRecDepth 100000
namespace SD
open PySem PySem.Spec PyProof.Rows L2
noncomputable def itb (ws : List Wl) (f : Nat) : Nat → Nat
  | 0 => f
  | k + 1 => bh ws (itb ws f k)
noncomputable def rn (ws : List Wl) (f k : Nat) : List Nat := (List.range (k + 1)).map (itb ws f)
noncomputable def NR (ws : List Wl) (f k : Nat) : Prop := ∀ i j, i < j → j ≤ k → itb ws f i ≠ itb ws f j
section
variable {ws : List Wl} (hU : ∀ w ∈ ws, Un5 w) (hF : PF ws) {f : Nat} (hf : f < 2 * ws.length)
include hU hF hf
end
structure Rng (ws : List Wl) (r : List Nat) : Prop where
  ex : ∃ f k, f < 2 * ws.length ∧ k + 1 ≤ 2 * ws.length ∧ r = rn ws f k ∧ bh ws (itb ws f k) = f
noncomputable def twT (ws : List Wl) (g : Nat) : Int := (fa ws g).1 * (fb ws g).2 - (fb ws g).1 * (fa ws g).2
noncomputable def arT (t b X Y : Int) (ws : List Wl) (g : Nat) : Rat := Ma.ut t b X 1 (fa ws g).1 * Ma.ut t b Y 1 (fb ws g).2 - Ma.ut t b X 1 (fb ws g).1 * Ma.ut t b Y 1 (fa ws g).2
end SD
set_option Elab.async false
set_option linter.all false
set_option maxRecDepth 100000
namespace SD
open PySem PySem.Spec PyProof.Rows L2
section
variable {X : Cx}
noncomputable def rXorD : R2D := rI2 (fun _ _ => True) fun i j => .int (Builtin.bitXor i j)
variable {o : Expr} {to : TD} {apos cpos : Pos}
noncomputable def tClrD (to : TD) : TD := fun δ M Q => to δ M fun x M1 => ∃ l ys, x = .ref l ∧ M1 l = some (.lst ys) ∧ Q .non (updM M1 l (.lst []))
end
end SD
set_option Elab.async false
set_option linter.all false
set_option maxRecDepth 100000
namespace SD
open PySem PySem.Spec PyProof.Rows L2
noncomputable def diA (n : Nat) (S : Int → Bool) : PySem.W.Frag → Hp → Addr → Prop := fun K H a => ∃ kvs : List (Key × V), H a = some (.dK kvs) ∧ kvs.length ≤ n ∧ ∀ i : Int, (kvs.any fun kv => decide (kv.1 = Sum.inl i)) = S i
noncomputable def diM (n : Nat) (S : Int → Bool) : MO := .gen (diA n S)
section
variable {K : PySem.W.Frag} {H H' : Hp} {M : MH} {a : Addr}
theorem Abs.di {n : Nat} {S : Int → Bool} (h : Abs K H M) (e : M a = some (diM n S)) : diA n S K H a := (h a _ e).1
theorem Grow.dK {kvs : List (Key × V)} {o : HO} (h : H a = some (.dK kvs)) : Grow K H (upd H a o) := .put (fun xs e => by rw [h] at e; cases e) (fun u xs e => by rw [h] at e; cases e)
end
section
variable {X : Cx} {pos : Pos}
noncomputable def tDiNew : TD := fun _ M Q => ∀ p, M p = none → Q (.ref p) (updM M p (diM 0 fun _ => false))
noncomputable def tDiIn (g : Bool → Bool) (ty td : TD) : TD := fun δ M Q => ty δ M fun y M1 => td δ M1 fun x M2 => ∃ i l n S, y = .int i ∧ x = .ref l ∧ M2 l = some (diM n S) ∧ Q (.bl (g (S i))) M2
variable {e1 e2 : Expr} {ty td : TD}
noncomputable def tDiPut (td ty tv : TD) : TSD := fun B δ M => tv δ M fun d M1 => td δ M1 fun x M2 => ty δ M2 fun y M3 => ∃ l i n S, x = .ref l ∧ y = .int i ∧ M3 l = some (diM n S) ∧ n < 1000000 ∧ B.nx δ (updM M3 l (diM (n + 1) fun j => decide (j = i) || S j))
end
end SD
set_option Elab.async false
set_option linter.all false
set_option maxRecDepth 100000
namespace SD
open PySem PySem.Spec PyProof.Rows L2
noncomputable def rIsInstL (K : PySem.W.Frag) : RC := fun ds M Q => rIsInst K ds M Q ∨ ∃ a xs n b, ds = [.ref a, .ty n] ∧ M a = some (.lst xs) ∧ PySem.W.kitOne K (.type "list") (.type n) = some b ∧ Q (.bl b) M
section
variable {X : Cx}
end
end SD
set_option Elab.async false
set_option linter.all false
set_option maxRecDepth 100000
namespace SD
open PySem PySem.Spec PyProof.Rows L2
noncomputable def RgOf (ws : List Wl) (f : Nat) (r : List Nat) : Prop := ∃ kk, NR ws f kk ∧ bh ws (itb ws f kk) = f ∧ r = rn ws f kk
noncomputable def Rgs (ws : List Wl) : Nat → List (List Nat) → Prop
  | 0, rs => rs = []
  | i + 1, rs => ∃ qs, Rgs ws i qs ∧ ((i ∈ qs.flatten ∧ rs = qs) ∨ (i ∉ qs.flatten ∧ ∃ r, RgOf ws i r ∧ rs = qs ++ [r]))
noncomputable def RL (M : MH) (ps : List Addr) (rs : List (List Nat)) : Prop := Paired (fun (p : Addr) (r : List Nat) => M p = some (.lst (r.map fun g : Nat => D.int (g : Int)))) ps rs
theorem RL.len {M : MH} {ps : List Addr} {rs : List (List Nat)} (h : RL M ps rs) : ps.length = rs.length := by
  unfold RL at h
  induction h with
  | nil => rfl
  | cons _ _ ih => rw [List.length_cons, List.length_cons, ih]
theorem RL.mono {M M' : MH} {ps : List Addr} {rs : List (List Nat)} (h : RL M ps rs) (s : ∀ p ∈ ps, ∀ o, M p = some o → M' p = some o) : RL M' ps rs := by
  unfold RL at *
  induction h with
  | nil => exact .nil
  | cons a _ ih => exact .cons (s _ (by simp) _ a) (ih fun p hp o e => s p (by simp [hp]) o e)
theorem RL.snoc {M : MH} {ps : List Addr} {rs : List (List Nat)} {p : Addr} {r : List Nat} (h : RL M ps rs) (e : M p = some (.lst (r.map fun g : Nat => D.int (g : Int)))) : RL M (ps ++ [p]) (rs ++ [r]) := Paired.snoc h e
noncomputable def rgP (rs : List (List Nat)) : List PyData := rs.map fun r => .list (r.map fun g : Nat => PyData.int (g : Int))
end SD
set_option Elab.async false
set_option linter.all false
set_option maxRecDepth 100000
namespace SD
open PySem PyProof.Rows
section
variable {α β : Type} {n : Nat} {k : Nat → Int}
noncomputable def kwp (n : Nat) (k : Nat → Int) {α : Type} : PySem.W.KasT α → (α → Prop) → Prop
  | .ret a, Q => Q a
  | .ask i j f, Q => i < n ∧ j < n ∧ kwp n k (f (decide (k i < k j))) Q
structure Pmu (n : Nat) (p : Array Nat) : Prop where
  perm : p.Perm (List.range n).toArray
theorem Pmu.size {p : Array Nat} (h : Pmu n p) : p.size = n := by have := h.perm.size_eq; simpa using this
theorem Pmu.lt {p : Array Nat} (h : Pmu n p) {i : Nat} (hi : i < n) : p.getD i 0 < n := by
  have hi' : i < p.size := by rw [h.size]; exact hi
  have : p[i] ∈ (List.range n).toArray := h.perm.mem_iff.mp (Array.getElem_mem hi')
  simpa [Array.getD, hi'] using this
theorem Pmu.inj {p : Array Nat} (h : Pmu n p) {i j : Nat} (hi : i < n) (hj : j < n) (e : p.getD i 0 = p.getD j 0) : i = j := by
  have hi' : i < p.size := by rw [h.size]; exact hi
  have hj' : j < p.size := by rw [h.size]; exact hj
  have nd : p.toList.Nodup := (Array.perm_iff_toList_perm.mp h.perm).nodup_iff.mpr (by simpa using List.nodup_range)
  have e' : p.toList[i] = p.toList[j] := by simpa [Array.getD, hi', hj'] using e
  have pw := List.pairwise_iff_getElem.mp nd
  rcases Nat.lt_trichotomy i j with h | h | h
  · exact absurd e' (pw i j _ _ h)
  · exact h
  · exact absurd e'.symm (pw j i _ _ h)
noncomputable def ky (k : Nat → Int) (p : Array Nat) (i : Nat) : Int := k (p.getD i 0)
noncomputable def Inj (n : Nat) (k : Nat → Int) : Prop := ∀ i j, i < n → j < n → k i = k j → i = j
noncomputable def Up (k : Nat → Int) (p : Array Nat) (m : Nat) : Prop := ∀ i j, i < j → j < m → ky k p i < ky k p j
noncomputable def Dn (k : Nat → Int) (p : Array Nat) (m : Nat) : Prop := ∀ i j, i < j → j < m → ky k p j < ky k p i
end
end SD
set_option Elab.async false
set_option linter.all false
set_option maxRecDepth 100000
namespace SD
open PySem PySem.Spec PyProof.Rows L2
section
variable {prog : Program} {w : World} {A : Around} {E : Value → Shared → Prop} {s : Shared}
noncomputable abbrev srtE (h : Heap) (a : Addr) (vs : List Value) : Heap := ((h.update a (Obj.mapSeq fun _ => #[])).push (seqObj "tuple" vs.toArray 0)).push (seqObj "list" #[] 0)
noncomputable def srtOut (vs : List Value) (p : Array Nat) : Array Value := List.toArray (p.toList.map fun i => vs.getD i Value.none)
end
end SD
set_option Elab.async false
set_option linter.all false
set_option maxRecDepth 100000
namespace SD
open PySem PySem.Spec PyProof.Rows L2
section
variable {X : Cx}
noncomputable def p0 (us : List (Int × Int)) (i : Nat) : Int × Int := us.getD i (0, 0)
noncomputable def pky (us : List (Int × Int)) (i : Nat) : Int := 100 * (p0 us i).1 + (p0 us i).2
noncomputable def Pb (us : List (Int × Int)) : Prop := us.length < 64 ∧ us.Nodup ∧ ∀ u ∈ us, 0 ≤ u.2 ∧ u.2 < 100
theorem p0_mem {us : List (Int × Int)} {i : Nat} (h : i < us.length) : p0 us i ∈ us := by
  unfold p0; rw [List.getD_eq_getElem?_getD, List.getElem?_eq_getElem h]; exact List.getElem_mem h
theorem Pb.inj {us : List (Int × Int)} (h : Pb us) : Inj us.length (pky us) := fun i j hi hj e => by
  have b1 := h.2.2 _ (p0_mem hi)
  have b2 := h.2.2 _ (p0_mem hj)
  unfold pky at e
  have e1 : p0 us i = p0 us j := Prod.ext (by omega) (by omega)
  unfold p0 at e1
  rw [List.getD_eq_getElem?_getD, List.getD_eq_getElem?_getD, List.getElem?_eq_getElem hi, List.getElem?_eq_getElem hj] at e1
  have pw := List.pairwise_iff_getElem.mp h.2.1
  rcases Nat.lt_trichotomy i j with q | q | q
  · exact absurd e1 (pw i j _ _ q)
  · exact q
  · exact absurd e1.symm (pw j i _ _ q)
variable {prog : Program} {w : World} {A : Around} {E : Value → Shared → Prop} {s : Shared}
end
section
variable {X : Cx}
noncomputable def Prs (K : PySem.W.Frag) (H : Hp) : List V → List (Int × Int) → Prop
  | [], [] => True
  | x :: xs, u :: us => (∃ a, x = .ref a ∧ SqT K H a [.int u.1, .int u.2]) ∧ Prs K H xs us
  | _, _ => False
theorem Prs.len {K : PySem.W.Frag} {H : Hp} : ∀ {xs : List V} {us : List (Int × Int)}, Prs K H xs us → xs.length = us.length
  | [], [], _ => rfl
  | _ :: _, _ :: _, h => by rw [List.length_cons, List.length_cons, Prs.len h.2]
  | [], _ :: _, h => h.elim
  | _ :: _, [], h => h.elim
noncomputable def TupI (h : Heap) (v : Value) (u : Int × Int) : Prop := ∃ a t1 t2, v = .ref a ∧ IsTup h a #[.int u.1 t1, .int u.2 t2]
theorem TupI.kept {h h' : Heap} {v : Value} {u : Int × Int} (q : TupI h v u) (k : ∀ b o, h.get? b = some o → h'.get? b = some o) : TupI h' v u := by
  obtain ⟨a, t1, t2, e, o, ho, r⟩ := q
  exact ⟨a, t1, t2, e, o, k _ _ ho, r⟩
noncomputable def prD (u : Int × Int) : D := .tup [.int u.1, .int u.2]
noncomputable def plt (u v : Int × Int) : Prop := 100 * u.1 + u.2 < 100 * v.1 + v.2
noncomputable def rSortP : RC := fun ds M Q => match ds with
  | [.ref l] => ∃ us : List (Int × Int), M l = some (.lst (us.map prD)) ∧ Pb us ∧ ∀ (z : Addr) (us' : List (Int × Int)), M z = none → us'.Perm us → us'.Pairwise plt → Q (.ref z) (updM M z (.lst (us'.map prD)))
  | _ => False
end
end SD
set_option Elab.async false
set_option linter.all false
set_option maxRecDepth 100000
namespace SD
open PySem PySem.Spec PyProof.Rows L2
noncomputable def RawD (h : Heap) (d : Addr) (es : Array DictEntry) (ep : Nat) : Prop := ∃ o, h.get? d = some o ∧ o.ExactDict ∧ o.data = .dict es ep
section
variable {prog : Program} {w : World} {A : Around} {E : Value → Shared → Prop} {s : Shared} {d it : Addr} {es : Array DictEntry} {ep i : Nat}
theorem RawD.ty (h : RawD s.heap d es ep) : s.TypeIs (.ref d) "dict" := let ⟨o, a, b, _⟩ := h; ⟨o, a, b.1⟩
theorem RawD.kept {h h' : Heap} (q : RawD h d es ep) (k : ∀ o, h.get? d = some o → h'.get? d = some o) : RawD h' d es ep := let ⟨o, a, b⟩ := q; ⟨o, k o a, b⟩
theorem RawD.lt {h : Heap} (q : RawD h d es ep) : d < h.objs.size := let ⟨_, a, _⟩ := q; Heap.lt_size a
end
section
variable {X : Cx}
noncomputable def rListX : RC := fun ds M Q => rList ds M Q ∨ ∃ l kvs, ds = [.ref l] ∧ M l = some (dsM kvs) ∧ ∀ p, M p = none → Q (.ref p) (updM M p (.lst (kvs.map fun x => spD x.1)))
end
end SD
set_option Elab.async false
set_option linter.all false
set_option maxRecDepth 100000
namespace SD
open PySem PySem.Spec PyProof.Rows L2
noncomputable def gsp (t b X Y : Int) (u : Vc) : D := Ma.spt (Ma.ut t b X 1 u.1) (Ma.ut t b Y 1 u.2)
noncomputable def gk (t b X Y : Int) (u : Vc) : SpK := ((Ma.ut t b X 1 u.1).num, ((Ma.ut t b X 1 u.1).den : Int), (Ma.ut t b Y 1 u.2).num, ((Ma.ut t b Y 1 u.2).den : Int))
theorem gk_inj {t b X Y : Int} (ht : 0 < t) (hb : 0 < b) {p q : Vc} (h : gk t b X Y p = gk t b X Y q) : p = q := by
  unfold gk at h
  injection h with h1 h
  injection h with h2 h
  injection h with h3 h4
  have e1 : Ma.ut t b X 1 p.1 = Ma.ut t b X 1 q.1 := Rat.ext h1 (by exact_mod_cast h2)
  have e2 : Ma.ut t b Y 1 p.2 = Ma.ut t b Y 1 q.2 := Rat.ext h3 (by exact_mod_cast h4)
  have f1 := (Ma.ut_eq ht hb (by decide) (by decide)).mp e1
  have f2 := (Ma.ut_eq ht hb (by decide) (by decide)).mp e2
  exact Prod.ext (by omega) (by omega)
noncomputable def B20 (u : Vc) : Prop := (0 ≤ u.1 ∧ u.1 ≤ 20) ∧ (0 ≤ u.2 ∧ u.2 ≤ 20)
noncomputable def ea (w : Wl) : Vc := (w.1, w.2.1)
noncomputable def eb (w : Wl) : Vc := (w.2.2.1, w.2.2.2)
theorem Un5.ea {w : Wl} (h : Un5 w) : B20 (ea w) := ⟨h.a, h.b⟩
theorem Un5.eb {w : Wl} (h : Un5 w) : B20 (eb w) := ⟨h.c, h.d⟩
noncomputable def addU (us : List Vc) (u : Vc) : List Vc := if u ∈ us then us else us ++ [u]
noncomputable def cnr (ws : List Wl) : Nat → List Vc
  | 0 => []
  | i + 1 => match ws[i]? with
    | some w => addU (addU (cnr ws i) (ea w)) (eb w)
    | none => cnr ws i
noncomputable def cdT (t b X Y : Int) (us : List Vc) : SpT := us.map fun u => (gk t b X Y u, D.bl true)
theorem B20.bx {t b X Y : Int} (S : Scl t b X Y) {u : Vc} (h : B20 u) : Ma.Bq 200 (Ma.ut t b X 1 u.1) := S.bx (by decide) (by have := h.1; omega)
theorem B20.by' {t b X Y : Int} (S : Scl t b X Y) {u : Vc} (h : B20 u) : Ma.Bq 200 (Ma.ut t b Y 1 u.2) := S.by' (by decide) (by have := h.2; omega)
end SD
set_option Elab.async false
set_option linter.all false
set_option maxRecDepth 100000
namespace SD
open PySem PySem.Spec PyProof.Rows L2
noncomputable def prP (u : Vc) : PyData := .tuple [.int u.1, .int u.2]
noncomputable def gP (t b X Y : Int) (u : Vc) : PyData := spPd (gk t b X Y u)
theorem shaped_rw (t b x y : Int) (ws : List Wl) : SeqAt.shaped (.tuple (ws.map (rwP t b x y))) = true := by
  unfold SeqAt.shaped
  have h1 := lay_rw t b x y ws
  have h2 := dep_rw t b x y ws
  rw [Bool.and_eq_true]
  refine ⟨by rw [PyData.canLay0]; exact h1, decide_eq_true ?_⟩
  rw [PyData.depth]
  omega
theorem eqv_rws (t b x y : Int) (ws : List Wl) : PyData.eqv (.tuple (ws.map (rwP t b x y))) (.tuple (ws.map (rwP t b x y))) = true := by
  rw [PyData.eqv]; exact eqvAll_rw t b x y ws
end SD
set_option Elab.async false
set_option linter.all false
set_option maxRecDepth 100000
namespace SD
open PySem PySem.Spec PyProof.Rows L2
section
variable {X : Cx} {pins : List (Addr × Obj)} {σ : L2.St} {H : Hp} {s : Shared}
theorem turned_many {h' : Heap} {t' : Nat} {ch : List Addr} (I : Inv X pins σ H s) (k : ∀ b o, b ∉ ch → s.heap.get? b = some o → h'.get? b = some o) (f : ∀ b ∈ ch, FpOk X pins H b) : Inv X pins σ H { s with heap := h', toks := t' } := by
  have ne : ∀ b u, H b = some u → b ∉ ch := fun b u q hb => by rw [(f b hb).1] at q; cases q
  refine I.step (g' := s.gens) (d' := s.drawn) (ch := ch) (fun b hb => ?_) (fun b o _ _ hc q _ => k b o hc q) (fun b o _ _ hc q _ => ⟨o.slots, k b o hc q⟩) (fun _ _ _ _ n => n)
    (fun b o hc q => ⟨o, k b o hc q⟩) (fun _ _ q => q) (fun _ _ _ q => q) (fun b ps q => ⟨#[], by rw [q]; simp⟩) (fun m hm => ?_) (fun b u q => ?_) I.bare
  · obtain ⟨e0, e1, _, e3, e4, e5⟩ := f b hb
    exact ⟨e3, e1, e4, e5⟩
  · obtain ⟨o, es, ep, ho, r⟩ := hm
    exact ⟨o, es, ep, k _ o (fun hb => (f _ hb).2.1 rfl) ho, r⟩
  · refine (I.hok b u q).stay (fun c v hc z => ?_) (fun _ z => z) fun _ _ z => z
    rcases hc with y | y
    · subst y; exact k _ v (ne _ u q) z
    · exact k c v (ne c _ y) z
end
noncomputable def Itz (K : PySem.W.Frag) (a b : Addr) : It :=
  ⟨fun i H => ∃ xs ys x y, SqL K H a xs ∧ SqL K H b ys ∧ xs[i]? = some x ∧ ys[i]? = some y, fun i H x H' => ∃ T y z, x = .ref T ∧ H T = none ∧ H' = upd H T (.tup [y, z]) ∧ (∀ xs, SqL K H a xs → xs[i]? = some y) ∧ ∀ ys, SqL K H b ys → ys[i]? = some z, fun i H => ∃ xs ys, SqL K H a xs ∧ SqL K H b ys ∧ (xs.length ≤ i ∨ ys.length ≤ i)⟩
theorem turn_zip {P : Program} {w : World} {K : PySem.W.Frag} {elts : List Expr} {kt} {pt : Pos} (a b z TI TO i1 i2 : Addr) (D : ZipApart z TI TO i1 i2 a b) : Turn P w K (.Tuple elts kt pt) (Itz K a b) [z, TI, TO, i1, i2] z (fun i h => IsZip h z TI TO .none ∧ IsPair h TI (.ref i1) (.ref i2) ∧ (∃ p q, IsPair h TO p q) ∧ h.IsListIter i1 a i ∧ h.IsListIter i2 b i) where
  mem := by simp
  obj := fun i h st c hc => by
    obtain ⟨h1, h2, ⟨p, q, h3⟩, h4, h5⟩ := st
    rcases (show c = z ∨ c = TI ∨ c = TO ∨ c = i1 ∨ c = i2 by simpa using hc) with rfl | rfl | rfl | rfl | rfl
    · exact ⟨_, h1, fun v y => by cases (show Data.fields _ = Data.cell v from y)⟩
    · exact ⟨_, h2, fun v y => by cases (show Data.seq _ _ = Data.cell v from y)⟩
    · exact ⟨_, h3, fun v y => by cases (show Data.seq _ _ = Data.cell v from y)⟩
    · obtain ⟨o, q1, _, d⟩ := h4
      exact ⟨o, q1, fun v y => by rw [d] at y; cases y⟩
    · obtain ⟨o, q1, _, d⟩ := h5
      exact ⟨o, q1, fun v y => by rw [d] at y; cases y⟩
  keep := fun i h h' st k => by
    obtain ⟨h1, h2, ⟨p, q, h3⟩, h4, h5⟩ := st
    exact ⟨k z (by simp) _ h1, k TI (by simp) _ h2, ⟨p, q, k TO (by simp) _ h3⟩, h4.at fun o y => k i1 (by simp) o y, h5.at fun o y => k i2 (by simp) o y⟩
  item := by
    intro X hP hw hK hc i pins s σ H E I hf st hg
    subst hP hw hK
    obtain ⟨xs, ys, x, y, hq1, hq2, hx, hy⟩ := hg
    obtain ⟨h1, h2, ⟨p, q, h3⟩, h4, h5⟩ := st
    obtain ⟨its1, rv1, p1, hz1⟩ := I.list hq1
    obtain ⟨its2, rv2, p2, hz2⟩ := I.list hq2
    obtain ⟨u1, hu1, ru1⟩ := rv1.get hx
    obtain ⟨u2, hu2, ru2⟩ := rv2.get hy
    refine wpAny_pyNext_zip_item D h1 h2 h3 h4 h5 p1.isList p2.isList (x := u1) (y := u2) (by simpa using hu1) (by simpa using hu2) fun h' a1 a2 a3 a4 a5 a6 a7 => ⟨_, rfl, wpAny_letOwnedTupleGo_zip (s := { s with heap := h' }) a1 fun h'' b1 b2 => ?_⟩
    have b2 : Heap.SameBut z h' h'' := b2
    have fr := I.fresh
    have lt : ∀ c ∈ [z, TI, TO, i1, i2], c < s.heap.objs.size := fun c hc => by
      rcases (show c = z ∨ c = TI ∨ c = TO ∨ c = i1 ∨ c = i2 by simpa using hc) with rfl | rfl | rfl | rfl | rfl
      · exact Heap.lt_size h1
      · exact Heap.lt_size h2
      · exact Heap.lt_size h3
      · obtain ⟨o, q1, _⟩ := h4; exact Heap.lt_size q1
      · obtain ⟨o, q1, _⟩ := h5; exact Heap.lt_size q1
    have I1 : Inv X pins σ (upd H s.heap.objs.size (.tup [x, y])) { s with heap := s.heap.push { cls := .type "tuple", data := .seq #[u1, u2] }, toks := s.toks } :=
      I.laid (fun b v q => Heap.get?_push_of_some _ q) (Nat.le_refl _) ⟨Nat.le_of_ble_eq_true rfl, [u1, u2], .cons ru1 (.cons ru2 .nil), ⟨_, Heap.get?_push_size _ rfl, rfl, _, rfl⟩, ⟨_, Heap.get?_push_size _ rfl, rfl⟩⟩
    have fk : ∀ c ∈ [z, TI, TO, i1, i2], FpOk X pins (upd H s.heap.objs.size (.tup [x, y])) c := fun c hc => ⟨by rw [upd_ne (Nat.ne_of_lt (lt c hc))]; exact (hf c hc).1, (hf c hc).2⟩
    have I2 : Inv X pins σ (upd H s.heap.objs.size (.tup [x, y])) { s with heap := h'', toks := s.toks } := by
      refine turned_many (ch := [z, TO, i1, i2]) (s := { s with heap := s.heap.push { cls := .type "tuple", data := .seq #[u1, u2] }, toks := s.toks }) I1 (fun c o nc q => ?_) fun c hc => fk c (by simp at hc ⊢; rcases hc with rfl | rfl | rfl | rfl <;> simp)
      have q : (s.heap.push { cls := .type "tuple", data := .seq #[u1, u2] }).get? c = some o := q
      simp at nc
      refine (b2.2 c nc.1).trans ?_
      rcases Heap.get?_push_cases q with ⟨rfl, rfl⟩ | q
      · exact a5
      · exact a7 c o nc.1 nc.2.1 nc.2.2.1 nc.2.2.2 q
    have kz : ∀ c o, c ≠ z → h'.get? c = some o → h''.get? c = some o := fun c o n e => (b2.2 c n).trans e
    refine ⟨.ref s.heap.objs.size, _, I2, rfl, ⟨_, x, y, rfl, fr, rfl, fun zs hzs => by rw [I.list_inj hzs hq1]; exact hx, fun zs hzs => by rw [I.list_inj hzs hq2]; exact hy⟩, ⟨b1, kz _ _ D.TIz (a7 _ _ D.TIz D.TITO D.TIi1 D.TIi2 h2), ⟨_, _, kz _ _ D.TOz a2⟩, a3.at fun o e => kz _ o D.i1z e, a4.at fun o e => kz _ o D.i2z e⟩, fun c hc => (fk c hc).1⟩
  done := by
    intro X hP hw hK hc i pins s σ H E I hf st hg
    subst hP hw hK
    obtain ⟨xs, ys, hq1, hq2, he⟩ := hg
    obtain ⟨h1, h2, ⟨p, q, h3⟩, h4, h5⟩ := st
    obtain ⟨its1, rv1, p1, hz1⟩ := I.list hq1
    obtain ⟨its2, rv2, p2, hz2⟩ := I.list hq2
    have l1 := rv1.length
    have l2 := rv2.length
    refine wpAny_pyNext_zip_end (I.ok.hd hc) D h1 h2 h3 h4 h5 p1.isList p2.isList (he.imp (fun e => by simp; omega) fun e => by simp; omega) fun h' k => ⟨rfl, ?_⟩
    exact turned_many (t' := s.toks) (ch := [z, TO, i1, i2]) I (fun c o nc q => by simp at nc; exact k c o nc.1 nc.2.1 nc.2.2.1 nc.2.2.2 q) fun c hc => hf c (by simp at hc ⊢; rcases hc with rfl | rfl | rfl | rfl <;> simp)
  self := fun _ _ _ _ _ st h => wpAny_pyIter_zip st.1 h
theorem zapart {n l1 l2 : Nat} (a1 : l1 < n) (a2 : l2 < n) : ZipApart (n + 4) (n + 2) (n + 3) n (n + 1) l1 l2 := by
  constructor <;> exact fun e => absurd (id e : @Eq Nat _ _) (by omega)
theorem bt_zip : bootBuiltins "zip" = some (.type "zip") := by decide +kernel
section
variable {X : Cx} {elts : List Expr} {kt : Nat} {pt : Pos}
noncomputable def iZip (K : PySem.W.Frag) (ta : TA) : TI := fun σ H R => ta σ H fun vs H1 => ∃ a b xs ys, vs = [.ref a, .ref b] ∧ H1 a = some (.lst xs) ∧ H1 b = some (.lst ys) ∧ R (Itz K a b) H1
theorem pi_zip {a b : Expr} {ta : TA} {p pos : Pos} (hg : Gl X "zip") (hm : X.mg "zip" = none) (ha : PA X [a, b] ta) (hs : starEach [a, b] X.env = (false, eval a X.env) :: starEach [b] X.env := by rfl) (hpl : (backTo pos (starEach [b] X.env)).any (·.1) = false := by rfl) : PI X (.Tuple elts kt pt) (.Call (.Name "zip" p) [a, b] [] pos) (iZip X.K ta) := by
  intro pins s σ H R I h
  refine Call_ (ld_blt I hg hm bt_zip (PyProof.Rows.callWith_type1 (thn (ha pos pins s σ H _ I h) fun us s1 ⟨vs, H1, I1, r1, q1⟩ => ?_) hs hpl))
  obtain ⟨l1, l2, xs, ys, ev, hH1, hH2, q⟩ := q1
  subst ev
  obtain ⟨u1, u2, rfl, ru1, ru2⟩ := vals2 r1
  cases ru1
  cases ru2
  obtain ⟨z1, its1, n1, rr1, hl1, e1⟩ := I1.lstM hH1
  obtain ⟨z2, its2, n2, rr2, hl2, e2⟩ := I1.lstM hH2
  have L1 : s1.heap.IsList l1 its1.toArray := ⟨_, e1, rfl, n1, rfl⟩
  have L2 : s1.heap.IsList l2 its2.toArray := ⟨_, e2, rfl, n2, rfl⟩
  have lt1 := Heap.lt_size e1
  have lt2 := Heap.lt_size e2
  refine call_zip_2 L1 L2 fun h' hz hTI hTO hi1 hi2 hsz hk => wpAny_pyIter_zip hz ?_
  have fp : ∀ b ∈ [s1.heap.objs.size + 4, s1.heap.objs.size + 2, s1.heap.objs.size + 3, s1.heap.objs.size, s1.heap.objs.size + 1], FpOk X pins H1 b := fun b hb => by
    have hb' : s1.heap.objs.size ≤ b := by
      simp at hb
      rcases hb with rfl | rfl | rfl | rfl | rfl <;> first | exact Nat.le_add_right _ _ | exact Nat.le_refl _
    exact I1.fpOk hb' (I1.hok.fresh hb')
  have D : ZipApart (s1.heap.objs.size + 4) (s1.heap.objs.size + 2) (s1.heap.objs.size + 3) s1.heap.objs.size (s1.heap.objs.size + 1) l1 l2 := by
    exact zapart lt1 lt2
  exact ⟨_, _, _, _, H1, rfl, I1.kept (t' := s1.toks) hk, turn_zip l1 l2 _ _ _ _ _ D, ⟨hz, hTI, ⟨_, _, hTO⟩, hi1, hi2⟩, fp, q⟩
noncomputable def dZip (ta : TAD) : TID := fun δ M R => ta δ M fun ds M1 => ∃ a b es fs, ds = [.ref a, .ref b] ∧ M1 a = some (.lst es) ∧ M1 b = some (.lst fs) ∧ R ⟨min es.length fs.length, fun i => (es[i]?).bind fun d => (fs[i]?).map fun e => .tup [d, e], fun M => M a = some (.lst es) ∧ M b = some (.lst fs)⟩ M1
theorem di_zip {a b : Expr} {ta : TAD} {p pos : Pos} (hg : Gl X "zip") (hm : X.mg "zip" = none) (ha : DA X [a, b] ta) (hs : starEach [a, b] X.env = (false, eval a X.env) :: starEach [b] X.env := by rfl) (hpl : (backTo pos (starEach [b] X.env)).any (·.1) = false := by rfl) : DI X (.Tuple elts kt pt) (.Call (.Name "zip" p) [a, b] [] pos) (dZip ta) :=
  pi_imp (pi_zip hg hm ha hs hpl) fun σ H R ⟨δ, M, RD, hs, hM, q, fin⟩ => ⟨δ, M, _, hs, hM, q, fun ds M1 vs H1 g1 r1 a1 ⟨l1, l2, es, fs, e, hl1, hl2, q1⟩ => by
    subst e
    obtain ⟨v1, v2, rfl, r, r'⟩ := reps2 r1
    rw [Rep] at r r'; subst r r'
    obtain ⟨xs, hx, rs⟩ := a1 _ _ hl1
    obtain ⟨ys, hy, rt⟩ := a1 _ _ hl2
    refine ⟨l1, l2, xs, ys, rfl, hx, hy, fin _ M1 H1 _ g1 a1 q1 ⟨fun H2 M2 g2 a2 c2 => ?_, fun i H2 M2 hi g2 a2 c2 => ?_, ?_⟩⟩
    · obtain ⟨c3, c4⟩ := (show M2 l1 = some (.lst es) ∧ M2 l2 = some (.lst fs) from c2)
      obtain ⟨xs2, hx2, rx2⟩ := a2 _ _ c3
      obtain ⟨ys2, hy2, ry2⟩ := a2 _ _ c4
      refine ⟨xs2, ys2, SqL.of hx2, SqL.of hy2, ?_⟩
      show xs2.length ≤ min es.length fs.length ∨ ys2.length ≤ min es.length fs.length
      rw [← rx2.length, ← ry2.length]; omega
    · obtain ⟨c3, c4⟩ := (show M2 l1 = some (.lst es) ∧ M2 l2 = some (.lst fs) from c2)
      obtain ⟨xs2, hx2, rx2⟩ := a2 _ _ c3
      obtain ⟨ys2, hy2, ry2⟩ := a2 _ _ c4
      have hi : i < min es.length fs.length := hi
      have h1 : i < xs2.length := by rw [← rx2.length]; omega
      have h2 : i < ys2.length := by rw [← ry2.length]; omega
      exact ⟨xs2, ys2, xs2[i], ys2[i], SqL.of hx2, SqL.of hy2, by simp [h1], by simp [h2]⟩
    · rintro i H2 M2 v H3 hi g2 a2 c2 ⟨T, y, z, rfl, hT, rfl, hy, hz⟩
      obtain ⟨c3, c4⟩ := (show M2 l1 = some (.lst es) ∧ M2 l2 = some (.lst fs) from c2)
      have hi : i < min es.length fs.length := hi
      have he : i < es.length := by omega
      have hf : i < fs.length := by omega
      obtain ⟨xs2, hx2, rx2⟩ := a2 _ _ c3
      obtain ⟨ys2, hy2, ry2⟩ := a2 _ _ c4
      obtain ⟨x, e1, e2⟩ := rx2.get (show es[i]? = some es[i] by simp [he])
      obtain ⟨x', e1', e2'⟩ := ry2.get (show fs[i]? = some fs[i] by simp [hf])
      have t1 := hy xs2 (SqL.of hx2)
      have t2 := hz ys2 (SqL.of hy2)
      rw [e1] at t1; cases t1
      rw [e1'] at t2; cases t2
      exact ⟨.new hT, a2.new hT, .tup [es[i], fs[i]], by simp [he, hf], by rw [Rep]; exact ⟨T, _, rfl, SqT.of upd_same, .cons (e2.mono (.new hT)) (.cons (e2'.mono (.new hT)) .nil)⟩⟩⟩
end
end SD
set_option Elab.async false
set_option linter.all false
set_option maxRecDepth 100000
namespace SD
open PySem PySem.Spec PyProof.Rows L2
structure Gs (g h : Int) : Prop where
  g0 : 0 < g
  g1 : g ≤ 12
  h0 : 0 ≤ h
  h1 : h ≤ 24
noncomputable def gp (g h : Int) (u : Vc) : D := .tup [.int (g * u.1 - h), .int (g * u.2 - h)]
noncomputable def gwl (g h : Int) (w : Wl) : D := .tup [gp g h (ea w), gp g h (eb w)]
theorem g_lt {g h a c : Int} (hg : 0 < g) : g * a - h < g * c - h ↔ a < c := by
  constructor
  · intro e
    exact Int.lt_of_mul_lt_mul_left (show g * a < g * c by omega) (by omega)
  · intro e
    have := Int.mul_lt_mul_of_pos_left e hg
    omega
theorem g_eq {g h a c : Int} (hg : 0 < g) : g * a - h = g * c - h ↔ a = c := by
  have h1 := g_lt (h := h) (a := a) (c := c) hg
  have h2 := g_lt (h := h) (a := c) (c := a) hg
  omega
theorem g_le {g h a c : Int} (hg : 0 < g) : g * a - h ≤ g * c - h ↔ a ≤ c := by
  have h2 := g_lt (h := h) (a := c) (c := a) hg
  omega
theorem lexLt_g {g h a b c d : Int} (hg : 0 < g) : HT.lexLt [g * a - h, g * b - h] [g * c - h, g * d - h] = HT.lexLt [a, b] [c, d] := by
  simp only [HT.lexLt, g_lt hg, g_eq hg]
theorem lexGt_g {g h a b c d : Int} (hg : 0 < g) : HT.lexGt [g * a - h, g * b - h] [g * c - h, g * d - h] = HT.lexGt [a, b] [c, d] := by
  simp only [HT.lexGt, g_lt hg, g_eq hg, gt_iff_lt]
theorem lexLe_g {g h a b c d : Int} (hg : 0 < g) : HT.lexLe [g * a - h, g * b - h] [g * c - h, g * d - h] = HT.lexLe [a, b] [c, d] := by
  simp only [HT.lexLe, g_lt hg, g_eq hg, g_le hg]
theorem crs_g (g h a b c d e f : Int) : crs (g * c - h - (g * a - h)) (g * d - h - (g * b - h)) (g * e - h - (g * a - h)) (g * f - h - (g * b - h)) = (g * g) * crs (c - a) (d - b) (e - a) (f - b) := by
  unfold crs; grind
theorem sgn_g {g : Int} (hg : 0 < g) (z : Int) : Int.sign (g * g * z) = Int.sign z := by
  have hh := Int.mul_pos hg hg
  rw [Int.sign_mul, Int.sign_eq_one_of_pos hh, Int.one_mul]
theorem g_bd {g h x : Int} (G : Gs g h) (hx : 0 ≤ x ∧ x ≤ 20) : Bd 12 (g * x - h) := by
  have h1 := G.g0
  have h2 := G.g1
  have h3 := G.h0
  have h4 := G.h1
  have a : g * x ≤ 12 * 20 := Int.mul_le_mul h2 hx.2 hx.1 (by decide)
  have b : 0 ≤ g * x := Int.mul_nonneg (by omega) hx.1
  show (g * x - h).natAbs < 2 ^ 12
  omega
theorem gp_eqv {g h : Int} (hg : 0 < g) (u v : Vc) : PyData.eqv (.tuple [.int (g * u.1 - h), .int (g * u.2 - h)]) (.tuple [.int (g * v.1 - h), .int (g * v.2 - h)]) = decide (u = v) := by
  rw [eqv_two, decide_eq_decide, g_eq hg, g_eq hg]
  exact ⟨fun e => Prod.ext e.1 e.2, fun e => by rw [e]; exact ⟨rfl, rfl⟩⟩
noncomputable def Pot (M : MH) (r : Addr) (n : Nat) : Prop := ∃ a b c : Int, M r = some (.lst [.int a, .int b, .int c]) ∧ 0 ≤ a ∧ 0 ≤ b ∧ b < 2147483647 ∧ 0 ≤ c ∧ c ≤ n
theorem Pot.le {M : MH} {r : Addr} {n m : Nat} (h : Pot M r n) (l : n ≤ m) : Pot M r m := let ⟨a, b, c, h1, h2, h3, h4, h5, h6⟩ := h; ⟨a, b, c, h1, h2, h3, h4, h5, by omega⟩
theorem Pot.ne {M : MH} {r p : Addr} {n : Nat} (h : Pot M r n) (hp : M p = none) : r ≠ p := let ⟨_, _, _, h1, _⟩ := h; ne_fresh h1 hp
theorem Pot.new {M : MH} {r p : Addr} {n : Nat} {o : MO} (h : Pot M r n) (hp : M p = none) : Pot (updM M p o) r n := let ⟨a, b, c, h1, h2⟩ := h; ⟨a, b, c, by rw [updM_ne (ne_fresh h1 hp)]; exact h1, h2⟩
theorem Pot.upd {M : MH} {r p : Addr} {n : Nat} {o : MO} (h : Pot M r n) (ne : r ≠ p) : Pot (updM M p o) r n := let ⟨a, b, c, h1, h2⟩ := h; ⟨a, b, c, by rw [updM_ne ne]; exact h1, h2⟩
noncomputable def Kx (xs : List Addr) (M M' : MH) : Prop := ∀ a o, a ∉ xs → M a = some o → M' a = some o
theorem Kx.refl {xs : List Addr} {M : MH} : Kx xs M M := fun _ _ _ h => h
theorem Kx.trans {xs : List Addr} {M M1 M2 : MH} (a : Kx xs M M1) (b : Kx xs M1 M2) : Kx xs M M2 := fun x o n h => b x o n (a x o n h)
theorem Kx.upd {xs : List Addr} {M M1 : MH} {p : Addr} {o : MO} (a : Kx xs M M1) (hp : p ∈ xs) : Kx xs M (updM M1 p o) := fun x u n h => by
  have ne : x ≠ p := fun e => n (by rw [e]; exact hp)
  rw [updM_ne ne]; exact a x u n h
theorem Kx.new {xs : List Addr} {M M1 : MH} {p : Addr} {o : MO} (a : Kx xs M M1) (hp : M1 p = none) : Kx xs M (updM M1 p o) := fun x u n h => by rw [updM_ne (ne_fresh (a x u n h) hp)]; exact a x u n h
theorem Kx.sub {xs : List Addr} {M M1 M2 : MH} (a : Kx xs M M1) (b : Sub M1 M2) : Kx xs M M2 := fun x o n h => b x o (a x o n h)
theorem Kx.mono {xs ys : List Addr} {M M1 : MH} (a : Kx xs M M1) (h : ∀ x ∈ xs, x ∈ ys) : Kx ys M M1 := fun x o n e => a x o (fun q => n (h x q)) e
theorem Sub.kx {xs : List Addr} {M M1 : MH} (b : Sub M M1) : Kx xs M M1 := fun x o _ h => b x o h
noncomputable def gwP (g h : Int) (w : Wl) : PyData := .tuple [.tuple [.int (g * w.1 - h), .int (g * w.2.1 - h)], .tuple [.int (g * w.2.2.1 - h), .int (g * w.2.2.2 - h)]]
theorem pds_gw {M : MH} (g h : Int) : ∀ ws : List Wl, Pds M (ws.map (gwl g h)) (ws.map (gwP g h))
  | [] => .nil
  | w :: ws => .cons (Pd.of rfl) (pds_gw g h ws)
theorem lay_gw (g h : Int) : ∀ ws : List Wl, PyData.canLayAll0 (ws.map (gwP g h)) = true
  | [] => rfl
  | w :: ws => by rw [List.map_cons, PyData.canLayAll0, lay_gw g h ws]; rfl
theorem dep_gw (g h : Int) : ∀ ws : List Wl, PyData.depthAll (ws.map (gwP g h)) ≤ 10
  | [] => Nat.le_of_ble_eq_true rfl
  | w :: ws => by
    rw [List.map_cons, PyData.depthAll]
    exact Nat.max_le.mpr ⟨Nat.le_of_ble_eq_true rfl, dep_gw g h ws⟩
theorem shaped_gw (g h : Int) (ws : List Wl) : SeqAt.shaped (.list (ws.map (gwP g h))) = true := by
  unfold SeqAt.shaped
  have h1 := lay_gw g h ws
  have h2 := dep_gw g h ws
  rw [Bool.and_eq_true]
  refine ⟨by rw [PyData.canLay0]; exact h1, decide_eq_true ?_⟩
  rw [PyData.depth]
  omega
theorem eqv_gw_nil (g h : Int) : ∀ ws : List Wl, PyData.eqv (.list (ws.map (gwP g h))) (.list []) = ws.isEmpty
  | [] => by simp [PyData.eqv, PyData.eqvAll]
  | w :: ws => by simp [PyData.eqv, PyData.eqvAll]
theorem gw_pick {g h : Int} {ws : List Wl} {v : Int} (h0 : 0 ≤ v) (h1 : v < ws.length) : ∃ w, w ∈ ws ∧ atI (ws.map (gwl g h)) v = some (gwl g h w) := by
  obtain ⟨j, rfl⟩ : ∃ j : Nat, v = (j : Int) := ⟨v.toNat, by omega⟩
  have hj : j < ws.length := by omega
  exact ⟨ws[j], List.getElem_mem hj, atI_nat (by simp [hj])⟩
theorem ge_pick {g h : Int} {w : Wl} (W : Un5 w) {v : Int} (h0 : 0 ≤ v) (h1 : v < 2) : ∃ p, B20 p ∧ atI [gp g h (ea w), gp g h (eb w)] v = some (gp g h p) := by
  rcases (show v = 0 ∨ v = 1 by omega) with rfl | rfl
  · exact ⟨_, W.ea, rfl⟩
  · exact ⟨_, W.eb, rfl⟩
theorem pf_iff {ws : List Wl} : PF ws ↔ ws.Pairwise Fair := by
  rw [List.pairwise_iff_getElem]
  constructor
  · intro h i j hi hj hij
    exact h i j _ _ (by omega) (List.getElem?_eq_getElem hi) (List.getElem?_eq_getElem hj)
  · intro h i j U V hij hU hV
    obtain ⟨hi, rfl⟩ := List.getElem?_eq_some_iff.mp hU
    obtain ⟨hj, rfl⟩ := List.getElem?_eq_some_iff.mp hV
    rcases Nat.lt_or_gt_of_ne hij with z | z
    · exact h i j hi hj z
    · exact (h j i hj hi z).swap
theorem pf_perm {a b : List Wl} (p : b.Perm a) (h : PF a) : PF b := pf_iff.mpr ((p.pairwise_iff fun {x y} z => Fair.swap z).mpr (pf_iff.mp h))
theorem pf_ins {ws : List Wl} {w : Wl} {j : Nat} (h : PF ws) (hw : ∀ (t : Nat) (v : Wl), ws[t]? = some v → Fair w v) : PF (insD ws j w) :=
  pf_perm (insD_perm ws j w) (pf_perm (List.perm_append_singleton w ws).symm (pf_append h hw))
theorem order_g {g h : Int} (hg : 0 < g) {u v : Vc} (hu : B20 u) (hv : B20 v) (ne : u ≠ v) : ∃ w : Wl, Un5 w ∧ (if HT.lexLt [g * v.1 - h, g * v.2 - h] [g * u.1 - h, g * u.2 - h] = true then [g * v.1 - h, g * v.2 - h] else [g * u.1 - h, g * u.2 - h]) = [g * w.1 - h, g * w.2.1 - h] ∧
    (if HT.lexGt [g * v.1 - h, g * v.2 - h] [g * u.1 - h, g * u.2 - h] = true then [g * v.1 - h, g * v.2 - h] else [g * u.1 - h, g * u.2 - h]) = [g * w.2.2.1 - h, g * w.2.2.2 - h] := by
  obtain ⟨w, e1, e2, W⟩ := order_two (p := u.1) (q := u.2) (e := v.1) (f := v.2) hu.1 hu.2 hv.1 hv.2 (fun z => ne (Prod.ext z.1 z.2))
  refine ⟨w, W, ?_, ?_⟩
  · rw [lexLt_g hg]
    by_cases c : HT.lexLt [v.1, v.2] [u.1, u.2] = true
    · rw [if_pos c] at e1 ⊢
      injection e1 with a1 a2; injection a2 with a2 _
      rw [a1, a2]
    · rw [if_neg c] at e1 ⊢
      injection e1 with a1 a2; injection a2 with a2 _
      rw [a1, a2]
  · rw [lexGt_g hg]
    by_cases c : HT.lexGt [v.1, v.2] [u.1, u.2] = true
    · rw [if_pos c] at e2 ⊢
      injection e2 with a1 a2; injection a2 with a2 _
      rw [a1, a2]
    · rw [if_neg c] at e2 ⊢
      injection e2 with a1 a2; injection a2 with a2 _
      rw [a1, a2]
theorem cut_from1 {α : Type} (f : α → D) (l : List α) : cutD (l.map f) (some 1) none = (l.drop 1).map f := by
  unfold cutD
  rw [show (some 1 : Option Int) = some ((1 : Nat) : Int) from rfl, HT.sIx_nat, HT.sIx_none]
  cases l with
  | nil => rfl
  | cons a l =>
    have : min 1 ((a :: l).map f).length = 1 := by simp
    rw [this]
    simp
    exact List.take_of_length_le (by simp)
theorem pds_bl {M : MH} : ∀ bs : List Bool, Pds M (bs.map D.bl) (bs.map PyData.bool)
  | [] => .nil
  | b :: bs => .cons (.bl b) (pds_bl bs)
theorem lay_bl : ∀ bs : List Bool, PyData.canLayAll0 (bs.map PyData.bool) = true
  | [] => rfl
  | b :: bs => by rw [List.map_cons, PyData.canLayAll0, lay_bl bs]; rfl
theorem any_bl (c : Bool) (bs : List Bool) : (bs.map PyData.bool).any (fun q => PyData.eqv q (.bool c)) = bs.any (fun b => b == c) := by
  rw [List.any_map]
  congr 1
end SD
set_option Elab.async false
set_option linter.all false
set_option maxRecDepth 100000
namespace SD
open PySem PySem.Spec PyProof.Rows L2
noncomputable def sqG (m : Nat) : Nat → List Wl
  | 0 => (List.range' 0 (m + 1)).map fun k : Nat => sqV (k : Int)
  | i + 1 => sqG m i ++ [sqH (i : Int) 0, sqH (i : Int) 1]
theorem sqG_len (m : Nat) : ∀ i, (sqG m i).length = m + 1 + 2 * i
  | 0 => by simp [sqG]
  | i + 1 => by rw [sqG, List.length_append, sqG_len m i]; simp; omega
theorem sqG_perm (m : Nat) : ∀ i k, i + k = m → (sqG m i).Perm (sqL (m : Int) i ++ (List.range' i k).map fun k : Nat => sqV (k : Int))
  | 0, k, e => by
    obtain rfl : k = m := by omega
    rw [sqG, sqL, List.range'_concat, List.map_append]
    simpa using (List.perm_append_comm (l₁ := (List.range' 0 k).map fun k : Nat => sqV (k : Int)) (l₂ := [sqV (k : Int)]))
  | i + 1, k, e => by
    have ih := sqG_perm m i (k + 1) (by omega)
    rw [List.range'_succ, List.map_cons] at ih
    rw [sqG, sqL]
    refine (ih.append_right _).trans ?_
    rw [List.append_assoc, List.append_assoc]
    refine List.Perm.append_left _ ?_
    generalize (List.range' (i + 1) k).map (fun k : Nat => sqV (k : Int)) = R
    have a : (sqV (i : Int) :: R ++ [sqH (i : Int) 0, sqH (i : Int) 1]).Perm ([sqH (i : Int) 0, sqH (i : Int) 1] ++ (sqV (i : Int) :: R)) := List.perm_append_comm
    exact a
theorem sqG_all (m : Nat) : (sqG m m).Perm (sqL (m : Int) m) := by
  have := sqG_perm m m 0 (by omega)
  simpa using this
theorem gw_V (k : Int) : gwl 12 0 (sqV k) = .tup [.tup [.int (12 * k), .int 0], .tup [.int (12 * k), .int 12]] := by
  simp [gwl, gp, sqV, ea, eb]
theorem gw_H (k : Int) : gwl 12 0 (sqH k 0) = .tup [.tup [.int (12 * k), .int 0], .tup [.int (12 * k + 12), .int 0]] ∧ gwl 12 0 (sqH k 1) = .tup [.tup [.int (12 * k), .int 12], .tup [.int (12 * k + 12), .int 12]] := by
  have e : 12 * (k + 1) = 12 * k + 12 := by omega
  simp [gwl, gp, sqH, ea, eb, e]
noncomputable def raw (g h : Int) (w : Wl) : Wl := (g * w.1 - h, g * w.2.1 - h, g * w.2.2.1 - h, g * w.2.2.2 - h)
theorem uw_raw (g h : Int) : ∀ ws : List Wl, (ws.map (raw g h)).map uw = ws.map (gwl g h)
  | [] => rfl
  | w :: ws => by rw [List.map_cons, List.map_cons, List.map_cons, uw_raw g h ws]; rfl
theorem raw_ok {g h : Int} (G : Gs g h) {w : Wl} (W : Un5 w) : Uok (10 ^ 3) (raw g h w) := by
  have k : ∀ {x : Int}, (0 ≤ x ∧ x ≤ 20) → -(10 ^ 3) ≤ g * x - h ∧ g * x - h ≤ 10 ^ 3 := fun {x} hx => by
    have h1 := G.g0
    have h2 := G.g1
    have h3 := G.h0
    have h4 := G.h1
    have a : g * x ≤ 12 * 20 := Int.mul_le_mul h2 hx.2 hx.1 (by decide)
    have b : 0 ≤ g * x := Int.mul_nonneg (by omega) hx.1
    omega
  exact ⟨k W.a, k W.b, k W.c, k W.d⟩
end SD
set_option Elab.async false
set_option linter.all false
set_option maxRecDepth 100000
namespace SD
open PySem PySem.Spec PyProof.Rows L2
section
variable {X : Cx}
noncomputable def isDisp : PyData → Bool
  | .list _ => true
  | .tuple _ => true
  | _ => false
structure Shn (P : PyData) : Prop where
  s : P.showable = true
  d : P.hasDict = false
  n : P.depth ≤ 40
  l : P.shown.length ≤ sizeLine
noncomputable def rRepr : RC := fun ds M Q => match ds with
  | [d] => ∃ P, Pd M d P ∧ isDisp P = true ∧ Shn P ∧ Q (.str P.shown) M
  | _ => False
theorem cd_repr (hg : X.A.guards = some []) (hu : X.A.units + 64 < cLine) : CallD X (.builtin "repr") rRepr := by
  intro pins s σ H vs us Q I r ⟨ds, M, R, rs, a, q, fin⟩
  unfold rRepr at q
  split at q
  · obtain ⟨P, pd, di, S, q⟩ := q
    obtain ⟨v, rfl, rv⟩ := reps1 rs
    obtain ⟨u, rfl, ru⟩ := vals1 r
    obtain ⟨as, re⟩ := pd_reads I a pd rv ru
    obtain ⟨b, rfl⟩ : ∃ b, u = .ref b := by
      cases re <;> first | exact ⟨_, rfl⟩ | cases di
    obtain ⟨h, g, d, t, os⟩ := s
    refine repr_of_reads' (h₀ := h) re S.s (fun z => by rw [S.d] at z; cases z) hg (by have := S.n; omega) (fun _ _ e => e) (fun h' u tk hk => ?_) S.l
    have It := I.kept (h' := h') (t' := tk) hk
    exact ⟨.str P.shown, H, It, ⟨u, rfl⟩, fin _ _ _ _ .refl (by rw [Rep]) a q⟩
  · exact q.elim
noncomputable def rEqS : R2D := fun x y M Q => match x, y with
  | .str a, .str b => a = b ∧ Q (.bl true) M
  | _, _ => False
theorem od_eqS : OpD X (compareOp .Eq) rEqS := by
  intro pins s σ H v u v' u' Q I rv ru h
  obtain ⟨x, y, M, R, r1, r2, a, q, fin⟩ := h
  unfold rEqS at q
  split at q
  · obtain ⟨rfl, q⟩ := q
    rw [Rep] at r1 r2
    subst r1 r2
    obtain ⟨t1, rfl⟩ := rv
    obtain ⟨t2, rfl⟩ := ru
    refine PySem.P.eq_str ?_
    rw [beq_self_eq_true]
    exact ⟨.bl true, H, I, rfl, fin _ _ _ _ .refl (by rw [Rep]) a q⟩
  · exact q.elim
theorem bt_repr : bootBuiltins "repr" = some (.builtin "repr") := boot_repr
end
end SD
set_option Elab.async false
set_option linter.all false
set_option maxRecDepth 100000
namespace SD
open PySem PySem.Spec PyProof.Rows L2
theorem rgs_len {ws : List Wl} : ∀ {i : Nat} {rs : List (List Nat)}, Rgs ws i rs → rs.length ≤ i
  | 0, rs, h => by rw [show rs = [] from h]; simp
  | i + 1, rs, ⟨qs, h1, h2⟩ => by
    have := rgs_len h1
    rcases h2 with ⟨_, rfl⟩ | ⟨_, r, _, rfl⟩
    · omega
    · simp; omega
structure RgA (ws : List Wl) (r : List Nat) : Prop where
  rng : Rng ws r
  len : r.length ≤ 2 * ws.length
  lt : ∀ g ∈ r, g < 2 * ws.length
  pos : 0 < r.length
noncomputable def isOut (ws : List Wl) (r : List Nat) : Bool := decide (0 < (r.map (twT ws)).sum)
theorem RL.get {M : MH} {ps : List Addr} {rs : List (List Nat)} (h : RL M ps rs) {i : Nat} (hi : i < ps.length) : ∃ r, rs[i]? = some r ∧ M ps[i] = some (.lst (r.map fun g : Nat => D.int (g : Int))) := by
  unfold RL at h
  induction h generalizing i with
  | nil => simp at hi
  | @cons p r ps rs a _ ih =>
    cases i with
    | zero => exact ⟨r, rfl, a⟩
    | succ i => simpa using ih (by simpa using hi)
noncomputable def mn (a c : Vc) : Vc := if la a.1 a.2 < la c.1 c.2 then a else c
noncomputable def fcI (ws : List Wl) (r : List Nat) (i : Nat) : Vc := (r.take i).foldl (fun a g => mn a (fa ws g)) (fa ws (r.headD 0))
noncomputable def fc (ws : List Wl) (r : List Nat) : Vc := fcI ws r r.length
noncomputable def topK (ws : List Wl) (fs : List Int) : Int := (fs.filter fun k => fs.all fun j => !abv (wAt ws j) (wAt ws k)).headD 0
noncomputable def laF (ws : List Wl) (L : List Int) (u : Vc) : Int := if bK ws 1 u.1 u.2 = [] then 0 else (L[2 * (topK ws (bK ws 1 u.1 u.2)).toNat]?).getD 0
end SD
set_option Elab.async false
set_option linter.all false
set_option maxRecDepth 100000
namespace SD
open PySem PySem.Spec PyProof.Rows L2
section
variable {X : Cx} {pins : List (Addr × Obj)} {σ : L2.St} {H : Hp} {s : Shared} {a b : Addr} {k : SpK}
end
noncomputable def wDComp (X : Cx) (js : List Nat) (own : Own) (tc : TT) (tk te : TE) (σ : L2.St) (J : It) (H1 : Hp) (Q : VK) : Prop := ∀ D, H1 D = none → ∃ W : Nat → Nat → Hp → Prop, (∃ m, W 0 m (upd H1 D (.ext (dspF X.prog X.w D [])))) ∧ ∀ i m H, W i m H →
  (J.stop i H ∧ Q (.ref D) H) ∨ (J.go i H ∧ ∀ y H', J.yld i H y H' → ∃ os, own y H' os ∧ tc (cσ os js σ) H' fun b H2 => if b = true then
    tk (cσ os js σ) H2 fun kv H3 => te (cσ os js σ) H3 fun v H4 => ∃ b k xs, kv = .ref b ∧ H4 D = some (.ext (dspF X.prog X.w D xs)) ∧ (∀ x ∈ xs, SpAt X.K H4 x.2.1 x.1) ∧ SpAt X.K H4 b k ∧ xs.length < sizeLine ∧ ∃ m', m' < m ∧ W (i + 1) m' (upd H4 D (.ext (dspF X.prog X.w D (putS xs k b v)))) else ∃ m', m' < m ∧ W (i + 1) m' H2)
noncomputable def tDCompL (X : Cx) (js : List Nat) (own : Own) (wi : TI) (tc : TT) (tk te : TE) : TE := fun σ H Q => wi σ H fun J H1 => wDComp X js own tc tk te σ J H1 Q
section
variable {X : Cx} {xs : List Str} {tg : Expr} {pos : Pos} {js : List Nat} {scope : Scope} {kx vx iter : Expr} {ifs : List Expr} {tk te : TE} {tc : TT} {g : TG} {own : Own} {wi : TI} {pins : List (Addr × Obj)} {σ : L2.St} {H : Hp} {s : Shared} {fp : List Addr} {it : Addr} {tn : Nat → Heap → Prop} {J : It}
end
noncomputable def kDComp (I : ItD) (tk : Tgt) (js : List Nat) (tc : TTD) (tx te : TD) (δ : DS) (M1 : MH) (Q : DK) : Prop := I.n ≤ 900000 ∧ ∀ p, M1 p = none → ∃ W : Nat → SpT → MH → Prop, W 0 [] (updM M1 p (dsM [])) ∧ (∀ i kvs M, i ≤ I.n → W i kvs M → I.C M) ∧
  (∀ i kvs d M, i < I.n → I.item i = some d → W i kvs M → ∃ os, ownD tk d os ∧ tc (cδ os js δ) M fun b M2 => if b = true then tx (cδ os js δ) M2 fun y M3 => te (cδ os js δ) M3 fun e M4 => ∃ k, y = spD k ∧ M4 p = some (dsM kvs) ∧ kvs.length ≤ i ∧ W (i + 1) (putD kvs k e) (updM M4 p (dsM (putD kvs k e))) else W (i + 1) kvs M2) ∧ ∀ kvs M, W I.n kvs M → Q (.ref p) M
noncomputable def tDCompD (wd : TID) (tk : Tgt) (js : List Nat) (tc : TTD) (tx te : TD) : TD := fun δ M Q => wd δ M fun I M1 => kDComp I tk js tc tx te δ M1 Q
section
variable {X : Cx}
variable {xs : List Str} {tg : Expr} {pos : Pos} {js : List Nat} {scope : Scope} {kx vx iter : Expr} {ifs : List Expr} {tx te : TD} {tc : TTD} {g : TG} {tk : Tgt} {wd : TID}
end
end SD
set_option Elab.async false
set_option linter.all false
set_option maxRecDepth 100000
namespace SD
open PySem PySem.Spec PyProof.Rows L2
section
variable {X : Cx}
noncomputable def rMulL : R2D := fun x y M Q => match x, y with
  | .ref a, .int k => ∃ d, M a = some (.lst [d]) ∧ 0 ≤ k ∧ k ≤ 1000 ∧ ∀ z, M z = none → Q (.ref z) (updM M z (.lst (List.replicate k.toNat d)))
  | _, _ => False
end
section
noncomputable def eobj (l it : Addr) : Obj × Obj := ({ cls := .type "list_iterator", data := .fields #[.ref l, .int 0 0] }, { cls := .type "enumerate", data := .fields #[.none, .bool false, .ref it, rawInt 1, .none, .none] })
variable {prog : Program} {w : World} {A : Around} {E : Value → Shared → Prop} {s : Shared} {l : Addr} {items : Array Value} {n : Nat} {t : Tok} {Q : Value → Shared → Prop}
end
end SD
set_option Elab.async false
set_option linter.all false
set_option maxRecDepth 100000
namespace SD
open PySem PySem.Spec PyProof.Rows L2
noncomputable def Ite1 (K : PySem.W.Frag) (a : Addr) : It :=
  ⟨fun i H => ∃ xs x, SqL K H a xs ∧ xs[i]? = some x, fun i H x H' => ∃ T y, x = .ref T ∧ H T = none ∧ H' = upd H T (.tup [.int ((i + 1 : Nat) : Int), y]) ∧ ∀ xs, SqL K H a xs → xs[i]? = some y, fun i H => ∃ xs, SqL K H a xs ∧ xs.length ≤ i⟩
section
variable {X : Cx} {elts : List Expr} {kt : Nat} {pt : Pos}
noncomputable def iEnum1 (K : PySem.W.Frag) (ta : TA) : TI := fun σ H R => ta σ H fun vs H1 => ∃ a xs, vs = [.ref a] ∧ H1 a = some (.lst xs) ∧ R (Ite1 K a) H1
noncomputable def dEnum1 (ta : TAD) : TID := fun δ M R => ta δ M fun ds M1 => ∃ l es, ds = [.ref l] ∧ M1 l = some (.lst es) ∧ R ⟨es.length, fun i => (es[i]?).map fun d => .tup [.int ((i + 1 : Nat) : Int), d], fun M => M l = some (.lst es)⟩ M1
end
end SD
set_option Elab.async false
set_option linter.all false
set_option maxRecDepth 100000
namespace SD
open PySem PySem.Spec PyProof.Rows L2
noncomputable def fillI (L : List Int) (r : List Nat) (v : Int) (i : Nat) : List Int := (r.take i).foldl (fun L g => L.set g v) L
noncomputable def fill (L : List Int) (r : List Nat) (v : Int) : List Int := fillI L r v r.length
theorem fold_set_len (v : Int) : ∀ (r : List Nat) (L : List Int), (r.foldl (fun L g => L.set g v) L).length = L.length
  | [], L => rfl
  | g :: r, L => by rw [List.foldl_cons, fold_set_len v r, List.length_set]
theorem fillI_len (L : List Int) (r : List Nat) (v : Int) (i : Nat) : (fillI L r v i).length = L.length := fold_set_len v _ L
noncomputable def Ld (v : Int) : Prop := 0 ≤ v ∧ v ≤ 80
theorem fold_set_ld {v : Int} (hv : Ld v) : ∀ (r : List Nat) (L : List Int), (∀ x ∈ L, Ld x) → ∀ x ∈ r.foldl (fun L g => L.set g v) L, Ld x
  | [], L, h => h
  | g :: r, L, h => by
    rw [List.foldl_cons]
    refine fold_set_ld hv r _ fun x hx => ?_
    rcases List.mem_or_eq_of_mem_set hx with z | z
    · exact h x z
    · rw [z]; exact hv
theorem fillI_ld {L : List Int} (r : List Nat) {v : Int} (i : Nat) (hv : Ld v) (h : ∀ x ∈ L, Ld x) : ∀ x ∈ fillI L r v i, Ld x := fold_set_ld hv _ L h
noncomputable def fO (m : Nat) (outs : List (List Nat)) : Nat → List Int
  | 0 => List.replicate m 0
  | i + 1 => fill (fO m outs i) ((outs[i]?).getD []) ((i + 1 : Nat) : Int)
theorem fO_len (m : Nat) (outs : List (List Nat)) : ∀ i, (fO m outs i).length = m
  | 0 => by simp [fO]
  | i + 1 => by rw [fO, fill, fillI_len, fO_len m outs i]
theorem fO_ld (m : Nat) (outs : List (List Nat)) : ∀ i, i ≤ 80 → ∀ x ∈ fO m outs i, Ld x
  | 0, _ => fun x hx => by
    have := List.eq_of_mem_replicate hx
    subst this; exact ⟨by decide, by decide⟩
  | i + 1, h => by
    rw [fO, fill]
    exact fillI_ld _ _ ⟨by omega, by omega⟩ (fO_ld m outs i (by omega))
noncomputable def keysI (ws : List Wl) (ins : List (List Nat)) : Nat → List Vc
  | 0 => []
  | i + 1 => let c := fc ws ((ins[i]?).getD []); if c ∈ keysI ws ins i then keysI ws ins i else keysI ws ins i ++ [c]
noncomputable def atI' (ws : List Wl) (ins : List (List Nat)) (c : Vc) : Nat → Option Nat
  | 0 => none
  | i + 1 => if fc ws ((ins[i]?).getD []) = c then some i else atI' ws ins c i
noncomputable def fS (ws : List Wl) (ins : List (List Nat)) (L : List Int) (ps : List Vc) : Nat → List Int
  | 0 => L
  | i + 1 => let c := (ps[i]?).getD (0, 0); fill (fS ws ins L ps i) ((ins[(atI' ws ins c ins.length).getD 0]?).getD []) (laF ws (fS ws ins L ps i) c)
theorem laF_ld {ws : List Wl} {L : List Int} {c : Vc} (h : ∀ x ∈ L, Ld x) : Ld (laF ws L c) := by
  unfold laF
  split
  · exact ⟨by decide, by decide⟩
  · cases e : L[2 * (topK ws (bK ws 1 c.1 c.2)).toNat]? with
    | none => exact ⟨by decide, by decide⟩
    | some v => exact h v (List.mem_of_getElem? e)
theorem fS_len (ws : List Wl) (ins : List (List Nat)) (L : List Int) (ps : List Vc) : ∀ i, (fS ws ins L ps i).length = L.length
  | 0 => rfl
  | i + 1 => by rw [fS, fill, fillI_len, fS_len ws ins L ps i]
theorem fS_ld {ws : List Wl} {ins : List (List Nat)} {L : List Int} {ps : List Vc} (h : ∀ x ∈ L, Ld x) : ∀ i, ∀ x ∈ fS ws ins L ps i, Ld x
  | 0 => h
  | i + 1 => by
    rw [fS, fill]
    exact fillI_ld _ _ (laF_ld (fS_ld h i)) (fS_ld h i)
noncomputable def IsLands (ws : List Wl) (L : List Int) : Prop := ∃ (rs : List (List Nat)) (ps : List Vc), Rgs ws (2 * ws.length) rs ∧ ps.Perm (keysI ws (rs.filter fun r => !isOut ws r) (rs.filter fun r => !isOut ws r).length) ∧ ps.Pairwise plt ∧
  L = fS ws (rs.filter fun r => !isOut ws r) (fO (2 * ws.length) (rs.filter (isOut ws)) (rs.filter (isOut ws)).length) ps ps.length
theorem IsLands.len {ws : List Wl} {L : List Int} (h : IsLands ws L) : L.length = 2 * ws.length := by
  obtain ⟨rs, ps, R, p1, p2, rfl⟩ := h
  rw [fS_len, fO_len]
theorem IsLands.ld {ws : List Wl} (hl : ws.length ≤ 40) {L : List Int} (h : IsLands ws L) : ∀ x ∈ L, Ld x := by
  obtain ⟨rs, ps, R, p1, p2, rfl⟩ := h
  have := rgs_len R
  have := List.length_filter_le (isOut ws) rs
  exact fS_ld (fO_ld _ _ _ (by omega)) _
theorem find_map_put (k : SpK) (d : D) (k' : SpK) : ∀ kvs : SpT, ((kvs.map fun x => if x.1 = k then (x.1, d) else x).find? fun x => decide (x.1 = k')).map (·.2) = if k' = k ∧ (kvs.any fun x => decide (x.1 = k)) = true then some d else (kvs.find? fun x => decide (x.1 = k')).map (·.2)
  | [] => by simp
  | x :: kvs => by
    have ih := find_map_put k d k' kvs
    rw [List.map_cons, List.find?_cons, List.find?_cons, List.any_cons]
    by_cases a : x.1 = k
    · rw [if_pos a]
      by_cases b : x.1 = k'
      · have e : k' = k := b.symm.trans a
        simp [a, e]
      · have ne : ¬ k' = k := fun z => b (a.trans z.symm)
        rw [if_neg (fun z => ne z.1)]
        rw [if_neg (fun z => ne z.1)] at ih
        simp only [decide_eq_false b]
        exact ih
    · rw [if_neg a]
      by_cases b : x.1 = k'
      · have ne : ¬ k' = k := fun z => a (b.trans z)
        rw [if_neg (fun z => ne z.1)]
        simp [b]
      · simp only [decide_eq_false b, decide_eq_false a, Bool.false_or]
        exact ih
theorem valD_put (kvs : SpT) (k : SpK) (d : D) (k' : SpK) : valD (putD kvs k d) k' = if k' = k then some d else valD kvs k' := by
  unfold putD valD
  by_cases h : (kvs.any fun x => decide (x.1 = k)) = true
  · rw [if_pos h, find_map_put]
    by_cases e : k' = k
    · rw [if_pos ⟨e, h⟩, if_pos e]
    · rw [if_neg (fun z => e z.1), if_neg e]
  · rw [if_neg h, List.find?_append]
    by_cases e : k' = k
    · subst e
      have : (kvs.find? fun x => decide (x.1 = k')) = none := by
        rw [List.find?_eq_none]
        intro x hx hq
        exact h (List.any_eq_true.mpr ⟨x, hx, hq⟩)
      rw [this, if_pos rfl]
      simp
    · rw [if_neg e]
      have : ([(k, d)] : SpT).find? (fun x => decide (x.1 = k')) = none := by
        simp
        exact fun z => e z.symm
      rw [this]
      simp
theorem keys_put (kvs : SpT) (k : SpK) (d : D) : (putD kvs k d).map (·.1) = if k ∈ kvs.map (·.1) then kvs.map (·.1) else kvs.map (·.1) ++ [k] := by
  unfold putD
  have e : ((kvs.any fun x => decide (x.1 = k)) = true) ↔ k ∈ kvs.map (·.1) := by
    rw [List.any_eq_true, List.mem_map]
    exact ⟨fun ⟨x, a, b⟩ => ⟨x, a, by simpa using b⟩, fun ⟨x, a, b⟩ => ⟨x, a, by simpa using b⟩⟩
  by_cases h : k ∈ kvs.map (·.1)
  · rw [if_pos (e.mpr h), if_pos h, List.map_map]
    apply List.map_congr_left
    intro x _
    show (if x.1 = k then (x.1, d) else x).1 = x.1
    split <;> rfl
  · rw [if_neg (fun z => h (e.mp z)), if_neg h, List.map_append]
    rfl
structure RDt (t b X Y : Int) (ws : List Wl) (ins : List (List Nat)) (qs : List Addr) (i : Nat) (kvs : SpT) : Prop where
  ks : kvs.map (·.1) = (keysI ws ins i).map (gk t b X Y)
  vs : ∀ c, valD kvs (gk t b X Y c) = (atI' ws ins c i).bind fun j => (qs[j]?).map D.ref
theorem RDt.nil (t b X Y : Int) (ws : List Wl) (ins : List (List Nat)) (qs : List Addr) : RDt t b X Y ws ins qs 0 [] := ⟨rfl, fun c => rfl⟩
theorem RDt.put {t b X Y : Int} {ws : List Wl} {ins : List (List Nat)} {qs : List Addr} {i : Nat} {kvs : SpT} {r : List Nat} {q : Addr} (ht : 0 < t) (hb : 0 < b) (h : RDt t b X Y ws ins qs i kvs) (er : ins[i]? = some r) (eq : qs[i]? = some q) : RDt t b X Y ws ins qs (i + 1) (putD kvs (gk t b X Y (fc ws r)) (.ref q)) := by
  have er' : (ins[i]?).getD [] = r := by rw [er]; rfl
  refine ⟨?_, fun c => ?_⟩
  · rw [keys_put, h.ks]
    have ek : keysI ws ins (i + 1) = if fc ws r ∈ keysI ws ins i then keysI ws ins i else keysI ws ins i ++ [fc ws r] := by
      conv => lhs; unfold keysI
      rw [er']
    rw [ek]
    by_cases z : fc ws r ∈ keysI ws ins i
    · rw [if_pos z, if_pos (List.mem_map.mpr ⟨_, z, rfl⟩)]
    · rw [if_neg z, if_neg (fun y => by
        obtain ⟨c, hc, ec⟩ := List.mem_map.mp y
        exact z ((gk_inj ht hb ec) ▸ hc)), List.map_append]
      rfl
  · rw [valD_put]
    have ea : atI' ws ins c (i + 1) = if fc ws r = c then some i else atI' ws ins c i := by
      conv => lhs; unfold atI'
      rw [er']
    rw [ea]
    by_cases z : fc ws r = c
    · rw [if_pos (by rw [z]), if_pos z]
      show _ = (qs[i]?).map D.ref
      rw [eq]; rfl
    · rw [if_neg (fun y => z (gk_inj ht hb y).symm), if_neg z]
      exact h.vs c
end SD
set_option Elab.async false
set_option linter.all false
set_option maxRecDepth 100000
namespace SD
open PySem PySem.Spec PyProof.Rows L2
section
variable {X : Cx}
noncomputable def rSortS : RC := fun ds M Q => match ds with
  | [.ref l] => ∃ ns : List Int, M l = some (.lst (ns.map D.int)) ∧ ns.length < 64 ∧ ∀ (z : Addr) (ns' : List Int), M z = none → ns'.Perm ns → ns'.Pairwise (· ≤ ·) → Q (.ref z) (updM M z (.lst (ns'.map D.int)))
  | _ => False
end
noncomputable def prL (L : List Int) (w : Nat) : Int × Int := let a := (L[2 * w]?).getD 0; let c := (L[2 * w + 1]?).getD 0; if a ≤ c then (a, c) else (c, a)
end SD
set_option Elab.async false
set_option linter.all false
set_option maxRecDepth 100000
namespace SD
open PySem PySem.Spec PyProof.Rows L2
noncomputable def ownVN (K : PySem.W.Frag) : Own := fun y H os => ∃ a b u v w, y = .ref a ∧ SqT K H a [u, .ref b] ∧ SqT K H b [v, w] ∧ os = [some u, some v, some w]
noncomputable def ownN (d : D) (os : DS) : Prop := ∃ p q r, d = .tup [p, .tup [q, r]] ∧ os = [some p, some q, some r]
noncomputable def kCompN (I : ItD) (js : List Nat) (tc : TTD) (te : TD) (δ : DS) (M1 : MH) (Q : DK) : Prop := I.n ≤ 1000000 ∧ ∀ p, M1 p = none → ∃ W : Nat → List D → MH → Prop, W 0 [] (updM M1 p (.lst [])) ∧ (∀ i ys M, i ≤ I.n → W i ys M → I.C M) ∧
  (∀ i ys d M, i < I.n → I.item i = some d → W i ys M → ∃ os, ownN d os ∧ tc (cδ os js δ) M fun b M2 => if b = true then te (cδ os js δ) M2 fun e M' => ∃ M3, Sub M3 M' ∧ M3 p = some (.lst ys) ∧ W (i + 1) (ys ++ [e]) (updM M3 p (.lst (ys ++ [e]))) else ∃ M3, Sub M3 M2 ∧ W (i + 1) ys M3) ∧ ∀ ys M, W I.n ys M → Q (.ref p) M
noncomputable def tCompN (wd : TID) (js : List Nat) (tc : TTD) (te : TD) : TD := fun δ M Q => wd δ M fun I M1 => kCompN I js tc te δ M1 Q
section
variable {X : Cx} {K : PySem.W.Frag}
end
section
variable {X : Cx} {x y z : Str} {px py pz pt pu pos : Pos} {kt ku : Nat} {js : List Nat} {scope : Scope} {elt iter : Expr} {ifs : List Expr} {te : TD} {tc : TTD} {wd : TID}
end
end SD
set_option Elab.async false
set_option linter.all false
set_option maxRecDepth 100000
namespace SE
open SD PySem PySem.Spec PyProof.Rows L2
noncomputable abbrev SpK := Int × Int
noncomputable def spotKind (P : Program) (w : World) : HeapKind P w SpK where
  is := fun h k a => IsTupleKey (intKind P w) h [k.1, k.2] a
  hash := fun k => tupleKeyHash (intKind P w) [k.1, k.2]
  draws := fun _ => 3
  room := fun A => A.units + 4 < cLine
  inj := fun hx hy => by have := hx.inj hy; simp at this; exact Prod.ext this.1 this.2
  keeps := fun x ho hd hs => x.keeps ho hd hs
  pyHash := fun hu hk h => wpAny_pyHash_tuple (by omega) hk h
  eqBool := fun {_ _ _ x y _ _ _} hu hx hy h => wpAny_eqBool_tuple (by omega) hx hy (by
    have e : decide ([x.1, x.2] = [y.1, y.2]) = decide (x = y) := by
      rw [decide_eq_decide]
      exact ⟨fun z => by simp at z; exact Prod.ext z.1 z.2, fun z => by rw [z]⟩
    rw [e]; exact h)
  quiet := fun hk h => wpAny_eqIsQuiet_tuple hk h
section
variable {X : Cx} {pins : List (Addr × Obj)} {σ : L2.St} {H : Hp} {s : Shared} {a b : Addr} {k : SpK}
noncomputable def SpAt (K : PySem.W.Frag) (H : Hp) (b : Addr) (k : SpK) : Prop := SqT K H b [.int k.1, .int k.2]
noncomputable abbrev SpE := SpK × Addr × V
noncomputable def dspF (P : Program) (w : World) (a : Addr) (xs : List SpE) : Heap → Prop := fun h => (a == sysModules) = false ∧ xs.length ≤ sizeLine ∧ (xs.map (·.1)).Nodup ∧ ∃ ys : List (SpK × Addr × Value),
  Paired (fun (p : SpE) (q : SpK × Addr × Value) => p.1 = q.1 ∧ p.2.1 = q.2.1 ∧ RelV p.2.2 q.2.2) xs ys ∧ ∃ o es ep, h.get? a = some o ∧ o.ExactDict ∧ o.data = .dict es ep ∧ es.toList = ys.map (entryOfKey (spotKind P w))
noncomputable def putS (xs : List SpE) (k : SpK) (b : Addr) (v : V) : List SpE := if (xs.any fun x => decide (x.1 = k)) = true then xs.map (fun x => if x.1 = k then (x.1, x.2.1, v) else x) else xs ++ [(k, b, v)]
noncomputable abbrev PrS := fun (p : SpE) (q : SpK × Addr × Value) => p.1 = q.1 ∧ p.2.1 = q.2.1 ∧ RelV p.2.2 q.2.2
noncomputable def valS (xs : List SpE) (k : SpK) : Option V := (xs.find? fun x => decide (x.1 = k)).map (·.2.2)
end
section
variable {X : Cx} {pins : List (Addr × Obj)} {σ : L2.St} {H : Hp} {s : Shared} {a b : Addr} {k : SpK}
end
section
variable {X : Cx}
noncomputable def tDsNew (X : Cx) : TE := fun _ H Q => ∀ p, H p = none → Q (.ref p) (upd H p (.ext (dspF X.prog X.w p [])))
structure DsAt (X : Cx) (H : Hp) (a b : Addr) (xs : List SpE) (k : SpK) : Prop where
  d : H a = some (.ext (dspF X.prog X.w a xs))
  ks : ∀ x ∈ xs, SpAt X.K H x.2.1 x.1
  key : SpAt X.K H b k
noncomputable def tDsGet (X : Cx) (td ty : TE) : TE := fun σ H Q => td σ H fun x H1 => ty σ H1 fun y H2 => ∃ a b xs k v, x = .ref a ∧ y = .ref b ∧ DsAt X H2 a b xs k ∧ valS xs k = some v ∧ Q v H2
noncomputable def sDsPut (X : Cx) (td ty tv : TE) : TS := fun D σ H => tv σ H fun v H1 => td σ H1 fun x H2 => ty σ H2 fun y H3 => ∃ a b xs k, x = .ref a ∧ y = .ref b ∧ DsAt X H3 a b xs k ∧ xs.length < sizeLine ∧ D.nx σ (upd H3 a (.ext (dspF X.prog X.w a (putS xs k b v))))
noncomputable def tDsSd (X : Cx) (to : TE) (t : TA) : TE := fun σ H Q => to σ H fun x H1 => ∃ a xs0, x = .ref a ∧ H1 a = some (.ext (dspF X.prog X.w a xs0)) ∧ t σ H1 fun vs H2 => ∃ b v xs k, vs = [.ref b, v] ∧ DsAt X H2 a b xs k ∧ xs.length < sizeLine ∧
  (∀ v', valS xs k = some v' → Q v' H2) ∧ (valS xs k = none → Q v (upd H2 a (.ext (dspF X.prog X.w a (putS xs k b v)))))
end
noncomputable def spD (k : SpK) : D := .tup [.int k.1, .int k.2]
section
variable {K : PySem.W.Frag} {H H' : Hp} {M : MH} {a b : Addr} {k : SpK}
theorem sp_of {v : V} (r : Rep K H (spD k) v) : ∃ b, v = .ref b ∧ SpAt K H b k := by
  unfold spD at r
  rw [Rep] at r
  obtain ⟨b, xs, rfl, hx, rs⟩ := r
  obtain ⟨v1, v2, rfl, r1, r2⟩ := reps2 rs
  rw [Rep] at r1 r2
  subst r1 r2
  exact ⟨b, rfl, hx⟩
theorem sp_rep (h : SpAt K H b k) : Rep K H (spD k) (.ref b) := by
  unfold spD
  rw [Rep]
  exact ⟨b, _, rfl, h, reps_ints [k.1, k.2]⟩
theorem SpAt.mono (g : Grow K H H') (h : SpAt K H b k) : SpAt K H' b k := by
  obtain ⟨b', e, r⟩ := sp_of ((sp_rep h).mono g)
  cases e
  exact r
noncomputable abbrev SpT := List (SpK × D)
noncomputable def dsA (kvs : SpT) : PySem.W.Frag → Hp → Addr → Prop := fun K H a => ∃ xs : List SpE, (∀ P w, H a = some (.ext (dspF P w a xs))) ∧ xs.map (·.1) = kvs.map (·.1) ∧ (∀ x ∈ xs, SpAt K H x.2.1 x.1) ∧ Reps K H (kvs.map (·.2)) (xs.map (·.2.2))
noncomputable def dsM (kvs : SpT) : MO := .gen (dsA kvs)
noncomputable def valD (kvs : SpT) (k : SpK) : Option D := (kvs.find? fun x => decide (x.1 = k)).map (·.2)
noncomputable def putD (kvs : SpT) (k : SpK) (d : D) : SpT := if (kvs.any fun x => decide (x.1 = k)) = true then kvs.map (fun x => if x.1 = k then (x.1, d) else x) else kvs ++ [(k, d)]
theorem Grow.ext {φ : Heap → Prop} {o : HO} (h : H a = some (.ext φ)) : Grow K H (upd H a o) := .put (fun xs e => by rw [h] at e; cases e) (fun u xs e => by rw [h] at e; cases e)
end
section
variable {X : Cx}
noncomputable def tDsNewD : TD := fun _ M Q => ∀ p, M p = none → Q (.ref p) (updM M p (dsM []))
noncomputable def tDsGetD (td ty : TD) : TD := fun δ M Q => td δ M fun x M1 => ty δ M1 fun y M2 => ∃ l kvs k d, x = .ref l ∧ y = spD k ∧ M2 l = some (dsM kvs) ∧ valD kvs k = some d ∧ Q d M2
noncomputable def tDsPutD (td ty tv : TD) : TSD := fun B δ M => tv δ M fun d M1 => td δ M1 fun x M2 => ty δ M2 fun y M3 => ∃ l kvs k, x = .ref l ∧ y = spD k ∧ M3 l = some (dsM kvs) ∧ kvs.length < 1000000 ∧ B.nx δ (updM M3 l (dsM (putD kvs k d)))
noncomputable def tDsSdD (to : TD) (t : TAD) : TD := fun δ M Q => to δ M fun x M1 => ∃ l kvs0, x = .ref l ∧ M1 l = some (dsM kvs0) ∧ t δ M1 fun ds M2 => ∃ kvs k d, ds = [spD k, d] ∧ M2 l = some (dsM kvs) ∧ kvs.length < 1000000 ∧ (∀ d', valD kvs k = some d' → Q d' M2) ∧ (valD kvs k = none → Q d (updM M2 l (dsM (putD kvs k d))))
end
end SE
set_option Elab.async false
set_option linter.all false
set_option maxRecDepth 100000
namespace SE
open SD PySem PySem.Spec PyProof.Rows L2
section
variable {prog : Program} {w : World} {A : Around} {E : Value → Shared → Prop} {s : Shared} {T : String} {r d : Addr} {n : Nat} {P : Nat → Value → Prop} {OK : Heap → Prop}
end
end SE
set_option Elab.async false
set_option linter.all false
set_option maxRecDepth 100000
namespace SE
open SD PySem PySem.Spec PyProof.Rows L2
section
variable {X : Cx}
noncomputable def rSortD : RC := fun ds M Q => match ds with
  | [.ref l] => ∃ kvs : SpT, M l = some (dsM kvs) ∧ Pb (kvs.map (·.1)) ∧ ∀ (z : Addr) (us' : List (Int × Int)), M z = none → us'.Perm (kvs.map (·.1)) → us'.Pairwise plt → Q (.ref z) (updM M z (.lst (us'.map prD)))
  | _ => False
end
end SE
set_option Elab.async false
set_option linter.all false
set_option maxRecDepth 100000
namespace SD
open PySem PySem.Spec PyProof.Rows L2
noncomputable def wlN (L : List Int) (u : Int × Int) : Nat → List Int
  | 0 => []
  | i + 1 => wlN L u i ++ (if prL L i = u ∧ (prL L i).1 ≠ (prL L i).2 then [(i : Int)] else [])
structure Nb (L : List Int) (i : Nat) (M0 M : MH) (c : Addr) (kvs : SE.SpT) (A : Int × Int → Addr) : Prop where
  d : M c = some (SE.dsM kvs)
  some : ∀ u, wlN L u i ≠ [] → SE.valD kvs u = Option.some (.ref (A u)) ∧ M (A u) = Option.some (.lst ((wlN L u i).map D.int)) ∧ A u ≠ c ∧ M0 (A u) = Option.none
  none : ∀ u, wlN L u i = [] → SE.valD kvs u = Option.none
  inj : ∀ u v, wlN L u i ≠ [] → wlN L v i ≠ [] → A u = A v → u = v
  nd : (kvs.map (·.1)).Nodup
theorem Nb.nil {L : List Int} {M0 M : MH} {c : Addr} (h : M c = Option.some (SE.dsM [])) : Nb L 0 M0 M c [] (fun _ => 0) := ⟨h, fun u z => absurd rfl z, fun u _ => rfl, fun u v z => absurd rfl z, List.nodup_nil⟩
end SD
set_option Elab.async false
set_option linter.all false
set_option maxRecDepth 100000
namespace SD
open PySem PySem.Spec PyProof.Rows L2
end SD
set_option Elab.async false
set_option linter.all false
set_option maxRecDepth 100000
namespace SD
open PySem PySem.Spec PyProof.Rows L2
theorem tupleText_up (ts : List Str) : (tupleText ts).length ≤ piled ts + 3 := by
  unfold tupleText
  rw [strLen_append, strLen_append]
  have e1 : ((("(" : String) : Str)).length = 1 := rfl
  have e3 : (((if ts.length == 1 then ",)" else ")" : String) : Str)).length ≤ 2 := by split <;> decide
  rw [e1]
  by_cases h : ts = []
  · subst h
    have : (Str.join ", " []).length = 0 := rfl
    omega
  · have := join_length_add ts h
    omega
theorem piled_up {n : Nat} : ∀ {ts : List Str}, (∀ t ∈ ts, t.length ≤ n) → piled ts ≤ ts.length * (n + 2)
  | [], _ => Nat.zero_le _
  | t :: ts, h => by
    have := piled_up (ts := ts) fun x hx => h x (by simp [hx])
    have := h t (by simp)
    rw [piled_cons, List.length_cons, Nat.succ_mul]
    omega
theorem shownAll_map {α : Type} (f : α → PyData) : ∀ l : List α, PyData.shownAll (l.map f) = l.map fun a => (f a).shown
  | [] => rfl
  | a :: l => by rw [List.map_cons, PyData.shownAll, shownAll_map f l]; rfl
end SD
set_option Elab.async false
set_option linter.all false
set_option maxRecDepth 100000
namespace SD
open PySem PySem.Spec PyProof.Rows L2
noncomputable def bP (L : List Int) (n : Nat) (u : Int × Int) : PyData := .tuple [.int u.1, .int u.2, .list ((wlN L u n).map PyData.int)]
noncomputable def aP (L : List Int) (n : Nat) (us : List (Int × Int)) (ins : List Int) : PyData := .tuple [.list (us.map (bP L n)), .list (ins.map PyData.int)]
section
variable {L : List Int} {n : Nat} (hn : n ≤ 40)
include hn
end
end SD
set_option Elab.async false
set_option linter.all false
set_option maxRecDepth 100000
namespace SD
open PySem PySem.Spec PyProof.Rows L2
structure CalV (P : Program) (w : World) (K : PySem.W.Frag) (mg : Str → Option Value) (base : Heap) (k : Nat) (g : Addr) (sp : SpD) (Mc : MH → Prop) : Prop where
  ex : ∃ Pg : Heap → Prop, (∀ (M : Model) h, Pg h → ∃ k, (k = Keeper.frame ∨ k = Keeper.machine ∨ k = Keeper.boundFrame) ∧ PySem.W.Looks M h (keeperOf (.ref g)) k) ∧
    ∀ (A : Around) (outer : List Env) (s : Shared) (H : Hp) (M : MH), Room k A → Env0 P w K mg base A outer s H → Abs K H M → Mc M → Pg s.heap ∧
      ∀ (us : List Value) (vs : List V) (Q : VK), Vals vs us → liftSp K sp vs H Q E0 → codeAny (model P w) A (.call (.ref g) ⟨us, []⟩) (CR CX0 outer P w H s Q E0) s
section
variable {P : Program} {w : World} {K : PySem.W.Frag} {mg : Str → Option Value} {base : Heap} {k : Nat} {g : Addr} {sp : SpD} {Mc : MH → Prop}
theorem CalV.mono {j : Nat} (h : CalV P w K mg base j g sp Mc) (l : j ≤ k) : CalV P w K mg base k g sp Mc :=
  let ⟨Pg, h1, h2⟩ := h.ex; ⟨Pg, h1, fun A outer s H M hr => h2 A outer s H M (hr.mono l)⟩
theorem Cal.val {x : Str} (C : Cal P w K mg base k x sp) (Mc : MH → Prop) : ∃ g, mg x = some (.ref g) ∧ CalV P w K mg base k g sp Mc := by
  obtain ⟨f, fd, ps, F, hm, hk, hb⟩ := C
  refine ⟨f, hm, ⟨fun h => K.In h, fun M h X => PySem.W.keeps_K hk h X, fun A outer s H M hr e0 _ _ => ?_⟩⟩
  have KX : K.In s.heap := e0.mod.kin.keeps fun b o e => (e0.bs b o e).1
  refine ⟨KX, fun us vs Q r h => ?_⟩
  have hl : (us ++ []).length = ps.length := by rw [List.append_nil, ← r.length]; exact F.len _ _ _ _ h
  have hbb := hb s us KX hl
  rw [List.append_nil] at hbb
  exact F.run A outer s H ⟨us, []⟩ us vs Q E0 hr e0 hbb r h
end
section
variable {X : Cx} {k : Nat} {x : Str} {i : Nat} {g : Addr} {sp : SpD} {Mc : MH → Prop} {p pos : Pos} {e : Expr} {es : List Expr} {t : TAD}
noncomputable def tCallV (sp : SpD) (Mc : MH → Prop) (i : Nat) (g : Addr) (t : TAD) : TD := fun δ M Q => δ[i]? = some (some (.ref g)) ∧ t δ M fun ds M1 => Mc M1 ∧ sp ds M1 Q
theorem de_callV (i : Nat) (C : CalV X.prog X.w X.K X.mg X.base k g sp Mc) (hr : Room k X.A) (ha : DA X (e :: es) t) (hN : X.N[i]? = some x := by rfl) (hv : Vis X.env.scope x := by first | exact Or.inl rfl | exact Or.inr (Or.inl rfl) | exact Or.inr (Or.inr rfl)) (hdb : (x == ("__debug__" : Str)) = false := by decide) (hcd : (x == ("__classdict__" : Str)) = false := by decide)
    (he : starEach (e :: es) X.env = (false, eval e X.env) :: starEach es X.env := by rfl) (hpl : (backTo pos (starEach es X.env)).any (·.1) = false := by rfl) : DE X (.Call (.Name x p) (e :: es) [] pos) (tCallV sp Mc i g t) := by
  obtain ⟨Pg, look, run⟩ := C.ex
  intro pins s σ H Q I h
  obtain ⟨δ, M, R, hs, hM, ⟨hi, q⟩, fin⟩ := h
  obtain ⟨v, hv1, hr1⟩ := hs.at' i _ hi
  rw [Rep] at hr1; subst hr1
  refine wpAny_Call_Name_kw (thn (pe_var (X := X) hN hv hdb hcd pins s σ H (fun v H1 => v = .ref g ∧ H1 = H) I ⟨_, hv1, rfl, rfl⟩) fun u s1 z => ?_)
  obtain ⟨v, H1, I1, rv, ev, eH⟩ := z
  subst ev; subst eH
  obtain rfl : u = Value.ref g := rv
  have key : wpAny (model X.prog X.w) X.A (spliced (backTo pos (starEach (e :: es) X.env))) (fun us s2 => Pg s2.heap ∧ wpAny (model X.prog X.w) X.A (call (.ref g) ([] ++ us)) (EP X pins σ Q) X.xe s2) X.xe s1 := by
    refine thn (ha pos pins s1 σ H1 _ I1 ⟨δ, M, _, hs, hM, q, fun ds M1 vs H2 g1 r1 a1 q1 => (show liftSp X.K sp vs H2 Q E0 ∧ ∃ M1, Abs X.K H2 M1 ∧ Mc M1 from ⟨⟨ds, M1, R, r1, a1, q1.2, fin.go g1⟩, M1, a1, q1.1⟩)⟩) fun us s2 z => ?_
    obtain ⟨vs, H2, I2, r2, q2, M1, a1, c1⟩ := z
    obtain ⟨h1, h2⟩ := run X.A X.stack s2 H2 M1 hr I2.env0 a1 c1
    refine ⟨h1, wpAny_call (codeAny_mono (h2 us vs Q r2 q2) fun r s' hq => ?_)⟩
    cases r with
    | error e => exact False.elim hq
    | ok fl =>
      cases fl with
      | ret u => exact I2.after hq
      | next => exact False.elim hq
      | brk => exact False.elim hq
      | cont => exact False.elim hq
  rw [he] at key ⊢
  exact PySem.W.callWith_of (by show ((false || (backTo pos (starEach es X.env)).any (·.1)) || false) = false; rw [hpl]; rfl) (look (model X.prog X.w)) (Calls.evalArgs_plain key)
theorem de_globF {a : Addr} (hm : X.mg x = some (.ref a)) (hg : Gl X x := by rfl) (hd : (x == ("__debug__" : Str)) = false := by decide) : DE X (.Name x pos) (tCD (.ref a)) :=
  pe_imp (pe_glob (v := .ref a) hg hm rfl hd) fun σ H Q z => by
    obtain ⟨δ, M, R, hs, hM, q, fin⟩ := z
    exact fin _ _ _ _ .refl (by rw [Rep]) hM q
end
end SD
set_option Elab.async false
set_option linter.all false
set_option maxRecDepth 100000
namespace SD
open PySem PySem.Spec PyProof.Rows L2
noncomputable abbrev lamEnv (scope : Scope) (L : Addr) (cl : List (Str × Addr)) (qual : Str) (g : Addr) (cd : Value) : Env := newEnv scope L mainGlobals cl (qual ++ ".<locals>.") (some g) cd none builtinsNs
noncomputable def cxLam (P : Program) (w : World) (K : PySem.W.Frag) (mg : Str → Option Value) (base : Heap) (N : List Str) (qual : Str) (scope : Scope) (cl : List (Str × Addr)) (g : Addr) (cd : Value) (A : Around) (outer : List Env) (s : Shared) (H : Hp) : Cx where
  prog := P
  w := w
  K := K
  mg := mg
  base := base
  A := A.deeper (lamEnv scope s.heap.objs.size cl qual g cd)
  N := N
  s₀ := s
  H₀ := H
  env := lamEnv scope s.heap.objs.size cl qual g cd
  outer := outer
  stack := lamEnv scope s.heap.objs.size cl qual g cd :: outer
  ex := []
  calm := true
  fn := fun _ => false
  pn := []
  xe := fun _ _ => False
structure LamScope (x y : Str) (sc : Scope) : Prop where
  kind : sc.kind = .function
  co : sc.isCoroutine = false
  gen : sc.isGenerator = false
  ne : x ≠ y
  hx : sc.names.lookup x = some .local
  hy : sc.names.lookup y = some .free
  only : ∀ z ∈ sc.names, z.2 = .free → z.1 = y
  nocell : ∀ z ∈ sc.names, z.2 ≠ .cell
section
variable {P : Program} {w : World} {K : PySem.W.Frag} {mg : Str → Option Value} {base : Heap} {qual : Str} {scope : Scope} {g c : Addr} {cd : Value} {A : Around} {outer : List Env} {s : Shared} {H : Hp} {x y : Str}
theorem inv_lam {h' : Heap} {tk : Nat} {oc : Obj} {u1 u2 : Value} {v1 v2 : V} (S : LamScope x y scope) (hd : A.handled = none) (e0 : Env0 P w K mg base A outer s H) (hc : base.get? c = some oc) (hcd : oc.data = .cell (some u2)) (r1 : RelV v1 u1) (r2 : RelV v2 u2)
    (hns : h'.Ns s.heap.objs.size fun z => [(x, u1)].reverse.lookup z) (hk : ∀ b o, s.heap.get? b = some o → h'.get? b = some o) :
    Inv (cxLam P w K mg base [x, y] qual scope [(y, c)] g cd A outer s H) [] [some v1, some v2] H { s with heap := h', toks := tk } := by
  have noA : ∀ b : Addr, b ∉ (cxLam P w K mg base [x, y] qual scope [(y, c)] g cd A outer s H).ex := fun b z => absurd (show b ∈ ([] : List Addr) from z) (by simp)
  have one : ∀ {z : Str} {d : Addr}, ([(y, c)] : List (Str × Addr)).lookup z = some d → z = y ∧ d = c := fun {z d} e => by
    have := PySem.mem_of_lookup e
    simpa using this
  have cel : h'.IsCell c (some u2) := ⟨oc, hk _ _ (e0.bs c oc hc).1, hcd⟩
  refine ⟨⟨e0.mod, S.kind, rfl, rfl, Nat.le_refl _, fun a b d h1 h2 => ?_, fun z hz => ?_, fun z d h _ => Bool.noConfusion h, fun _ => hd, Around.frames_deeper e0.frames, .inr ⟨rfl, rfl⟩, fun b z => absurd z (noA b), e0.bs, e0.bsz, fun b _ _ => noA b, fun b z => absurd z (noA b), e0.funs, e0.frf⟩,
    rfl, e0.bare, Un.kept hk, ⟨_, hns, fun i z v h1 h2 h3 => ?_⟩, fun z d h => ?_, e0.hok.fresh (Nat.le_refl _), fun z d h => ?_, fun p hp => absurd (show p ∈ ([] : List (Addr × Obj)) from hp) (by simp), e0.hok.kept hk, rfl⟩
  · rw [(one h1).1, (one h2).1]
  · have hz : scope.names.lookup z = some .cell ∨ scope.names.lookup z = some .free := hz
    rcases hz with hz | hz
    · exact absurd rfl (S.nocell _ (PySem.mem_of_lookup hz))
    · have := S.only _ (PySem.mem_of_lookup hz) rfl
      subst this
      exact ⟨c, by show ([(z, c)] : List (Str × Addr)).lookup z = some c; simp⟩
  · match i, h1, h2 with
    | 0, h1, h2 =>
      cases (show some x = some z from h1)
      cases (show some (some v1) = some (some v) from h2)
      exact ⟨u1, r1, .inl ⟨S.hx, by show ([(x, u1)] : List (Str × Value)).reverse.lookup x = some u1; simp⟩⟩
    | 1, h1, h2 =>
      cases (show some y = some z from h1)
      cases (show some (some v2) = some (some v) from h2)
      exact ⟨u2, r2, .inr ⟨.inr S.hy, c, by show ([(y, c)] : List (Str × Addr)).lookup y = some c; simp, cel⟩⟩
    | n + 2, h1, _ => exact absurd (show ([] : List Str)[n]? = some z from h1) (by simp)
  · obtain ⟨rfl, rfl⟩ := one h
    exact ⟨_, cel⟩
  · obtain ⟨rfl, rfl⟩ := one h
    exact (e0.bs _ _ hc).2
theorem lam_run {k : Nat} {name : Str} {params : Arguments} {body : Expr} {pm ctv : Value} {c' : Addr} {oc : Obj} {u1 u2 : Value} {v1 v2 : V} {t : TE} {Q : VK} (S : LamScope x y scope) (hr : Room (k + 1) A) (e0 : Env0 P w K mg base A outer s H) (hc : base.get? c = some oc) (hcd : oc.data = .cell (some u2)) (r1 : RelV v1 u1) (r2 : RelV v2 u2)
    (hg : s.heap.get? g = some (PySem.W.kla_obj name qual params body scope [(y, c)] pm c' ctv)) (hrec : s.heap.CodeRec (.ref c') qual)
    (hb : bindArgs (PySem.W.kla_fn name qual params body scope [(y, c)] pm (.ref c') ctv) ⟨[u1], []⟩ = pure [(x, u1)])
    (ht : PE (cxLam P w K mg base [x, y] qual scope [(y, c)] g (.ref c') A outer s H) body t) (hq : t [some v1, some v2] H Q) :
    codeAny (model P w) A (.call (.ref g) ⟨[u1], []⟩) (CR CX0 outer P w H s Q E0) s := by
  refine PySem.W.kla_callFunE hr.depth hg rfl S.co S.gen rfl hrec ?_
  rw [hb]
  have lim : s.heap.NoLimit := e0.mod.nolimit.keeps fun b o e => (e0.bs b o e).1
  refine wpAny_pure (wpAny_newFunctionEnv S.nocell (fun z hz => ?_) (fun h' hns hsb => ?_) S.kind)
  · have : z = (x, u1) := by simpa using hz
    rw [this]; exact S.hx
  have hk : ∀ b o, s.heap.get? b = some o → h'.get? b = some o := fun b o e => hsb.extBut b o (Nat.ne_of_lt (Heap.lt_size e)) (Heap.get?_push_of_some _ e)
  refine ⟨lim.keeps hk, PySem.W.kla_codeExpr ?_⟩
  have I := inv_lam (qual := qual) (g := g) (cd := .ref c') (tk := s.toks + [(x, u1)].length) S hr.hd e0 hc hcd r1 r2 hns hk
  refine wpAny_mono (ht [] _ _ _ _ I hq) (fun u s' z => ?_) (fun e s' z => False.elim z)
  obtain ⟨v, H', J, rv, q⟩ := z
  exact ⟨v, H', J.os, J.bare, J.base, J.hok, rv, q⟩
end
noncomputable def fobT (a : Addr) (o : Obj) : Heap → Prop := fun h => h.get? a = some o
noncomputable def recT (a : Addr) (q : Str) : Heap → Prop := fun h => h.CodeRec (.ref a) q
noncomputable def lamO (o : Obj) (d : D) (v : V) : MO := .gen fun K H a => H a = some (.ext (fobT a o)) ∧ Rep K H d v
noncomputable def recO (q : Str) : MO := .gen fun _ H a => H a = some (.ext (recT a q))
noncomputable def tabO (ps : Array Value) : MO := .gen fun _ H a => H a = some (.tbl ps)
section
variable {P : Program} {w : World} {K : PySem.W.Frag} {mg : Str → Option Value} {base : Heap} {qual : Str} {scope : Scope} {g c : Addr} {x y : Str}
theorem lam_val {k : Nat} {name : Str} {params : Arguments} {body : Expr} {pm ctv : Value} {c' : Addr} {oc : Obj} {u2 : Value} {v2 : V} {d2 : D} {sp : SpD} (S : LamScope x y scope) (hc : base.get? c = some oc) (hcd : oc.data = .cell (some u2)) (r2 : RelV v2 u2)
    (hb : ∀ u1, bindArgs (PySem.W.kla_fn name qual params body scope [(y, c)] pm (.ref c') ctv) ⟨[u1], []⟩ = pure [(x, u1)]) (len : ∀ ds M Q, sp ds M Q → ds.length = 1)
    (ht : ∀ (A : Around) (outer : List Env) (s : Shared) (H : Hp), Room k (A.deeper (lamEnv scope s.heap.objs.size [(y, c)] qual g (.ref c'))) → ∃ t, DE (cxLam P w K mg base [x, y] qual scope [(y, c)] g (.ref c') A outer s H) body t ∧ ∀ d1 M Q, sp [d1] M Q → t [some d1, some d2] M Q) :
    CalV P w K mg base (k + 1) g sp (fun M => M g = some (lamO (PySem.W.kla_obj name qual params body scope [(y, c)] pm c' ctv) d2 v2) ∧ M c' = some (recO qual)) := by
  refine ⟨fobT g (PySem.W.kla_obj name qual params body scope [(y, c)] pm c' ctv), fun M h z => ⟨.frame, .inl rfl, (PySem.W.Looks.ld (part := none) z).andThen .now⟩, fun A outer s H M hr e0 hM hc0 => ?_⟩
  obtain ⟨hg, hr0⟩ := hc0
  obtain ⟨⟨hg1, rd⟩, _⟩ := hM _ _ hg
  obtain ⟨hr1, _⟩ := hM _ _ hr0
  obtain ⟨f1, _⟩ := e0.hok _ _ hg1
  obtain ⟨f2, _⟩ := e0.hok _ _ hr1
  refine ⟨f1, fun us vs Q r z => ?_⟩
  obtain ⟨ds, M1, R, rs, a1, q, fin⟩ := z
  obtain ⟨d1, rfl⟩ : ∃ d1, ds = [d1] := by
    have := len _ _ _ q
    match ds, this with
    | [d1], _ => exact ⟨d1, rfl⟩
  obtain ⟨v1, rfl, rv1⟩ := reps1 rs
  obtain ⟨u1, rfl, ru1⟩ := vals1 r
  obtain ⟨t, h1, h2⟩ := ht A outer s H (hr.deeper _)
  refine lam_run (t := lift K t) (v2 := v2) S hr e0 hc hcd ru1 r2 f1 f2 (hb u1) h1 ⟨[some d1, some d2], M1, R, ⟨rfl, fun i d e => ?_⟩, a1, h2 d1 M1 R q, fin⟩
  match i, e with
  | 0, e => cases (show some (some d1) = some (some d) from e); exact ⟨v1, rfl, rv1⟩
  | 1, e => cases (show some (some d2) = some (some d) from e); exact ⟨v2, rfl, rd⟩
  | n + 2, e => exact absurd (show ([] : List (Option D))[n]? = some (some d) from e) (by simp)
end
end SD
set_option Elab.async false
set_option linter.all false
set_option maxRecDepth 100000
namespace SD
open PySem PySem.Spec PyProof.Rows L2
noncomputable def pinH (b : Heap) (c : Addr) : Hp := fun a => if (b.get? a).isSome = true ∨ a = c then none else some (.tbl #[])
theorem pin_in {b : Heap} {c a : Addr} (h : (b.get? a).isSome = true ∨ a = c) : pinH b c a = none := if_pos h
theorem pin_of {b : Heap} {c a : Addr} (h : pinH b c a = none) : (b.get? a).isSome = true ∨ a = c := by
  by_cases z : (b.get? a).isSome = true ∨ a = c
  · exact z
  · unfold pinH at h; rw [if_neg z] at h; cases h
theorem fun_base2 {h base base' : Heap} : ∀ {l : List Env}, h.FunFrames base l → (∀ b ∈ frs l, base'.get? b = none) → h.FunFrames base' l
  | [], _, _ => trivial
  | env :: r, z, n => by
    obtain ⟨hk, ⟨L, o, hf, hn, ho, hd⟩, hr⟩ := z
    have e : frs (env :: r) = L :: frs r := by unfold frs; rw [List.filterMap_cons, hf]
    rw [e] at n
    exact ⟨hk, ⟨L, o, hf, n L List.mem_cons_self, ho, hd⟩, fun_base2 hr fun b hb => n b (List.mem_cons_of_mem _ hb)⟩
section
variable {X : Cx} {pins : List (Addr × Obj)} {σ : L2.St} {H : Hp} {s : Shared} {y : Str} {c : Addr}
theorem env_pin (I : Inv X pins σ H s) (hfn : X.fn y = true) (hc : X.env.cells.lookup y = some c) : Env0 X.prog X.w X.K X.mg (hidT s.heap (pinH X.base c)) X.A X.stack s H := by
  have e0 := I.env0
  have kb : ∀ b o, X.base.get? b = some o → (hidT s.heap (pinH X.base c)).get? b = some o := fun b o e => hidT_get (I.bk b o e) (pin_in (.inl (by rw [e]; rfl)))
  have nf : ∀ b ∈ frs X.stack, (hidT s.heap (pinH X.base c)).get? b = none := fun b hb => by
    cases e : (hidT s.heap (pinH X.base c)).get? b with
    | none => rfl
    | some o =>
      exfalso
      obtain ⟨e1, e2⟩ := of_hidT e
      rcases pin_of e2 with z | z
      · have := (e0.funs.mem (show b ∈ X.stack.filterMap (·.frame) from hb)).1
        rw [this] at z; cases z
      · subst z
        rcases List.mem_cons.mp (I.stkSub b hb) with q | q
        · exact I.cne y b hc q
        · obtain ⟨_, o', ho', _⟩ := I.ok.funs.mem (show b ∈ X.outer.filterMap (·.frame) from q)
          exact absurd (Nat.lt_of_lt_of_le (Heap.lt_size ho') (I.ok.cab y b hfn hc)) (Nat.lt_irrefl _)
  obtain ⟨mb, h1, h2⟩ := e0.mod.blt
  refine ⟨e0.frames, ⟨e0.mod.kin.keeps kb, e0.mod.glob.keeps kb, ⟨mb, h1.keeps kb, h2⟩, e0.mod.nolimit.keeps kb⟩, fun b o e => ?_, Nat.le_of_eq (hidT_size _ _), fun_base2 e0.funs nf, e0.frf, e0.hok, e0.bare⟩
  obtain ⟨e1, e2⟩ := of_hidT e
  refine ⟨e1, ?_⟩
  rcases pin_of e2 with z | z
  · obtain ⟨o', ho'⟩ := Option.isSome_iff_exists.mp z
    exact (I.bs b o' ho').2
  · subst z; exact I.freeC y b hc
theorem call_pin {k : Nat} {f : Addr} {fd : FuncData} {ps : List Str} {sp : Sp} {us : List Value} {vs : List V} {Q : VK} (I : Inv X pins σ H s) (hfn : X.fn y = true) (hc : X.env.cells.lookup y = some c)
    (F : FnOk X.prog X.w X.K X.mg (hidT s.heap (pinH X.base c)) CX0 k f fd ps sp) (hr : Room k X.A) (hb : Binds X.K fd ps []) (r : Vals vs us) (h : sp vs H Q E0) : wpAny (model X.prog X.w) X.A (call (.ref f) us) (EP X pins σ Q) X.xe s := by
  have hl : (us ++ []).length = ps.length := by rw [List.append_nil, ← r.length]; exact F.len _ _ _ _ h
  have hbb := hb s us I.kIn hl
  rw [List.append_nil] at hbb
  refine wpAny_call (codeAny_mono (F.run X.A X.stack s H ⟨us, []⟩ us vs Q E0 hr (env_pin I hfn hc) hbb r h) fun r s' hq => ?_)
  cases r with
  | error e => exact False.elim hq
  | ok fl =>
    cases fl with
    | ret u => exact I.after hq
    | next => exact False.elim hq
    | brk => exact False.elim hq
    | cont => exact False.elim hq
end
structure Mk (K : PySem.W.Frag) (mg : Str → Option Value) (c0 Pt : Addr) : Prop where
  hd : PySem.W.codeHdIn K c0 Pt = true
  bm : ∃ bm o, mg "__builtins__" = some (.ref bm) ∧ bm ≠ builtinsNs ∧ bm ≠ mainGlobals ∧ K.lookup bm = some o ∧ o.cls = .type "module" ∧ o.dict = some builtinsNs ∧ o.data = .plain
noncomputable def tab1 (pos : Pos) (c' : Addr) : Array Value := #[rawInt pos.line, rawInt pos.col, .ref c']
noncomputable def TabM (q : Str) (Pt : Addr) (pos : Pos) (M : MH) : Prop := M Pt = some (tabO #[]) ∨ ∃ c', M Pt = some (tabO (tab1 pos c')) ∧ M c' = some (recO q) ∧ c' ≠ Pt
noncomputable def SubT (Pt : Addr) (M M' : MH) : Prop := ∀ a o, a ≠ Pt → M a = some o → M' a = some o
section
variable {X : Cx} {pins : List (Addr × Obj)} {σ : L2.St} {H : Hp} {s : Shared} {c0 Pt : Addr}
theorem mk_blt (I : Inv X pins σ H s) (m : Mk X.K X.mg c0 Pt) (hP : H Pt ≠ none) : s.heap.BuiltinsAt X.mg Pt := by
  obtain ⟨bm, o, h1, h2, h3, h4, h5⟩ := m.bm
  refine ⟨bm, o, h1, h2, h3, fun z => ?_, I.kIn _ _ h4, h5⟩
  subst z
  exact hP (I.bs _ _ (I.mod.kin _ _ h4)).2
theorem mk_ne (I : Inv X pins σ H s) (hP : H Pt ≠ none) : mainGlobals ≠ Pt := fun z => by
  obtain ⟨o, es, ep, e, _⟩ := I.mod.glob
  rw [z] at e
  exact hP (I.bs _ _ e).2
theorem fob_ok {P : Program} {w : World} {H' : Hp} {h : Heap} {a : Addr} {o : Obj} (e : h.get? a = some o) : ObjOk P w H' h a (.ext (fobT a o)) := ⟨e, ⟨o, e⟩, fun h1 h2 z k => k o z⟩
theorem rec_ok {P : Program} {w : World} {H' : Hp} {h : Heap} {a : Addr} {q : Str} (e : h.CodeRec (.ref a) q) : ObjOk P w H' h a (.ext (recT a q)) := by
  refine ⟨e, ?_, fun h1 h2 z k => ?_⟩
  · obtain ⟨c, oc, vs, tq, hc, ho, _⟩ := e
    cases hc; exact ⟨oc, ho⟩
  · obtain ⟨c, oc, vs, tq, hc, ho, r⟩ := z
    cases hc
    exact ⟨a, oc, vs, tq, rfl, k oc ho, r⟩
theorem inv_hit {h' : Heap} {tk : Nat} {o : Obj} (hfr : o.isFreed = false) (I : Inv X pins σ H s) (k : ∀ b u, s.heap.get? b = some u → h'.get? b = some u) (hsz : s.heap.objs.size ≤ h'.objs.size) : H h'.objs.size = none ∧ Inv X pins σ (upd H h'.objs.size (.ext (fobT h'.objs.size o))) { s with heap := h'.push o, toks := tk } := by
  have hn : H h'.objs.size = none := I.hok.fresh hsz
  exact ⟨hn, I.laid (t' := tk) (h' := h'.push o) (fun b u e => Heap.get?_push_of_some _ (k b u e)) hsz (fob_ok (Heap.get?_push_size _ hfr))⟩
theorem inv_miss {h' : Heap} {tk : Nat} {o : Obj} {q : Str} {c' : Addr} {ps more : Array Value} (hfr : o.isFreed = false) (I : Inv X pins σ H s) (hP : H Pt = some (.tbl ps)) (hx : Heap.ExtBut Pt s.heap h') (h1 : s.heap.objs.size ≤ c') (h2 : c' < h'.objs.size) (hr : h'.CodeRec (.ref c') q)
    (ht : h'.get? Pt = some (PySem.W.tabObj (ps ++ more))) : H c' = none ∧ H h'.objs.size = none ∧ Inv X pins σ (upd (upd (upd H Pt (.tbl (ps ++ more))) c' (.ext (recT c' q))) h'.objs.size (.ext (fobT h'.objs.size o))) { s with heap := h'.push o, toks := tk } := by
  have hPs : Pt < s.heap.objs.size := (I.hok _ _ hP).lt
  have hc : H c' = none := I.hok.fresh h1
  have hg : H h'.objs.size = none := I.hok.fresh (Nat.le_trans h1 (Nat.le_of_lt h2))
  have n1 : c' ≠ Pt := fun z => by rw [z, hP] at hc; cases hc
  have n2 : h'.objs.size ≠ Pt := fun z => by rw [z, hP] at hg; cases hg
  have n3 : c' ≠ h'.objs.size := Nat.ne_of_lt h2
  have old : ∀ {b : Addr} {u : HO}, H b = some u → b ≠ Pt → upd (upd (upd H Pt (.tbl (ps ++ more))) c' (.ext (recT c' q))) h'.objs.size (.ext (fobT h'.objs.size o)) b = some u := fun {b u} e n => by
    rw [upd_ne (fun z => by rw [z, hg] at e; cases e), upd_ne (fun z => by rw [z, hc] at e; cases e), upd_ne n]; exact e
  have oldN : ∀ {b : Addr}, H b = none → b < s.heap.objs.size → upd (upd (upd H Pt (.tbl (ps ++ more))) c' (.ext (recT c' q))) h'.objs.size (.ext (fobT h'.objs.size o)) b = none := fun {b} e l => by
    have y1 : b ≠ h'.objs.size := fun z => by rw [z] at l; exact absurd l (Nat.not_lt.mpr (Nat.le_trans h1 (Nat.le_of_lt h2)))
    have y2 : b ≠ c' := fun z => by rw [z] at l; exact absurd l (Nat.not_lt.mpr h1)
    have y3 : b ≠ Pt := fun z => by rw [z, hP] at e; cases e
    rw [upd_ne y1, upd_ne y2, upd_ne y3]; exact e
  refine ⟨hc, hg, I.un (t' := tk) ⟨fun b u e n _ _ => ?_, fun b u e n _ _ => ⟨u.slots, ?_⟩, fun b u e n _ => oldN n (Heap.lt_size e), fun b u e _ => ?_, fun b xs e => old e (fun z => by rw [z, hP] at e; cases e), fun b u xs e => old e (fun z => by rw [z, hP] at e; cases e), fun b qs e => ?_⟩ fun b u e => ?_⟩
  · exact Heap.get?_push_of_some _ (hx b u (fun z => by rw [z, hP] at n; cases n) e)
  · exact Heap.get?_push_of_some _ (hx b u (fun z => by rw [z, hP] at n; cases n) e)
  · by_cases z : b = Pt
    · subst z; exact ⟨_, Heap.get?_push_of_some _ ht⟩
    · exact ⟨u, Heap.get?_push_of_some _ (hx b u z e)⟩
  · by_cases z : b = Pt
    · subst z
      rw [hP] at e; cases e
      exact ⟨more, by rw [upd_ne n2.symm, upd_ne n1.symm, upd_same]⟩
    · exact ⟨#[], by rw [old e z]; simp⟩
  · by_cases z1 : b = h'.objs.size
    · subst z1
      rw [upd_same] at e; cases e
      exact fob_ok (Heap.get?_push_size _ hfr)
    · rw [upd_ne z1] at e
      by_cases z2 : b = c'
      · subst z2
        rw [upd_same] at e; cases e
        obtain ⟨c, oc, vs, tq, hc', ho, r⟩ := hr
        cases hc'
        exact rec_ok ⟨b, oc, vs, tq, rfl, Heap.get?_push_of_some _ ho, r⟩
      · rw [upd_ne z2] at e
        by_cases z3 : b = Pt
        · subst z3
          rw [upd_same] at e; cases e
          exact Heap.get?_push_of_some _ ht
        · rw [upd_ne z3] at e
          refine (I.hok b u e).stay (fun d v hd g => Heap.get?_push_of_some _ (hx d v ?_ g)) (fun d g => old g (fun z => by rw [z, hP] at g; cases g)) fun d xs g => old g (fun z => by rw [z, hP] at g; cases g)
          rcases hd with hd | hd
          · rw [hd]; exact z3
          · intro z; rw [z, hP] at hd; cases hd
end
end SD
set_option Elab.async false
set_option linter.all false
set_option maxRecDepth 100000
namespace SD
open PySem PySem.Spec PyProof.Rows L2
theorem Abs.putG {K : PySem.W.Frag} {H : Hp} {M : MH} {a : Addr} {o : HO} {A : PySem.W.Frag → Hp → Addr → Prop} (h : Abs K H M) (g : Grow K H (upd H a o)) (z : A K (upd H a o) a) (st : ∀ H', Grow K (upd H a o) H' → H' a = some o → A K H' a) : Abs K (upd H a o) (updM M a (.gen A)) := fun b u e => by
  by_cases ne : b = a
  · subst ne
    rw [updM_same] at e; cases e
    exact ⟨z, by rw [upd_same]; simp, fun H' g' e' => st H' g' (by rw [e', upd_same])⟩
  · rw [updM_ne ne] at e
    exact (h b u e).stay g (upd_ne ne)
theorem clOf_one {names : List (Str × NameKind)} {env : Env} {y : Str} {c : Addr} (hf : (names.filter fun z => z.2 == .free) = [(y, .free)]) (hc : env.cells.lookup y = some c) : clOf names env = [(y, c)] := by
  unfold clOf
  rw [hf]
  simp [hc]
noncomputable def tCallLam (q : Str) (Pt : Addr) (lpos : Pos) (j : Nat) (spw : Addr → D → (MH → Prop) → SpD) (te : TD) : TD := fun δ M Q => te δ M fun d1 M1 => ∃ d2, δ[j]? = some (some d2) ∧ TabM q Pt lpos M1 ∧ ∀ g Mc M2, (∀ M3, Sub M2 M3 → Mc M3) → TabM q Pt lpos M2 → SubT Pt M1 M2 → spw g d2 Mc [d1, .ref g] M2 Q
section
variable {X : Cx} {x y lx : Str} {j k kk : Nat} {params : Arguments} {body : Expr} {lscope : Scope} {lpos p pos : Pos} {e1 : Expr} {te : TD} {c0 Pt : Addr} {spg : D → SpD} {spw : Addr → D → (MH → Prop) → SpD}
theorem lam_made {pins : List (Addr × Obj)} {σ : L2.St} {H : Hp} {s : Shared} {M : MH} {c : Addr} {d2 : D} {v2 : V} {Q : Value → Shared → Prop} (hcode : X.env.code = .ref c0) (m : Mk X.K X.mg c0 Pt) (hfil : (lscope.names.filter fun z => z.2 == .free) = [(y, .free)]) (hall : ∀ z ∈ lscope.names, z.2 = .free → z.1 = y)
    (hdef : defaultsOf params X.env = ([], [])) (I : Inv X pins σ H s) (hM : Abs X.K H M) (hc : X.env.cells.lookup y = some c) (ht : TabM (X.env.qual ++ "<lambda>") Pt lpos M) (rd : Rep X.K H d2 v2)
    (h : ∀ g c' ctv pm H' M' s', Inv X pins σ H' s' → Grow X.K H H' → Abs X.K H' M' → M' g = some (lamO (PySem.W.kla_obj "<lambda>" (X.env.qual ++ "<lambda>") params body lscope [(y, c)] pm c' ctv) d2 v2) → M' c' = some (recO (X.env.qual ++ "<lambda>")) →
      TabM (X.env.qual ++ "<lambda>") Pt lpos M' → SubT Pt M M' → Q (.ref g) s') :
    wpAny (model X.prog X.w) X.A (eval (.Lambda params body lscope lpos) X.env) Q X.xe s := by
  refine PySem.W.kla_eval hdef ?_
  have hcl : closureFor lscope X.env = pure [(y, c)] := by
    rw [closure_eq (fun z hz hk => ⟨c, by rw [hall z hz hk]; exact hc⟩), clOf_one hfil hc]
  have hgs : s.heap.Ns mainGlobals X.mg := I.mod.glob.keeps I.bk
  have C := PySem.W.codeHd_of_K I.kIn m.hd
  rcases ht with ht | ⟨c1, ht, hr1, nc1⟩
  · obtain ⟨hP, _⟩ := hM _ _ ht
    have hP' : s.heap.get? Pt = some (PySem.W.tabObj #[]) := I.hok _ _ hP
    have hPn : H Pt ≠ none := by rw [hP]; simp
    refine PySem.W.kla_makeFunction (mg := X.mg) hcl I.ok.glob hgs hcode C hP' trivial rfl (mk_ne I hPn) (mk_blt I m hPn) fun c' ctv h' tk hx h1 h2 hrec htb => ?_
    obtain ⟨n1, n2, I2⟩ := inv_miss (o := PySem.W.kla_obj "<lambda>" (X.env.qual ++ "<lambda>") params body lscope [(y, c)] ((X.mg "__name__").getD .none) c' ctv) (tk := tk) rfl I hP hx h1 h2 hrec htb
    have nc : c' ≠ Pt := fun z => by rw [z, hP] at n1; cases n1
    have ng : h'.objs.size ≠ Pt := fun z => by rw [z, hP] at n2; cases n2
    have ncg : h'.objs.size ≠ c' := (Nat.ne_of_lt h2).symm
    have g1 : Grow X.K H (upd H Pt (.tbl (#[] ++ #[rawInt lpos.line, rawInt lpos.col, .ref c']))) := .put (fun xs e => by rw [hP] at e; cases e) (fun u xs e => by rw [hP] at e; cases e)
    have g2 := Grow.new (K := X.K) (o := .ext (recT c' (X.env.qual ++ "<lambda>"))) (show (upd H Pt (.tbl (#[] ++ #[rawInt lpos.line, rawInt lpos.col, .ref c']))) c' = none by rw [upd_ne nc]; exact n1)
    have g3 := Grow.new (K := X.K) (o := .ext (fobT h'.objs.size (PySem.W.kla_obj "<lambda>" (X.env.qual ++ "<lambda>") params body lscope [(y, c)] ((X.mg "__name__").getD .none) c' ctv))) (show (upd (upd H Pt (.tbl (#[] ++ #[rawInt lpos.line, rawInt lpos.col, .ref c']))) c' (.ext (recT c' (X.env.qual ++ "<lambda>")))) h'.objs.size = none by rw [upd_ne ncg, upd_ne ng]; exact n2)
    have gg := (g1.trans g2).trans g3
    have a1 := hM.putG (A := fun _ H a => H a = some (.tbl (tab1 lpos c'))) g1 upd_same (fun H' _ e => e)
    have a2 := a1.putG (A := fun _ H a => H a = some (.ext (recT a (X.env.qual ++ "<lambda>")))) g2 upd_same (fun H' _ e => e)
    have a3 := a2.putG (A := fun K H a => H a = some (.ext (fobT a (PySem.W.kla_obj "<lambda>" (X.env.qual ++ "<lambda>") params body lscope [(y, c)] ((X.mg "__name__").getD .none) c' ctv))) ∧ Rep K H d2 v2) g3 ⟨upd_same, rd.mono gg⟩ (fun H' g' e => ⟨e, (rd.mono gg).mono g'⟩)
    have m1 := hM.fresh n1
    have m2 := hM.fresh n2
    refine h _ c' ctv _ _ _ _ I2 gg a3 updM_same (by rw [updM_ne ncg.symm, updM_same]; rfl) (.inr ⟨c', by rw [updM_ne ng.symm, updM_ne nc.symm, updM_same]; rfl, by rw [updM_ne ncg.symm, updM_same]; rfl, nc⟩) fun a o na e => ?_
    rw [updM_ne (fun z => by rw [z, m2] at e; cases e), updM_ne (fun z => by rw [z, m1] at e; cases e), updM_ne na]; exact e
  · obtain ⟨hP, _⟩ := hM _ _ ht
    have hP' : s.heap.get? Pt = some (PySem.W.tabObj (tab1 lpos c1)) := I.hok _ _ hP
    have hPn : H Pt ≠ none := by rw [hP]; simp
    refine PySem.W.kla_makeFunctionHit (mg := X.mg) (cv := .ref c1) hcl I.ok.glob hgs hcode C hP' trivial (by unfold tab1 rawInt codeAmong; simp) (mk_blt I m hPn) fun ctv h' tk hk hsz => ?_
    obtain ⟨n2, I2⟩ := inv_hit (o := PySem.W.kla_obj "<lambda>" (X.env.qual ++ "<lambda>") params body lscope [(y, c)] ((X.mg "__name__").getD .none) c1 ctv) (tk := tk) rfl I hk hsz
    have g3 := Grow.new (K := X.K) (o := .ext (fobT h'.objs.size (PySem.W.kla_obj "<lambda>" (X.env.qual ++ "<lambda>") params body lscope [(y, c)] ((X.mg "__name__").getD .none) c1 ctv))) n2
    have a3 := hM.putG (A := fun K H a => H a = some (.ext (fobT a (PySem.W.kla_obj "<lambda>" (X.env.qual ++ "<lambda>") params body lscope [(y, c)] ((X.mg "__name__").getD .none) c1 ctv))) ∧ Rep K H d2 v2) g3 ⟨upd_same, rd.mono g3⟩ (fun H' g' e => ⟨e, (rd.mono g3).mono g'⟩)
    have m2 := hM.fresh n2
    have k1 : Pt ≠ h'.objs.size := fun z => by rw [← z, ht] at m2; cases m2
    have k2 : c1 ≠ h'.objs.size := fun z => by rw [← z, hr1] at m2; cases m2
    refine h _ c1 ctv _ _ _ _ I2 g3 a3 updM_same (by rw [updM_ne k2]; exact hr1) (.inr ⟨c1, by rw [updM_ne k1]; exact ht, by rw [updM_ne k2]; exact hr1, nc1⟩) fun a o na e => ?_
    rw [updM_ne (fun z => by rw [z, m2] at e; cases e)]; exact e
theorem de_callLam (j : Nat) (hcode : X.env.code = .ref c0) (m : Mk X.K X.mg c0 Pt) (S : LamScope lx y lscope)
    (hb : ∀ (name qual : Str) (c : Addr) (pm cdv ct u1 : Value), bindArgs (PySem.W.kla_fn name qual params body lscope [(y, c)] pm cdv ct) ⟨[u1], []⟩ = pure [(lx, u1)])
    (len : ∀ d ds M Q, spg d ds M Q → ds.length = 1)
    (ht : ∀ (base : Heap) (g c c' : Addr) (d2 : D) (A : Around) (outer : List Env) (s : Shared) (H : Hp), Room k (A.deeper (lamEnv lscope s.heap.objs.size [(y, c)] (X.env.qual ++ "<lambda>") g (.ref c'))) →
      ∃ t, DE (cxLam X.prog X.w X.K X.mg base [lx, y] (X.env.qual ++ "<lambda>") lscope [(y, c)] g (.ref c') A outer s H) body t ∧ ∀ d1 M Q, spg d2 [d1] M Q → t [some d1, some d2] M Q)
    (hcal : ∀ (base : Heap) (g : Addr) (d2 : D) (Mc : MH → Prop), CalV X.prog X.w X.K X.mg base (k + 1) g (spg d2) Mc → Cal X.prog X.w X.K X.mg base kk x (spw g d2 Mc))
    (hx : ∃ f, X.mg x = some (.ref f) ∧ PySem.W.keepIn X.K (.ref f) = true) (hr : Room kk X.A) (ha : DE X e1 te)
    (hfil : (lscope.names.filter fun z => z.2 == .free) = [(y, .free)] := by rfl) (hdef : defaultsOf params X.env = ([], []) := by rfl) (hfn : X.fn y = true := by rfl) (hNj : X.N[j]? = some y := by rfl) (hcy : X.env.scope.names.lookup y = some .cell := by rfl)
    (hg : Gl X x := by rfl) (hdb : (x == ("__debug__" : Str)) = false := by decide)
    (he : starEach [e1, .Lambda params body lscope lpos] X.env = (false, eval e1 X.env) :: starEach [.Lambda params body lscope lpos] X.env := by rfl) (he2 : starEach [.Lambda params body lscope lpos] X.env = (false, eval (.Lambda params body lscope lpos) X.env) :: starEach [] X.env := by rfl)
    (hpl : (backTo pos (starEach [.Lambda params body lscope lpos] X.env)).any (·.1) = false := by rfl) :
    DE X (.Call (.Name x p) [e1, .Lambda params body lscope lpos] [] pos) (tCallLam (X.env.qual ++ "<lambda>") Pt lpos j spw te) := by
  intro pins s σ H Q I h
  obtain ⟨δ, M, R, hs, hM, q, fin⟩ := h
  obtain ⟨f, hm, hkf⟩ := hx
  refine wpAny_Call_Name_kw (ld_glob I hg hm ?_ hdb)
  refine PySem.W.callWith_K (h₀ := X.base) I.ok.mod.kin hkf ?_ he hpl
  rw [he, he2]
  show wpAny _ _ (spliced ((false, eval e1 X.env) :: backTo pos ((false, eval (.Lambda params body lscope lpos) X.env) :: starEach [] X.env))) _ _ s
  refine Calls.spliced_cons (thn (ha pins s σ H (fun v1 H1 => ∃ d1 M1, Grow X.K H H1 ∧ Rep X.K H1 d1 v1 ∧ Abs X.K H1 M1 ∧ ∃ d2, δ[j]? = some (some d2) ∧ TabM (X.env.qual ++ "<lambda>") Pt lpos M1 ∧ ∀ g Mc M2, (∀ M3, Sub M2 M3 → Mc M3) → TabM (X.env.qual ++ "<lambda>") Pt lpos M2 → SubT Pt M1 M2 → spw g d2 Mc [d1, .ref g] M2 R) I
    ⟨δ, M, _, hs, hM, q, fun d1 M1 v1 H1 g1 r1 a1 q1 => ⟨d1, M1, g1, r1, a1, q1⟩⟩) fun u1 s1 z => ?_)
  obtain ⟨v1, H1, I1, rv1, d1, M1, g1, r1, a1, d2, hj, htab, q1⟩ := z
  obtain ⟨v2, hv2, rd⟩ := hs.at' j d2 hj
  obtain ⟨c, hc⟩ := I1.ok.has y (.inl hcy)
  show wpAny _ _ (spliced ((false, eval (.Lambda params body lscope lpos) X.env) :: backTo pos (starEach [] X.env))) _ _ s1
  refine Calls.spliced_cons (lam_made hcode m hfil (fun z hz hk => S.only z hz hk) hdef I1 a1 hc htab (rd.mono g1) fun g c' ctv pm H2 M2 s2 I2 g2 a2 hgM hcM ht2 hsub => ?_)
  refine Calls.spliced_nil ?_
  refine ⟨I2.kIn, ?_⟩
  obtain ⟨mm, hn, hl⟩ := I2.loc
  obtain ⟨u2, ru2, lk⟩ := hl j y v2 hNj hv2 (.inr (.inl hcy))
  obtain ⟨oc, hoc, hod⟩ : s2.heap.IsCell c (some u2) := by
    rcases lk with ⟨z, _⟩ | ⟨_, c2, hc2, z⟩
    · rw [show X.env.kindOf y = X.env.scope.names.lookup y from rfl, hcy] at z; cases z
    · rw [hc] at hc2; cases hc2; exact z
  have CV := lam_val (g := g) (d2 := d2) (base := hidT s2.heap (pinH X.base c)) (sp := spg d2) S (hidT_get hoc (pin_in (.inr rfl))) hod ru2 (fun u1 => hb "<lambda>" (X.env.qual ++ "<lambda>") c pm (.ref c') ctv u1) (len d2) (fun A outer s H hr => ht _ g c c' d2 A outer s H hr)
  obtain ⟨f', fd, ps, F, hm', _, hbb⟩ := hcal _ g d2 _ CV
  rw [hm] at hm'; cases hm'
  refine call_pin (vs := [v1, .ref g]) I2 hfn hc F hr hbb (.cons rv1 (.cons rfl .nil)) ⟨[d1, .ref g], M2, R, .cons (r1.mono g2) (.cons (by rw [Rep]) .nil), a2, q1 g _ M2 (fun M3 sb => ⟨sb _ _ hgM, sb _ _ hcM⟩) ht2 hsub, fin.go (g1.trans g2)⟩
end
end SD
set_option Elab.async false
set_option linter.all false
set_option maxRecDepth 100000
namespace SD
open PySem PySem.Spec PyProof.Rows L2
noncomputable def Only2 (Pt : Addr) (H : Hp) : Prop := ∀ b, b ≠ Pt → H b = none ∨ ∃ o xs, H b = some (.frz o (.lst xs))
theorem law_call2 {P : Program} {w : World} {K : PySem.W.Frag} {mg mb : Str → Option Value} {k : Nat} {fa a Pt c0 : Addr} {fd : FuncData} {x : Str} {sp : Sp} {s₁ : Shared} {vs : List Value} {ns : List Int}
    (KX : K.In s₁.heap) (hns : s₁.heap.Ns mainGlobals mg) (hb : s₁.heap.Ns builtinsNs mb) (hbb : ∀ x : Str, x ≠ "__name__" → mb x = bootBuiltins x) (hlim : s₁.heap.NoLimit) (hg : s₁.gens = #[])
    (ha : s₁.heap.get? a = some { cls := .type "list", data := .seq vs.toArray }) (hi : IntsAre vs ns) (hl : ns.length ≤ sizeLine) (hr : Room k callerA) (hT : s₁.heap.get? Pt = some (PySem.W.tabObj #[])) (hKP : K.lookup Pt = none) (hC : PySem.W.codeHdIn K c0 Pt = true)
    (F : ∀ base : Heap, FnOk P w K mg base CX0 k fa fd [x] sp) (hbind : ∀ (s : Shared) (u : Value), BindsTo s fd ⟨[u], []⟩ [(x, u)])
    (hsp : ∀ H : Hp, Only2 Pt H → H Pt = some (.tbl #[]) → SqL K H a (ns.map V.int) → sp [.ref a] H (fun v _ => v = .bl true) fun _ _ _ => False) :
    codeAny (model P w) callerA (.call (.ref fa) ⟨[.ref a], []⟩) (fun r s' => r = .ok (.ret (.bool true)) ∧ OldK s₁.heap s'.heap ∧ s'.os = s₁.os ∧ AllBare s'.gens) s₁ := by
  have rv := vals_ints hi
  have lenV := hi.length
  have naP : a ≠ Pt := fun z => by
    rw [z, hT] at ha
    cases ha
  have core : ∀ H : Hp, Only2 Pt H → H Pt = some (.tbl #[]) → SqL K H a (ns.map V.int) → HOk P w H s₁.heap → (∀ b, H b ≠ none → b = a ∨ b = Pt) → (H a ≠ none → K.lookup a = none) →
      codeAny (model P w) callerA (.call (.ref fa) ⟨[.ref a], []⟩) (fun r s' => r = .ok (.ret (.bool true)) ∧ OldK s₁.heap s'.heap ∧ s'.os = s₁.os ∧ AllBare s'.gens) s₁ := by
    intro H hO hP hS hok hA hK
    have noA : ∀ {b : Addr} {o : Obj} {es : Array DictEntry} {ep : Nat}, s₁.heap.get? b = some o → o.data = .dict es ep → H b = none := fun {b o es ep} e d => by
      cases q : H b with
      | none => rfl
      | some u =>
        rcases hA b (by rw [q]; simp) with z | z
        · rw [z, ha] at e; cases e
          have d' : Data.seq vs.toArray _ = Data.dict es ep := d
          cases d'
        · rw [z, hT] at e; cases e
          have d' : Data.fields #[] = Data.dict es ep := d
          cases d'
    have nsK : ∀ {b : Addr} {m : Str → Option Value}, s₁.heap.Ns b m → (hidT s₁.heap H).Ns b m := fun {b m} z => by
      obtain ⟨o, es, ep, e, d, r⟩ := z
      exact ⟨o, es, ep, hidT_get e (noA e d), d, r⟩
    have hKb : K.In (hidT s₁.heap H) := fun b o e => hidT_get (KX b o e) (by
      cases q : H b with
      | none => rfl
      | some u =>
        rcases hA b (by rw [q]; simp) with z | z
        · subst z
          rw [hK (by rw [q]; simp)] at e; cases e
        · rw [z, hKP] at e; cases e)
    obtain ⟨mc, l1, l2⟩ := hlim
    have hM : Mod K mg (hidT s₁.heap H) := ⟨hKb, nsK hns, ⟨mb, nsK hb, hbb⟩, ⟨mc, nsK l1, l2⟩⟩
    have e0 : Env0 P w K mg (hidT s₁.heap H) callerA [] s₁ H := ⟨rfl, hM, fun b o e => of_hidT e, Nat.le_of_eq (hidT_size _ _), trivial, fun b hb => absurd (show b ∈ ([] : List Addr) from hb) (by simp), hok, .of_eq hg⟩
    refine codeAny_mono ((F _).run callerA [] s₁ H ⟨[.ref a], []⟩ [.ref a] [.ref a] _ _ hr e0 (hbind s₁ (.ref a)) (.cons rfl .nil) (hsp H hO hP hS)) fun r s' h => ?_
    cases r with
    | error e => exact False.elim h
    | ok fl =>
      cases fl with
      | next => exact False.elim h
      | brk => exact False.elim h
      | cont => exact False.elim h
      | ret u =>
        obtain ⟨v, H', os, bare, un, hok', r', q⟩ := h
        have q' : v = .bl true := q
        subst q'
        obtain rfl : u = Value.bool true := r'
        obtain ⟨more, hP'⟩ := un.tbls _ _ hP
        have hT' : s'.heap.get? Pt = some (PySem.W.tabObj (#[] ++ more)) := hok' _ _ hP'
        have keep : ∀ b o, b ≠ Pt → s₁.heap.get? b = some o → s'.heap.get? b = some o := fun b o nb e => by
          cases q : H b with
          | none => exact un.keep b o e q (by intro z; exact absurd (show b ∈ ([] : List Addr) from z) (by simp)) (by simp)
          | some u =>
            rcases hO b nb with z | ⟨ob, xs, z⟩
            · rw [q] at z; cases z
            · have z2 := un.frzs b ob _ z
              obtain ⟨e1, _⟩ := hok b _ z
              obtain ⟨e2, _⟩ := hok' b _ z2
              rw [e] at e1; cases e1
              exact e2
        have C := PySem.W.codeHd_of_K KX hC
        refine ⟨rfl, ⟨fun b o e => ?_, fun b o e => ?_⟩, os, bare⟩
        · by_cases nb : b = Pt
          · subst nb
            rw [hT] at e; cases e
            exact .inr (.inl ⟨(C.tab hT).isCodeTable, rfl, #[], more, rfl, hT'⟩)
          · exact .inl (keep b o nb e)
        · by_cases nb : b = Pt
          · subst nb; exact ⟨_, hT'⟩
          · exact ⟨o, keep b o nb e⟩
  have tab : ∀ {H : Hp} {b : Addr} {u : HO}, b = Pt → H b = some (.tbl #[]) → H b = some u → ObjOk P w H s₁.heap b u := fun {H b u} z e1 e2 => by
    rw [e1] at e2; cases e2
    rw [z]; exact hT
  cases hk : K.lookup a with
  | some o =>
    have e := KX a o hk
    rw [ha] at e
    cases e
    refine core (fun b => if b = Pt then some (.tbl #[]) else none) (fun b nb => .inl (if_neg nb)) (if_pos rfl) (.inr ⟨_, vs.toArray, _, hk, rfl, rfl, rfl, by rw [List.size_toArray, lenV]; exact hl, by simpa using rv⟩) (fun b u z => ?_) (fun b z => ?_) fun z => absurd (if_neg naP) z
    · by_cases hb : b = Pt
      · exact tab hb (if_pos hb) z
      · have z' := (if_neg hb).symm.trans z
        cases z'
    · by_cases hb : b = Pt
      · exact .inr hb
      · exact absurd (if_neg hb) z
  | none =>
    refine core (fun b => if b = Pt then some (.tbl #[]) else if b = a then some (.frz { cls := .type "list", data := .seq vs.toArray } (.lst (ns.map V.int))) else none) (fun b nb => ?_) (if_pos rfl) (.inl (.inr ⟨{ cls := .type "list", data := .seq vs.toArray }, by show (if a = Pt then _ else _) = _; rw [if_neg naP, if_pos rfl]⟩)) (fun b u z => ?_) (fun b z => ?_) fun _ => hk
    · by_cases hb : b = a
      · exact .inr ⟨_, _, by show (if b = Pt then _ else _) = _; rw [if_neg nb, if_pos hb]⟩
      · exact .inl (by show (if b = Pt then _ else _) = _; rw [if_neg nb, if_neg hb])
    · by_cases hb : b = Pt
      · exact tab hb (if_pos hb) z
      · have z1 := (if_neg hb).symm.trans z
        by_cases hb2 : b = a
        · have z' := (if_pos hb2).symm.trans z1
          cases z'
          subst hb2
          exact ⟨ha, by rw [List.length_map]; exact hl, vs, _, rv, ha⟩
        · have z' := (if_neg hb2).symm.trans z1
          cases z'
    · by_cases hb : b = Pt
      · exact .inr hb
      · by_cases hb2 : b = a
        · exact .inl hb2
        · exact absurd (by show (if b = Pt then _ else _) = _; rw [if_neg hb, if_neg hb2]) z
theorem law_walk2 {l : PySem.W.OpenLaw} {k : Nat} {q : Program} {loose : List Str} {XP : (Str → Option Value) → Heap → Prop} {YP : World → Heap → Prop} {d : DefRec} {K : Params → PySem.W.Frag} {sp : SpD} {x : Str} {Pt c0 : Addr}
    (hn : l.most = some 63) (hdf : d.params.defaults = []) (hr : Room k callerA)
    (hY : ∀ (w : World) (h : Heap), YP w h → (K w.params).In h) (hT : ∀ (w : World) (h : Heap), YP w h → h.get? Pt = some (PySem.W.tabObj #[])) (hKP : ∀ w : World, (K w.params).lookup Pt = none) (hC : ∀ w : World, PySem.W.codeHdIn (K w.params) c0 Pt = true)
    (F : ∀ (w : World) (mg : Str → Option Value) (fa : Addr) (h : Heap), (K w.params).In h → h.Ns mainGlobals mg → mg d.name = some (.ref fa) →
      ∃ fd : FuncData, (∀ (s : Shared) (u : Value), BindsTo s fd ⟨[u], []⟩ [(x, u)]) ∧
        ∀ base : Heap, FnOk l.prog w (K w.params) mg base CX0 k fa fd [x] (liftSp (K w.params) sp))
    (hsp : ∀ (ns : List Int) (M : MH), ns.length ≤ 63 → M Pt = some (tabO #[]) → sp [.rol (ns.map D.int)] M (fun d _ => d = .bl true)) :
    PySem.W.WalkO q loose XP YP l.row.toRowW d [] (fun f vs => PySem.call f vs) := by
  refine Att.attach_call hn hdf fun w s₀ s₁ mg mb fa o pm cd doc a vs ns G Y ho hd hcd hmg hobj hints hlen hg => ?_
  have KX := hY w _ Y
  obtain ⟨fd, hb, hF⟩ := F w mg fa _ KX G.T.g hmg
  refine law_call2 KX G.T.g G.T.b G.T.builtins G.T.nolimit hg hobj hints (Nat.le_trans hlen (by decide)) hr (hT w _ Y) (hKP w) (hC w) hF hb fun H hO hP hS => ?_
  have hF : SqF (K w.params) H a (ns.map V.int) := by
    rcases hS with (z | z) | z
    · exfalso
      by_cases na : a = Pt
      · rw [na, hP] at z; cases z
      · rcases hO a na with y | ⟨o, xs, y⟩
        · rw [z] at y; cases y
        · rw [z] at y; cases y
    · exact .inl z
    · exact .inr z
  refine ⟨[.rol (ns.map D.int)], fun b => if b = Pt then some (tabO #[]) else none, _, .cons (by rw [Rep]; exact ⟨a, _, rfl, hF, reps_ints ns⟩) .nil, fun b u e => ?_, hsp ns _ hlen (if_pos rfl), fun d M' v H' g r a' e => ?_⟩
  · by_cases hb : b = Pt
    · have e' := (if_pos hb).symm.trans e
      cases e'
      rw [hb]
      exact ⟨hP, by rw [hP]; simp, fun H' _ e => e.trans hP⟩
    · have e' := (if_neg hb).symm.trans e
      cases e'
  · subst e
    rw [Rep] at r
    exact r
end SD
set_option Elab.async false
set_option linter.all false
set_option maxRecDepth 100000
namespace SD
open PySem PySem.Spec PyProof.Rows L2
section
variable {prog : Program} {w : World} {A : Around} {E : Value → Shared → Prop} {s : Shared}
theorem max_twoL {l : Addr} {a b : Value} {c : Bool} {Q : Value → Shared → Prop} (hh : A.handled = none) (hl : s.heap.IsList l #[a, b])
    (cmp : ∀ (t : Shared) (Q' : Value → Shared → Prop) (E' : Value → Shared → Prop), (∀ x o, s.heap.get? x = some o → t.heap.get? x = some o) → Q' (.bool c) t → wpAny (model prog w) A.in1 (richCompare .Gt b a) Q' E' t)
    (h : ∀ h' tk, (∀ x o, s.heap.get? x = some o → h'.get? x = some o) → Q (if c = true then b else a) { s with heap := h', toks := tk }) :
    wpAny (model prog w) A (call (.builtin "max") [.ref l]) Q E s := by
  have nm : (toString "max" ++ toString ".loop" : String) = "max.loop" := by decide
  refine call_function_tree F.kind_max F.plain_max F.entry_max (F.args_max1 _) ?_
  show wpAny _ A.in1 (Builtin.Builtins.bindParams "max" ["key", "default"] 0 ⟨[], []⟩ >>= fun _ => _) _ _ s
  refine wpAny_bind (wpAny_of_eq (a := [none, none]) rfl ?_)
  refine wpAny_bind (wpAny_pure ?_)
  have k1 : ∀ x o, s.heap.get? x = some o → s.heap.get? x = some o := fun x o q => q
  have hT : s.heap.IsList l #[a, b] := hl
  have hlt : l < s.heap.objs.size := by
    obtain ⟨o, q, _⟩ := hl
    exact Heap.lt_size q
  refine wpAny_bind (wpAny_pyIter_list (s := s) hT ?_)
  refine wpAny_bind (wpAny_newObj_type ?_)
  dsimp only
  generalize eI : s.heap.objs.size = I
  generalize e2 : s.heap.push _ = h2
  have k2 : ∀ x o, s.heap.get? x = some o → h2.get? x = some o := fun x o q => by rw [← e2]; exact Heap.get?_push_of_some _ q
  have hI : h2.IsListIter I l 0 := by rw [← e2, ← eI]; exact ⟨_, Heap.get?_push_size _ rfl, rfl, rfl⟩
  have z2 : h2.objs.size = I + 1 := by rw [← e2, Heap.size_push, eI]
  generalize eS : h2.objs.size = S
  generalize e3 : h2.push _ = h3
  have k3 : ∀ x o, h2.get? x = some o → h3.get? x = some o := fun x o q => by rw [← e3]; exact Heap.get?_push_of_some _ q
  have hS : h3.get? S = some { cls := .type "list", dict := none, data := .seq #[] 0, slots := #[] } := by rw [← e3, ← eS]; exact Heap.get?_push_size _ rfl
  have SI : S ≠ I := by omega
  have old : ∀ x o, s.heap.get? x = some o → x ≠ I ∧ x ≠ S := fun x o q => ⟨Nat.ne_of_lt (Nat.lt_of_lt_of_le (Heap.lt_size q) (by omega)), Nat.ne_of_lt (Nat.lt_of_lt_of_le (Heap.lt_size q) (by omega))⟩
  have hT3 : h3.IsList l #[a, b] := by
    obtain ⟨o, q, r⟩ := hT
    exact ⟨o, k3 _ _ (k2 _ _ q), r⟩
  have hI3 : h3.IsListIter I l 0 := hI.at fun o q => k3 _ _ q
  have hlI : l < I := eI ▸ hlt
  have TI : l ≠ I := Nat.ne_of_lt hlI
  have TS : l ≠ S := Nat.ne_of_lt (Nat.lt_trans hlI (show I < S by omega))
  have keep3 : ∀ x o, s.heap.get? x = some o → h3.get? x = some o := fun x o q => k3 _ _ (k2 _ _ (k1 _ _ q))
  rw [nm]
  refine wpAny_pure ⟨plainId_quiet F.plain_max_loop _, ?_⟩
  have last : ∀ (t : Shared) (v : Value) (n : Nat), t.heap.IsListIter I l 2 → t.heap.IsList l #[a, b] → t.heap.get? S = some { cls := .type "list", dict := none, data := .seq #[v, v] n, slots := #[] } →
      (∃ h' tk, t = { s with heap := h', toks := tk } ∧ ∀ x o, s.heap.get? x = some o → h'.get? x = some o) → v = (if c = true then b else a) → codeAny (model prog w) A (.builtin "max.loop" ⟨[.ref I, .none, .ref S], []⟩) (fun r s' => match r with | .ok (.ret v) => Q v s' | .ok _ => False | .error e => E e s') t := by
    rintro t v n i2 tT lS ⟨h', tk, rfl, kt⟩ ev
    refine codeAny_builtin F.entry_max_loop ?_
    rw [Around.under_plainId F.plain_max_loop _]
    show wpAny _ A.in1 (seqItems? (.ref S) >>= fun _ => _) _ _ _
    refine wpAny_bind (wpAny_seqItems lS rfl ?_)
    show wpAny _ A.in1 (tryCatch (pyNext (.ref I)) _ >>= fun _ => _) _ _ _
    refine wpAny_bind (wpAny_tryCatch (wpAny_pyNext_list_end (A := A.in1) hh i2 tT (by simp) fun h4 q4 => ?_))
    have lS4 : h4.get? S = some _ := q4 _ _ SI lS
    show wpAny _ A.in1 (updateSeq S (fun _ => #[]) >>= fun _ => _) _ _ _
    refine wpAny_bind (wpAny_updateSeq lS4 rfl (wpAny_bind (wpAny_letGo (wpAny_pure ?_))))
    show Q v _
    rw [ev]
    exact h _ _ fun x o q => (Heap.get?_update_other _ _ (old x o q).2.symm).trans (q4 x o (old x o q).1 (kt x o q))
  refine codeAny_builtin F.entry_max_loop ?_
  rw [Around.under_plainId F.plain_max_loop _]
  show wpAny _ A.in1 (seqItems? (.ref S) >>= fun _ => _) _ _ _
  refine wpAny_bind (wpAny_seqItems (s := { s with heap := h3 }) hS rfl ?_)
  show wpAny _ A.in1 (tryCatch (pyNext (.ref I)) _ >>= fun _ => _) _ _ _
  refine wpAny_bind (wpAny_tryCatch (wpAny_pyNext_list_item (s := { s with heap := h3 }) hI3 hT3 (x := a) (by simp) fun h4 i4 q4 => ?_))
  have hS4 : h4.get? S = some _ := (q4.2 _ SI).trans hS
  have hT4 : h4.IsList l #[a, b] := by
    obtain ⟨o, q, r⟩ := hT3
    exact ⟨o, (q4.2 _ TI).trans q, r⟩
  show wpAny _ A.in1 (updateSeq S (fun _ => #[a, a]) >>= fun _ => _) _ _ _
  refine wpAny_bind (wpAny_updateSeq hS4 rfl ?_)
  rw [nm]
  refine wpAny_pure ⟨plainId_quiet F.plain_max_loop _, ?_⟩
  generalize e5 : h4.update S _ = h5
  have o5 : ∀ x, x ≠ S → h5.get? x = h4.get? x := fun x q => by rw [← e5]; exact Heap.get?_update_other _ _ q.symm
  have hS5 : ∃ n, h5.get? S = some { cls := .type "list", dict := none, data := .seq #[a, a] n, slots := #[] } := ⟨_, by rw [← e5]; exact Heap.get?_update_self _ hS4 rfl⟩
  obtain ⟨n5, hS5⟩ := hS5
  have i5 : h5.IsListIter I l 1 := i4.at fun o q => (o5 _ SI.symm).trans q
  have hT5 : h5.IsList l #[a, b] := by
    obtain ⟨o, q, r⟩ := hT4
    exact ⟨o, (o5 _ TS).trans q, r⟩
  have keep5 : ∀ x o, s.heap.get? x = some o → h5.get? x = some o := fun x o q => (o5 _ (old x o q).2).trans ((q4.2 _ (old x o q).1).trans (keep3 x o q))
  refine codeAny_builtin F.entry_max_loop ?_
  rw [Around.under_plainId F.plain_max_loop _]
  show wpAny _ A.in1 (seqItems? (.ref S) >>= fun _ => _) _ _ _
  refine wpAny_bind (wpAny_seqItems (s := { s with heap := h5 }) hS5 rfl ?_)
  show wpAny _ A.in1 (tryCatch (pyNext (.ref I)) _ >>= fun _ => _) _ _ _
  refine wpAny_bind (wpAny_tryCatch (wpAny_pyNext_list_item (s := { s with heap := h5 }) i5 hT5 (x := b) (by simp) fun h6 i6 q6 => ?_))
  have hS6 : h6.get? S = some _ := (q6.2 _ SI).trans hS5
  have hT6 : h6.IsList l #[a, b] := by
    obtain ⟨o, q, r⟩ := hT5
    exact ⟨o, (q6.2 _ TI).trans q, r⟩
  have keep6 : ∀ x o, s.heap.get? x = some o → h6.get? x = some o := fun x o q => (q6.2 _ (old x o q).1).trans (keep5 x o q)
  show wpAny _ A.in1 (tryCatch (holding [b, b] (richCompare .Gt b a >>= fun _ => _)) _ >>= fun _ => _) _ _ _
  refine wpAny_bind (wpAny_tryCatch (wpAny_holding (wpAny_bind (cmp _ _ _ keep6 ?_))))
  refine wpAny_bind (wpAny_holding (wpAny_truthy_bool ?_))
  refine wpAny_bind (wpAny_letGo (wpAny_pure ?_))
  cases c with
  | true =>
    simp only [if_true] at last ⊢
    refine wpAny_bind (wpAny_updateSeq hS6 rfl (wpAny_bind (wpAny_letGo ?_)))
    rw [nm]
    refine wpAny_pure ⟨plainId_quiet F.plain_max_loop _, last _ b _ (i6.at fun o q => (Heap.get?_update_other _ _ SI).trans q) ?_ (Heap.get?_update_self _ hS6 rfl) ⟨_, _, rfl, fun x o q => (Heap.get?_update_other _ _ (old x o q).2.symm).trans (keep6 x o q)⟩ rfl⟩
    obtain ⟨o, q, r⟩ := hT6
    exact ⟨o, (Heap.get?_update_other _ _ TS.symm).trans q, r⟩
  | false =>
    simp only [Bool.false_eq_true, if_false] at last ⊢
    refine wpAny_bind (wpAny_letGo ?_)
    rw [nm]
    exact wpAny_pure ⟨plainId_quiet F.plain_max_loop _, last _ a _ i6 hT6 hS6 ⟨_, _, rfl, keep6⟩ rfl⟩
theorem min_twoL {l : Addr} {a b : Value} {c : Bool} {Q : Value → Shared → Prop} (hh : A.handled = none) (hl : s.heap.IsList l #[a, b])
    (cmp : ∀ (t : Shared) (Q' : Value → Shared → Prop) (E' : Value → Shared → Prop), (∀ x o, s.heap.get? x = some o → t.heap.get? x = some o) → Q' (.bool c) t → wpAny (model prog w) A.in1 (richCompare .Lt b a) Q' E' t)
    (h : ∀ h' tk, (∀ x o, s.heap.get? x = some o → h'.get? x = some o) → Q (if c = true then b else a) { s with heap := h', toks := tk }) :
    wpAny (model prog w) A (call (.builtin "min") [.ref l]) Q E s := by
  have nm : (toString "min" ++ toString ".loop" : String) = "min.loop" := by decide
  refine call_function_tree F.kind_min F.plain_min F.entry_min (F.args_min1 _) ?_
  show wpAny _ A.in1 (Builtin.Builtins.bindParams "min" ["key", "default"] 0 ⟨[], []⟩ >>= fun _ => _) _ _ s
  refine wpAny_bind (wpAny_of_eq (a := [none, none]) rfl ?_)
  refine wpAny_bind (wpAny_pure ?_)
  have k1 : ∀ x o, s.heap.get? x = some o → s.heap.get? x = some o := fun x o q => q
  have hT : s.heap.IsList l #[a, b] := hl
  have hlt : l < s.heap.objs.size := by
    obtain ⟨o, q, _⟩ := hl
    exact Heap.lt_size q
  refine wpAny_bind (wpAny_pyIter_list (s := s) hT ?_)
  refine wpAny_bind (wpAny_newObj_type ?_)
  dsimp only
  generalize eI : s.heap.objs.size = I
  generalize e2 : s.heap.push _ = h2
  have k2 : ∀ x o, s.heap.get? x = some o → h2.get? x = some o := fun x o q => by rw [← e2]; exact Heap.get?_push_of_some _ q
  have hI : h2.IsListIter I l 0 := by rw [← e2, ← eI]; exact ⟨_, Heap.get?_push_size _ rfl, rfl, rfl⟩
  have z2 : h2.objs.size = I + 1 := by rw [← e2, Heap.size_push, eI]
  generalize eS : h2.objs.size = S
  generalize e3 : h2.push _ = h3
  have k3 : ∀ x o, h2.get? x = some o → h3.get? x = some o := fun x o q => by rw [← e3]; exact Heap.get?_push_of_some _ q
  have hS : h3.get? S = some { cls := .type "list", dict := none, data := .seq #[] 0, slots := #[] } := by rw [← e3, ← eS]; exact Heap.get?_push_size _ rfl
  have SI : S ≠ I := by omega
  have old : ∀ x o, s.heap.get? x = some o → x ≠ I ∧ x ≠ S := fun x o q => ⟨Nat.ne_of_lt (Nat.lt_of_lt_of_le (Heap.lt_size q) (by omega)), Nat.ne_of_lt (Nat.lt_of_lt_of_le (Heap.lt_size q) (by omega))⟩
  have hT3 : h3.IsList l #[a, b] := by
    obtain ⟨o, q, r⟩ := hT
    exact ⟨o, k3 _ _ (k2 _ _ q), r⟩
  have hI3 : h3.IsListIter I l 0 := hI.at fun o q => k3 _ _ q
  have hlI : l < I := eI ▸ hlt
  have TI : l ≠ I := Nat.ne_of_lt hlI
  have TS : l ≠ S := Nat.ne_of_lt (Nat.lt_trans hlI (show I < S by omega))
  have keep3 : ∀ x o, s.heap.get? x = some o → h3.get? x = some o := fun x o q => k3 _ _ (k2 _ _ (k1 _ _ q))
  rw [nm]
  refine wpAny_pure ⟨plainId_quiet F.plain_min_loop _, ?_⟩
  have last : ∀ (t : Shared) (v : Value) (n : Nat), t.heap.IsListIter I l 2 → t.heap.IsList l #[a, b] → t.heap.get? S = some { cls := .type "list", dict := none, data := .seq #[v, v] n, slots := #[] } →
      (∃ h' tk, t = { s with heap := h', toks := tk } ∧ ∀ x o, s.heap.get? x = some o → h'.get? x = some o) → v = (if c = true then b else a) → codeAny (model prog w) A (.builtin "min.loop" ⟨[.ref I, .none, .ref S], []⟩) (fun r s' => match r with | .ok (.ret v) => Q v s' | .ok _ => False | .error e => E e s') t := by
    rintro t v n i2 tT lS ⟨h', tk, rfl, kt⟩ ev
    refine codeAny_builtin F.entry_min_loop ?_
    rw [Around.under_plainId F.plain_min_loop _]
    show wpAny _ A.in1 (seqItems? (.ref S) >>= fun _ => _) _ _ _
    refine wpAny_bind (wpAny_seqItems lS rfl ?_)
    show wpAny _ A.in1 (tryCatch (pyNext (.ref I)) _ >>= fun _ => _) _ _ _
    refine wpAny_bind (wpAny_tryCatch (wpAny_pyNext_list_end (A := A.in1) hh i2 tT (by simp) fun h4 q4 => ?_))
    have lS4 : h4.get? S = some _ := q4 _ _ SI lS
    show wpAny _ A.in1 (updateSeq S (fun _ => #[]) >>= fun _ => _) _ _ _
    refine wpAny_bind (wpAny_updateSeq lS4 rfl (wpAny_bind (wpAny_letGo (wpAny_pure ?_))))
    show Q v _
    rw [ev]
    exact h _ _ fun x o q => (Heap.get?_update_other _ _ (old x o q).2.symm).trans (q4 x o (old x o q).1 (kt x o q))
  refine codeAny_builtin F.entry_min_loop ?_
  rw [Around.under_plainId F.plain_min_loop _]
  show wpAny _ A.in1 (seqItems? (.ref S) >>= fun _ => _) _ _ _
  refine wpAny_bind (wpAny_seqItems (s := { s with heap := h3 }) hS rfl ?_)
  show wpAny _ A.in1 (tryCatch (pyNext (.ref I)) _ >>= fun _ => _) _ _ _
  refine wpAny_bind (wpAny_tryCatch (wpAny_pyNext_list_item (s := { s with heap := h3 }) hI3 hT3 (x := a) (by simp) fun h4 i4 q4 => ?_))
  have hS4 : h4.get? S = some _ := (q4.2 _ SI).trans hS
  have hT4 : h4.IsList l #[a, b] := by
    obtain ⟨o, q, r⟩ := hT3
    exact ⟨o, (q4.2 _ TI).trans q, r⟩
  show wpAny _ A.in1 (updateSeq S (fun _ => #[a, a]) >>= fun _ => _) _ _ _
  refine wpAny_bind (wpAny_updateSeq hS4 rfl ?_)
  rw [nm]
  refine wpAny_pure ⟨plainId_quiet F.plain_min_loop _, ?_⟩
  generalize e5 : h4.update S _ = h5
  have o5 : ∀ x, x ≠ S → h5.get? x = h4.get? x := fun x q => by rw [← e5]; exact Heap.get?_update_other _ _ q.symm
  have hS5 : ∃ n, h5.get? S = some { cls := .type "list", dict := none, data := .seq #[a, a] n, slots := #[] } := ⟨_, by rw [← e5]; exact Heap.get?_update_self _ hS4 rfl⟩
  obtain ⟨n5, hS5⟩ := hS5
  have i5 : h5.IsListIter I l 1 := i4.at fun o q => (o5 _ SI.symm).trans q
  have hT5 : h5.IsList l #[a, b] := by
    obtain ⟨o, q, r⟩ := hT4
    exact ⟨o, (o5 _ TS).trans q, r⟩
  have keep5 : ∀ x o, s.heap.get? x = some o → h5.get? x = some o := fun x o q => (o5 _ (old x o q).2).trans ((q4.2 _ (old x o q).1).trans (keep3 x o q))
  refine codeAny_builtin F.entry_min_loop ?_
  rw [Around.under_plainId F.plain_min_loop _]
  show wpAny _ A.in1 (seqItems? (.ref S) >>= fun _ => _) _ _ _
  refine wpAny_bind (wpAny_seqItems (s := { s with heap := h5 }) hS5 rfl ?_)
  show wpAny _ A.in1 (tryCatch (pyNext (.ref I)) _ >>= fun _ => _) _ _ _
  refine wpAny_bind (wpAny_tryCatch (wpAny_pyNext_list_item (s := { s with heap := h5 }) i5 hT5 (x := b) (by simp) fun h6 i6 q6 => ?_))
  have hS6 : h6.get? S = some _ := (q6.2 _ SI).trans hS5
  have hT6 : h6.IsList l #[a, b] := by
    obtain ⟨o, q, r⟩ := hT5
    exact ⟨o, (q6.2 _ TI).trans q, r⟩
  have keep6 : ∀ x o, s.heap.get? x = some o → h6.get? x = some o := fun x o q => (q6.2 _ (old x o q).1).trans (keep5 x o q)
  show wpAny _ A.in1 (tryCatch (holding [b, b] (richCompare .Lt b a >>= fun _ => _)) _ >>= fun _ => _) _ _ _
  refine wpAny_bind (wpAny_tryCatch (wpAny_holding (wpAny_bind (cmp _ _ _ keep6 ?_))))
  refine wpAny_bind (wpAny_holding (wpAny_truthy_bool ?_))
  refine wpAny_bind (wpAny_letGo (wpAny_pure ?_))
  cases c with
  | true =>
    simp only [if_true] at last ⊢
    refine wpAny_bind (wpAny_updateSeq hS6 rfl (wpAny_bind (wpAny_letGo ?_)))
    rw [nm]
    refine wpAny_pure ⟨plainId_quiet F.plain_min_loop _, last _ b _ (i6.at fun o q => (Heap.get?_update_other _ _ SI).trans q) ?_ (Heap.get?_update_self _ hS6 rfl) ⟨_, _, rfl, fun x o q => (Heap.get?_update_other _ _ (old x o q).2.symm).trans (keep6 x o q)⟩ rfl⟩
    obtain ⟨o, q, r⟩ := hT6
    exact ⟨o, (Heap.get?_update_other _ _ TS.symm).trans q, r⟩
  | false =>
    simp only [Bool.false_eq_true, if_false] at last ⊢
    refine wpAny_bind (wpAny_letGo ?_)
    rw [nm]
    exact wpAny_pure ⟨plainId_quiet F.plain_min_loop _, last _ a _ i6 hT6 hS6 ⟨_, _, rfl, keep6⟩ rfl⟩
end
section
variable {X : Cx}
theorem call_maxLT (hc : X.calm = true) (hu : X.A.units + 64 < cLine) : CallR X (.builtin "max") (fun xs H Q => ∃ l p q ns ms, xs = [.ref l] ∧ SqL X.K H l [.ref p, .ref q] ∧ SqT X.K H p (ns.map V.int) ∧ SqT X.K H q (ms.map V.int) ∧ Q (if HT.lexGt ms ns = true then .ref q else .ref p) H) := by
  intro pins s σ H xs us Q I r z0
  obtain ⟨l, p, q, ns, ms, e, hl, hp, hq, k⟩ := z0
  subst e
  obtain ⟨u, rfl, ru⟩ := vals1 r
  cases ru
  obtain ⟨its0, r0, p0, _⟩ := I.list hl
  obtain ⟨u, v, rfl, ru, rv⟩ := vals2 r0
  cases ru
  cases rv
  obtain ⟨its, r1, p1, _⟩ := I.tuple hp
  obtain ⟨its2, r2, p2, _⟩ := I.tuple hq
  refine max_twoL (a := .ref p) (b := .ref q) (c := HT.lexGt ms ns) (I.ok.hd hc) p0.isList (fun t Q' E' kt q' => ?_) fun h' tk kt => ⟨_, H, I.kept kt, ?_, k⟩
  · obtain ⟨o1, a1, b1⟩ := p1
    obtain ⟨o2, a2, b2⟩ := p2
    exact HT.gt_tupInts (A := X.A.in1) (s := t) ⟨o2, kt _ _ a2, b2⟩ ⟨o1, kt _ _ a1, b1⟩ (intsAre_of r2) (intsAre_of r1) (by show X.A.units + 1 < cLine; omega) q'
  · cases HT.lexGt ms ns <;> rfl
theorem call_minLT (hc : X.calm = true) (hu : X.A.units + 64 < cLine) : CallR X (.builtin "min") (fun xs H Q => ∃ l p q ns ms, xs = [.ref l] ∧ SqL X.K H l [.ref p, .ref q] ∧ SqT X.K H p (ns.map V.int) ∧ SqT X.K H q (ms.map V.int) ∧ Q (if HT.lexLt ms ns = true then .ref q else .ref p) H) := by
  intro pins s σ H xs us Q I r z0
  obtain ⟨l, p, q, ns, ms, e, hl, hp, hq, k⟩ := z0
  subst e
  obtain ⟨u, rfl, ru⟩ := vals1 r
  cases ru
  obtain ⟨its0, r0, p0, _⟩ := I.list hl
  obtain ⟨u, v, rfl, ru, rv⟩ := vals2 r0
  cases ru
  cases rv
  obtain ⟨its, r1, p1, _⟩ := I.tuple hp
  obtain ⟨its2, r2, p2, _⟩ := I.tuple hq
  refine min_twoL (a := .ref p) (b := .ref q) (c := HT.lexLt ms ns) (I.ok.hd hc) p0.isList (fun t Q' E' kt q' => ?_) fun h' tk kt => ⟨_, H, I.kept kt, ?_, k⟩
  · obtain ⟨o1, a1, b1⟩ := p1
    obtain ⟨o2, a2, b2⟩ := p2
    exact HT.lt_tupInts (A := X.A.in1) (s := t) ⟨o2, kt _ _ a2, b2⟩ ⟨o1, kt _ _ a1, b1⟩ (intsAre_of r2) (intsAre_of r1) (by show X.A.units + 1 < cLine; omega) q'
  · cases HT.lexLt ms ns <;> rfl
theorem lst_tups {K : PySem.W.Frag} {H : Hp} {M : MH} {l : Addr} {ns ms : List Int} (a : Abs K H M) (e : M l = some (.lst [.tup (ns.map D.int), .tup (ms.map D.int)])) : ∃ p q, SqL K H l [.ref p, .ref q] ∧ (SqT K H p (ns.map V.int) ∧ Reps K H (ns.map D.int) (ns.map V.int)) ∧ SqT K H q (ms.map V.int) ∧ Reps K H (ms.map D.int) (ms.map V.int) := by
  obtain ⟨xs, h1, h2⟩ := a _ _ e
  obtain ⟨v, u, rfl, r1, r2⟩ := reps2 h2
  rw [Rep] at r1
  obtain ⟨p, ys, rfl, hy, ry⟩ := r1
  rw [Rep] at r2
  obtain ⟨q, zs, rfl, hz, rz⟩ := r2
  have ey := ints_of ry
  have ez := ints_of rz
  subst ey; subst ez
  exact ⟨p, q, SqL.of h1, ⟨hy, ry⟩, hz, rz⟩
noncomputable def rMaxZ : RC := fun ds M Q => match ds with
  | [.ref l] => ∃ ns ms, M l = some (.lst [.tup (List.map D.int ns), .tup (List.map D.int ms)]) ∧ Q (.tup (List.map D.int (if HT.lexGt ms ns = true then ms else ns))) M
  | ds => rMaxX ds M Q
noncomputable def rMinZ : RC := fun ds M Q => match ds with
  | [.ref l] => ∃ ns ms, M l = some (.lst [.tup (List.map D.int ns), .tup (List.map D.int ms)]) ∧ Q (.tup (List.map D.int (if HT.lexLt ms ns = true then ms else ns))) M
  | ds => rMinX ds M Q
theorem cd_maxZ (hc : X.calm = true) (hu : X.A.units + 64 < cLine) : CallD X (.builtin "max") rMaxZ := call_imp (CallR.or (cd_maxX hc hu) (call_maxLT hc hu)) fun vs H Q z9 => by
  obtain ⟨ds, M, R, rs, a, q, fin⟩ := z9
  unfold rMaxZ at q
  split at q
  · obtain ⟨ns, ms, e, q⟩ := q
    obtain ⟨v, rfl, r⟩ := reps1 rs
    rw [Rep] at r; subst r
    obtain ⟨p, p', hl, ⟨h1, r1⟩, h2, r2⟩ := lst_tups a e
    refine .inr ⟨_, p, p', ns, ms, rfl, hl, h1, h2, fin _ _ _ _ .refl ?_ a q⟩
    by_cases z : HT.lexGt ms ns = true
    · rw [if_pos z, if_pos z, Rep]; exact ⟨_, _, rfl, h2, r2⟩
    · rw [if_neg z, if_neg z, Rep]; exact ⟨_, _, rfl, h1, r1⟩
  · exact .inl ⟨_, M, R, rs, a, q, fin⟩
theorem cd_minZ (hc : X.calm = true) (hu : X.A.units + 64 < cLine) : CallD X (.builtin "min") rMinZ := call_imp (CallR.or (cd_minX hc hu) (call_minLT hc hu)) fun vs H Q z9 => by
  obtain ⟨ds, M, R, rs, a, q, fin⟩ := z9
  unfold rMinZ at q
  split at q
  · obtain ⟨ns, ms, e, q⟩ := q
    obtain ⟨v, rfl, r⟩ := reps1 rs
    rw [Rep] at r; subst r
    obtain ⟨p, p', hl, ⟨h1, r1⟩, h2, r2⟩ := lst_tups a e
    refine .inr ⟨_, p, p', ns, ms, rfl, hl, h1, h2, fin _ _ _ _ .refl ?_ a q⟩
    by_cases z : HT.lexLt ms ns = true
    · rw [if_pos z, if_pos z, Rep]; exact ⟨_, _, rfl, h2, r2⟩
    · rw [if_neg z, if_neg z, Rep]; exact ⟨_, _, rfl, h1, r1⟩
  · exact .inl ⟨_, M, R, rs, a, q, fin⟩
end
end SD
set_option Elab.async false
set_option linter.all false
set_option maxRecDepth 100000
namespace SD
open PySem PySem.Spec PyProof.Rows L2
noncomputable def TxtC (K : PySem.W.Frag) (mg : Str → Option Value) (x : Str) (st : Stmt) (c0 : Addr) : Prop :=
  ∃ (f : Addr) (oc : Value) (od : Option Addr) (kV doc pm : Value) (an : Option Addr) (ct : Value) (osl : Array (Option Value)), K.lookup f = some ⟨oc, od, .func (PySem.W.fnOf x x (defArgs st) (defBody st) (defScope st) .none kV doc pm an (.ref c0) ct), osl⟩ ∧ PySem.W.codeIn K (.ref c0) x = true ∧ PySem.W.keepIn K (.ref f) = true ∧ mg x = some (.ref f)
section
variable {P : Program} {w : World} {K : PySem.W.Frag} {mg : Str → Option Value} {base : Heap}
theorem TxtC.mk {h : Heap} {x : Str} {st : Stmt} {f c0 : Addr} {oc : Value} {od an : Option Addr} {osl : Array (Option Value)} {kV doc pm ct : Value} (X : K.In h) (G : h.Ns mainGlobals mg) (a : PySem.W.nsIn K mainGlobals x = some (some (.ref f)))
    (l : K.lookup f = some ⟨oc, od, .func (PySem.W.fnOf x x (defArgs st) (defBody st) (defScope st) .none kV doc pm an (.ref c0) ct), osl⟩)
    (c : PySem.W.codeIn K (.ref c0) x = true) (k : PySem.W.keepIn K (.ref f) = true) : TxtC K mg x st c0 := ⟨f, oc, od, kV, doc, pm, an, ct, osl, l, c, k, PySem.W.mg_of X G a⟩
theorem calC {x : Str} {st : Stmt} {N ps : List Str} {k : Nat} {sp : SpD} {c0 : Addr} (T : TxtC K mg x st c0) (S : FnScope N ps (defScope st))
    (hb : ∀ (kV doc pm : Value) (an : Option Addr) (cdv ct : Value) (us : List Value), us.length = ps.length → bindArgs (PySem.W.fnOf x x (defArgs st) (defBody st) (defScope st) .none kV doc pm an cdv ct) ⟨us, []⟩ = pure (ps.zip us))
    (len : ∀ ds M Q, sp ds M Q → ds.length = ps.length)
    (body : ∀ (f : Addr) (A : Around) (outer : List Env) (s : Shared) (H : Hp) (E : XK), Room k (A.deeper (envOfC x (defScope st) s.heap.objs.size f (.ref c0))) →
      ∃ t, DSs (cxOf CX0 P w K mg base N x (defScope st) f (.ref c0) A outer s H E).nox (defBody st) t ∧ ∀ ds M Q, sp ds M Q → t { nx := fun _ M' => Ret Q .non M', rt := Ret Q } (startD N ds) M) : Cal P w K mg base (k + 1) x sp := by
  obtain ⟨f, oc, od, kV, doc, pm, an, ct, osl, lk, hcd, kp, hm⟩ := T
  refine ⟨f, _, ps, fn_of lk hcd S (fun vs H Q E z => ?_) (fun A outer s H vs Q E hr z => ?_), hm, kp, .all fun us hl => hb kV doc pm an (.ref c0) ct us hl⟩
  · obtain ⟨ds, M, R, rs, _, q, _⟩ := z
    rw [← rs.length]; exact len _ _ _ q
  · obtain ⟨ds, M, R, rs, a, q, fin⟩ := z
    obtain ⟨t, h, hq⟩ := body f A outer s H E hr
    refine ⟨_, h.nox, startD N ds, M, slots_start rs, a, { nx := fun _ M' => Ret R .non M', rt := Ret R }, ⟨fun δ' M' σ' H' g s' a' q' => ?_, fun d M' v H' g r a' q' => ?_, fun _ _ _ _ _ _ _ z => z, fun _ _ _ _ _ _ _ z => z⟩, hq ds M R q⟩
    · obtain ⟨M2, s2, q'⟩ := q'
      exact fin .non M2 .non H' g (by rw [Rep]) (a'.sub s2) q'
    · obtain ⟨M2, s2, q'⟩ := q'
      exact fin _ _ _ _ g r (a'.sub s2) q'
theorem mk_mk {h : Heap} {c0 Pt bm : Addr} {o : Obj} (X : K.In h) (G : h.Ns mainGlobals mg) (hd : PySem.W.codeHdIn K c0 Pt = true) (a : PySem.W.nsIn K mainGlobals "__builtins__" = some (some (.ref bm))) (l : K.lookup bm = some o) (h1 : bm ≠ builtinsNs) (h2 : bm ≠ mainGlobals) (h3 : o.cls = .type "module") (h4 : o.dict = some builtinsNs) (h5 : o.data = .plain) : Mk K mg c0 Pt :=
  ⟨hd, bm, o, PySem.W.mg_of X G a, h1, h2, l, h3, h4, h5⟩
end
theorem SubT.refl {Pt : Addr} {M : MH} : SubT Pt M M := fun _ _ _ h => h
theorem SubT.trans {Pt : Addr} {M M1 M2 : MH} (a : SubT Pt M M1) (b : SubT Pt M1 M2) : SubT Pt M M2 := fun x o n h => b x o n (a x o n h)
theorem TabM.new {q : Str} {Pt : Addr} {pos : Pos} {M : MH} {p : Addr} {o : MO} (h : TabM q Pt pos M) (hp : M p = none) : TabM q Pt pos (updM M p o) := by
  rcases h with h | ⟨c, h1, h2, h3⟩
  · exact .inl (by rw [updM_ne (fun z => by rw [z, hp] at h; cases h)]; exact h)
  · exact .inr ⟨c, by rw [updM_ne (fun z => by rw [z, hp] at h1; cases h1)]; exact h1, by rw [updM_ne (fun z => by rw [z, hp] at h2; cases h2)]; exact h2, h3⟩
theorem TabM.kx {q : Str} {Pt : Addr} {pos : Pos} {M M' : MH} {xs : List Addr} (h : TabM q Pt pos M) (k : ∀ a o, a ∉ xs → M a = some o → M' a = some o) (hx : ∀ a ∈ xs, ∀ A, M a ≠ some (.gen A)) : TabM q Pt pos M' := by
  rcases h with h | ⟨c, h1, h2, h3⟩
  · exact .inl (k _ _ (fun z => hx _ z _ h) h)
  · exact .inr ⟨c, k _ _ (fun z => hx _ z _ h1) h1, k _ _ (fun z => hx _ z _ h2) h2, h3⟩
theorem TabM.sub {q : Str} {Pt : Addr} {pos : Pos} {M M' : MH} (h : TabM q Pt pos M) (k : Sub M M') : TabM q Pt pos M' := h.kx (xs := []) (fun a o _ e => k a o e) (fun _ z => nomatch z)
theorem TabM.upd {q : Str} {Pt : Addr} {pos : Pos} {M : MH} {p : Addr} {o : MO} {ds : List D} (h : TabM q Pt pos M) (hp : M p = some (.lst ds)) : TabM q Pt pos (updM M p o) :=
  h.kx (xs := [p]) (fun a u n e => by rw [updM_ne (by simpa using n)]; exact e) (fun a ha A e => by have : a = p := by simpa using ha
                                                                                                    rw [this, hp] at e; cases e)
end SD
set_option Elab.async false
set_option linter.all false
set_option maxRecDepth 100000
namespace SD
open PySem PySem.Spec PyProof.Rows L2
noncomputable def ll (u v : Vc) : Bool := HT.lexLt [u.1, u.2] [v.1, v.2]
theorem ll_iff {u v : Vc} : ll u v = true ↔ u.1 < v.1 ∨ (u.1 = v.1 ∧ u.2 < v.2) := Ma.lexLt_two
theorem ll_no {u v : Vc} (h : ll u v = true) : ll v u = false := by
  rw [Bool.eq_false_iff]; intro z; rw [ll_iff] at h z; omega
theorem ll_or {u v : Vc} (h : u ≠ v) (n : ll u v = false) : ll v u = true := by
  rw [ll_iff]
  rw [Bool.eq_false_iff, ne_eq, ll_iff] at n
  have : ¬ (u.1 = v.1 ∧ u.2 = v.2) := fun z => h (Prod.ext z.1 z.2)
  omega
noncomputable def wo (u v : Vc) : Wl := if ll v u = true then (v.1, v.2, u.1, u.2) else (u.1, u.2, v.1, v.2)
noncomputable def ow (f : Vc → Vc) (w : Wl) : Wl := wo (f (ea w)) (f (eb w))
noncomputable def Od (w : Wl) : Prop := ll (ea w) (eb w) = true
theorem wo_swap {u v : Vc} (h : u ≠ v) : wo u v = wo v u := by
  unfold wo
  by_cases z : ll v u = true
  · rw [if_pos z, if_neg (by rw [ll_no z]; simp)]
  · have z' : ll v u = false := by simpa using z
    rw [if_neg z, if_pos (ll_or h.symm z')]
theorem wo_od {u v : Vc} (h : u ≠ v) : Od (wo u v) := by
  unfold wo
  by_cases z : ll v u = true
  · rw [if_pos z]; exact z
  · have z' : ll v u = false := by simpa using z
    rw [if_neg z]; exact ll_or h.symm z'
theorem od_unl {w : Wl} (h : Od w) : ea w ≠ eb w := fun e => by
  unfold Od at h; rw [e, ll_iff] at h; omega
theorem ow_id {w : Wl} (h : Od w) : ow (fun u => u) w = w := by
  unfold ow wo
  rw [if_neg (by rw [ll_no h]; simp)]
  rfl
theorem ow_ow {f g : Vc → Vc} {w : Wl} (h : Od w) (hf : ∀ u v, f u = f v → u = v) (hg : ∀ u v, g u = g v → u = v) : ow g (ow f w) = ow (fun u => g (f u)) w := by
  have ne := od_unl h
  unfold ow
  by_cases z : ll (f (eb w)) (f (ea w)) = true
  · have e : wo (f (ea w)) (f (eb w)) = ((f (eb w)).1, (f (eb w)).2, (f (ea w)).1, (f (ea w)).2) := by unfold wo; rw [if_pos z]
    rw [e]
    show wo (g (f (eb w))) (g (f (ea w))) = _
    exact wo_swap fun q => ne (hf _ _ (hg _ _ q)).symm
  · have e : wo (f (ea w)) (f (eb w)) = ((f (ea w)).1, (f (ea w)).2, (f (eb w)).1, (f (eb w)).2) := by unfold wo; rw [if_neg z]
    rw [e]
    rfl
theorem ow_od {f : Vc → Vc} {w : Wl} (h : Od w) (hf : ∀ u v, f u = f v → u = v) : Od (ow f w) := wo_od fun q => od_unl h (hf _ _ q)
noncomputable def fm (p q : Int) (u : Vc) : Vc := (u.1 + p, u.2 + q)
noncomputable def fi (u : Vc) : Vc := (-u.1, u.2)
noncomputable def ft (u : Vc) : Vc := (-u.2, u.1)
noncomputable def fk (k p q : Int) : Vc → Vc := if k = 0 then fm p q else if k = 1 then fi else ft
theorem fm_inj {p q : Int} : ∀ u v, fm p q u = fm p q v → u = v := fun u v h => by
  have h1 : u.1 + p = v.1 + p := congrArg Prod.fst h
  have h2 : u.2 + q = v.2 + q := congrArg Prod.snd h
  exact Prod.ext (by omega) (by omega)
theorem fi_inj : ∀ u v, fi u = fi v → u = v := fun u v h => by
  have h1 : -u.1 = -v.1 := congrArg Prod.fst h
  have h2 : (fi u).2 = (fi v).2 := congrArg Prod.snd h
  exact Prod.ext (by omega) h2
theorem ft_inj : ∀ u v, ft u = ft v → u = v := fun u v h => by
  have h1 : -u.2 = -v.2 := congrArg Prod.fst h
  have h2 : (ft u).2 = (ft v).2 := congrArg Prod.snd h
  exact Prod.ext h2 (by omega)
theorem ow_mm {p q : Int} {w : Wl} (h : Od w) : ow (fm (0 - p) (0 - q)) (ow (fm p q) w) = w := by
  rw [ow_ow h fm_inj fm_inj, show (fun u => fm (0 - p) (0 - q) (fm p q u)) = fun u => u from funext fun u => Prod.ext (by show u.1 + p + (0 - p) = u.1; omega) (by show u.2 + q + (0 - q) = u.2; omega)]
  exact ow_id h
theorem ow_ii {w : Wl} (h : Od w) : ow fi (ow fi w) = w := by
  rw [ow_ow h fi_inj fi_inj, show (fun u => fi (fi u)) = fun u => u from funext fun u => Prod.ext (by show - -u.1 = u.1; omega) rfl]
  exact ow_id h
theorem ow_tttt {w : Wl} (h : Od w) : ow ft (ow ft (ow ft (ow ft w))) = w := by
  have i2 : ∀ u v, ft (ft u) = ft (ft v) → u = v := fun u v z => ft_inj _ _ (ft_inj _ _ z)
  have i3 : ∀ u v, ft (ft (ft u)) = ft (ft (ft v)) → u = v := fun u v z => ft_inj _ _ (i2 _ _ z)
  rw [ow_ow h ft_inj ft_inj, ow_ow h i2 ft_inj, ow_ow h i3 ft_inj, show (fun u => ft (ft (ft (ft u)))) = fun u => u from funext fun u => Prod.ext (by show - -u.1 = u.1; omega) (by show - -u.2 = u.2; omega)]
  exact ow_id h
theorem ut_add {t b X p x : Int} (hb : 0 < b) : Ma.ut t b X 1 x + Ma.ut t b 0 1 p = Ma.ut t b X 1 (x + p) := by
  rw [ut_lin1 hb, ut_lin1 hb, ut_lin1 hb, Rat.intCast_add, Rat.intCast_zero]
  grind
theorem ut_neg {t b X x : Int} (hb : 0 < b) : -(Ma.ut t b X 1 x) = Ma.ut t b (-X) 1 (-x) := by
  rw [ut_lin1 hb, ut_lin1 hb, Rat.intCast_neg, Rat.intCast_neg]
  grind
noncomputable def Ub (n : Int) (w : Wl) : Prop := Uok n w
theorem uok_wo {n : Int} {u v : Vc} (hu : (-n ≤ u.1 ∧ u.1 ≤ n) ∧ (-n ≤ u.2 ∧ u.2 ≤ n)) (hv : (-n ≤ v.1 ∧ v.1 ≤ n) ∧ (-n ≤ v.2 ∧ v.2 ≤ n)) : Uok n (wo u v) := by
  unfold wo
  split
  · exact ⟨hv.1, hv.2, hu.1, hu.2⟩
  · exact ⟨hu.1, hu.2, hv.1, hv.2⟩
theorem wo_wll {t b X Y : Int} (ht : 0 < t) (hb : 0 < b) {u v : Vc} (ne : u ≠ v) : ¬ (Ma.ut t b X 1 u.1 = Ma.ut t b X 1 v.1 ∧ Ma.ut t b Y 1 u.2 = Ma.ut t b Y 1 v.2) ∧ ((Ma.ut t b X 1 u.1 < Ma.ut t b X 1 v.1 ∨ Ma.ut t b X 1 u.1 = Ma.ut t b X 1 v.1 ∧ Ma.ut t b Y 1 u.2 < Ma.ut t b Y 1 v.2) → rwl t b X Y (wo u v) = Ma.wll (Ma.ut t b X 1 u.1) (Ma.ut t b Y 1 u.2) (Ma.ut t b X 1 v.1) (Ma.ut t b Y 1 v.2)) ∧
    (¬ (Ma.ut t b X 1 u.1 < Ma.ut t b X 1 v.1 ∨ Ma.ut t b X 1 u.1 = Ma.ut t b X 1 v.1 ∧ Ma.ut t b Y 1 u.2 < Ma.ut t b Y 1 v.2) → rwl t b X Y (wo u v) = Ma.wll (Ma.ut t b X 1 v.1) (Ma.ut t b Y 1 v.2) (Ma.ut t b X 1 u.1) (Ma.ut t b Y 1 u.2)) := by
  have key : (Ma.ut t b X 1 u.1 < Ma.ut t b X 1 v.1 ∨ Ma.ut t b X 1 u.1 = Ma.ut t b X 1 v.1 ∧ Ma.ut t b Y 1 u.2 < Ma.ut t b Y 1 v.2) ↔ ll u v = true := by
    rw [ll_iff]; exact ah_ut ht hb
  refine ⟨fun z => ne ?_, fun z => ?_, fun z => ?_⟩
  · have h1 := (Ma.ut_eq ht hb (by decide) (by decide)).mp z.1
    have h2 := (Ma.ut_eq ht hb (by decide) (by decide)).mp z.2
    exact Prod.ext (by omega) (by omega)
  · have := ll_no (key.mp z)
    unfold wo; rw [if_neg (by rw [this]; simp)]; rfl
  · have z' : ll u v = false := by
      rw [Bool.eq_false_iff]; exact fun q => z (key.mpr q)
    unfold wo; rw [if_pos (ll_or ne z')]; rfl
theorem min_wo (u v : Vc) : uw (wo u v) = .tup [.tup (List.map D.int (if HT.lexLt [v.1, v.2] [u.1, u.2] = true then [v.1, v.2] else [u.1, u.2])), .tup (List.map D.int (if HT.lexGt [v.1, v.2] [u.1, u.2] = true then [v.1, v.2] else [u.1, u.2]))] := by
  have g : HT.lexGt [v.1, v.2] [u.1, u.2] = ll u v := Ma.lexGt_two _ _ _ _
  rw [g]
  unfold wo
  by_cases z : ll v u = true
  · rw [if_pos z, if_pos (show HT.lexLt [v.1, v.2] [u.1, u.2] = true from z), if_neg (by rw [ll_no z]; simp)]; rfl
  · have z' : ll v u = false := by simpa using z
    rw [if_neg z, if_neg (show ¬ HT.lexLt [v.1, v.2] [u.1, u.2] = true from z)]
    by_cases y : ll u v = true
    · rw [if_pos y]; rfl
    · rw [if_neg y]
      have : u = v := by
        by_cases e : u = v
        · exact e
        · exact absurd (ll_or (Ne.symm e) z') y
      subst this; rfl
noncomputable def dgz (n : Nat) : List Nat := (Nat.toDigits 10 n).map Char.toNat
theorem dgz_len : ∀ (k n : Nat), n < 10 ^ (k + 1) → (dgz n).length ≤ k + 1
  | 0, n, h => by
    unfold dgz
    rw [Nat.toDigits_of_lt_base (by simpa using h)]; simp
  | k + 1, n, h => by
    by_cases z : n < 10
    · unfold dgz; rw [Nat.toDigits_of_lt_base z]; simp
    · have h2 : n / 10 < 10 ^ (k + 1) := by
        have : (10 : Nat) ^ (k + 1 + 1) = 10 ^ (k + 1) * 10 := Nat.pow_succ ..
        omega
      have i := dgz_len k (n / 10) h2
      have hm : n % 10 < 10 := Nat.mod_lt n (by decide)
      have t : Nat.toDigits 10 (n / 10) ++ Nat.toDigits 10 (n % 10) = Nat.toDigits 10 (10 * (n / 10) + n % 10) := Nat.toDigits_append_toDigits (by decide) (by omega) hm
      rw [Nat.div_add_mod] at t
      unfold dgz at i ⊢
      rw [← t, List.map_append, List.length_append, Nat.toDigits_of_lt_base hm]
      simp at i ⊢
      omega
theorem shown_bd {i : Int} (h : Bd 200 i) : (PyData.shown (.int i)).length ≤ 62 := by
  have hn : i.natAbs < 10 ^ 61 := Nat.lt_trans h (by decide)
  have len : ∀ x : Str, x.length = x.cps.toList.length := fun x => by simp [PySem.Str.length]
  show (PySem.Str.ofString (toString i)).length ≤ 62
  rcases (show (∃ n : Nat, i = (n : Int)) ∨ ∃ n : Nat, i = -((n + 1 : Nat) : Int) by
    by_cases z : 0 ≤ i
    · exact .inl ⟨i.toNat, by omega⟩
    · exact .inr ⟨(-i - 1).toNat, by omega⟩) with ⟨n, rfl⟩ | ⟨n, rfl⟩
  · have e : (PySem.Str.ofString (toString ((n : Nat) : Int))).cps.toList = dgz n := PySem.W.KIN.signs_num n
    rw [len, e]
    have := dgz_len 60 n (by omega)
    omega
  · have e : (PySem.Str.ofString (toString (-((n + 1 : Nat) : Int)))).cps.toList = 45 :: dgz (n + 1) := by
      rw [show (-((n + 1 : Nat) : Int)) = Int.negSucc n from rfl]
      rw [signs_ofString]
      show ("-" ++ Nat.repr (n + 1)).toList.map Char.toNat = _
      rw [String.toList_append, List.map_append, Nat.toList_repr]
      rfl
    rw [len, e]
    have := dgz_len 60 (n + 1) (by omega)
    simp
    omega
theorem sh_bd {i : Int} (h : Bd 200 i) : PyData.showable (.int i) = true := by
  show decide (i.natAbs.log2 < 1920) = true
  refine decide_eq_true ?_
  by_cases z : i.natAbs = 0
  · rw [z]; decide
  · exact Nat.lt_trans ((Nat.log2_lt z).mpr h) (by decide)
theorem frP_len {q : Rat} (h : Ma.Bq 200 q) : (frP q).shown.length ≤ 140 := by
  show (tupleText [(PyData.int q.num).shown, (PyData.int (q.den : Int)).shown]).length ≤ 140
  refine Nat.le_trans (tupleText_up _) ?_
  rw [piled_cons, piled_cons, piled_nil]
  have a := shown_bd h.1
  have b := shown_bd h.2
  omega
theorem rwP_len {t b x y : Int} {w : Wl} (S : Scl t b x y) (W : Uok (10 ^ 6) w) : (rwP t b x y w).shown.length ≤ 700 ∧ (rwP t b x y w).showable = true := by
  have one : (0 : Int) < 1 ∧ (1 : Int) ≤ 10 ^ 6 := by decide
  have q1 := S.bx one W.1
  have q2 := S.by' one W.2.1
  have q3 := S.bx one W.2.2.1
  have q4 := S.by' one W.2.2.2
  have sp : ∀ {a c : Rat}, Ma.Bq 200 a → Ma.Bq 200 c → (PyData.tuple [frP a, frP c]).shown.length ≤ 300 := fun {a c} h1 h2 => by
    show (tupleText [(frP a).shown, (frP c).shown]).length ≤ 300
    refine Nat.le_trans (tupleText_up _) ?_
    rw [piled_cons, piled_cons, piled_nil]
    have a := frP_len h1
    have b := frP_len h2
    omega
  have sf : ∀ {a : Rat}, Ma.Bq 200 a → (frP a).showable = true := fun {a} h => by
    show (PyData.showable (.int a.num) && (PyData.showable (.int (a.den : Int)) && true)) = true
    rw [sh_bd h.1, sh_bd h.2]; rfl
  refine ⟨?_, ?_⟩
  · show (tupleText [(PyData.tuple [frP (Ma.ut t b x 1 w.1), frP (Ma.ut t b y 1 w.2.1)]).shown, (PyData.tuple [frP (Ma.ut t b x 1 w.2.2.1), frP (Ma.ut t b y 1 w.2.2.2)]).shown]).length ≤ 700
    refine Nat.le_trans (tupleText_up _) ?_
    rw [piled_cons, piled_cons, piled_nil]
    have a := sp q1 q2
    have b := sp q3 q4
    omega
  · show ((PyData.showable (frP _) && (PyData.showable (frP _) && true)) && ((PyData.showable (frP _) && (PyData.showable (frP _) && true)) && true)) = true
    rw [sf q1, sf q2, sf q3, sf q4]; rfl
theorem shn_rws {t b x y : Int} {ws : List Wl} (S : Scl t b x y) (hW : ∀ w ∈ ws, Uok (10 ^ 6) w) (hl : ws.length ≤ 40) : Shn (.tuple (ws.map (rwP t b x y))) := by
  have sz : 1000000 ≤ sizeLine := Nat.le_of_ble_eq_true rfl
  have go : ∀ us : List Wl, (∀ w ∈ us, Uok (10 ^ 6) w) → PyData.showableAll (us.map (rwP t b x y)) = true ∧ PyData.hasDictAll (us.map (rwP t b x y)) = false := fun us => by
    induction us with
    | nil => exact fun _ => ⟨rfl, rfl⟩
    | cons u us ih =>
      intro h
      obtain ⟨a, c⟩ := ih fun w hw => h w (by simp [hw])
      rw [List.map_cons]
      refine ⟨?_, ?_⟩
      · rw [PyData.showableAll, (rwP_len S (h u (by simp))).2, a]; rfl
      · rw [PyData.hasDictAll, c]; rfl
  obtain ⟨a, c⟩ := go ws hW
  refine ⟨a, c, ?_, ?_⟩
  · have := dep_rw t b x y ws
    simp only [PyData.depth]
    omega
  · show (tupleText (PyData.shownAll (ws.map (rwP t b x y)))).length ≤ sizeLine
    rw [shownAll_map]
    refine Nat.le_trans (tupleText_up _) ?_
    have := piled_up (n := 700) (ts := ws.map fun w => (rwP t b x y w).shown) fun z hz => by
      obtain ⟨u, hu, rfl⟩ := List.mem_map.mp hz
      exact (rwP_len S (hW u hu)).1
    rw [List.length_map] at this
    omega
end SD
set_option Elab.async false
set_option linter.all false
set_option maxRecDepth 100000
namespace Q_k60_plots_moved_mirrored_turned
open PySem PySem.Spec PyProof.Rows L2 SD
noncomputable def top (i : Nat) : Stmt := PySem.Challenge.pw_spotlook_k60_plots_moved_mirrored_turned.main.body.getD i (.Pass ⟨0, 0, 0, 0⟩)
noncomputable abbrev s_law_pot : Stmt := top 25
noncomputable abbrev s_law_take : Stmt := top 26
noncomputable abbrev s_law_new_spot : Stmt := top 30
noncomputable abbrev s_law_some_spot : Stmt := top 31
noncomputable abbrev s_law_square : Stmt := top 32
noncomputable abbrev s_law_side : Stmt := top 27
noncomputable abbrev s_law_on : Stmt := top 28
noncomputable abbrev s_law_apart : Stmt := top 29
noncomputable abbrev s_law_laid : Stmt := top 33
noncomputable abbrev s_law_shuts_here : Stmt := top 34
noncomputable abbrev s_law_squares : Stmt := top 45
noncomputable abbrev s_law_frame : Stmt := top 36
noncomputable abbrev s_law_frames : Stmt := top 42
noncomputable abbrev s_law_frac : Stmt := top 35
noncomputable abbrev s_law_given : Stmt := top 37
noncomputable abbrev s_law_plot : Stmt := top 38
noncomputable abbrev s_is_less : Stmt := top 8
noncomputable abbrev s_is_ahead : Stmt := top 10
noncomputable abbrev s_greatest_divisor : Stmt := top 5
noncomputable abbrev s_fraction : Stmt := top 6
noncomputable abbrev s_own_spot : Stmt := top 11
noncomputable abbrev s_own_wall : Stmt := top 12
noncomputable abbrev s_wall_of : Stmt := top 13
noncomputable abbrev s_with_spots : Stmt := top 19
noncomputable abbrev s_turned_spot : Stmt := top 18
noncomputable abbrev s_turned : Stmt := top 22
noncomputable abbrev s_mirrored_spot : Stmt := top 17
noncomputable abbrev s_mirrored : Stmt := top 21
noncomputable abbrev s_plus : Stmt := top 7
noncomputable abbrev s_moved : Stmt := top 20
noncomputable abbrev s_law_same : Stmt := top 39
noncomputable abbrev s_law_moved_spot : Stmt := top 40
noncomputable abbrev s_law_moved_shuts : Stmt := top 41
noncomputable abbrev s_law_right : Stmt := top 44
noncomputable abbrev s_law_order : Stmt := top 43
noncomputable abbrev s_own_plot : Stmt := top 15
noncomputable abbrev s_in_order : Stmt := top 23
noncomputable abbrev s_law : Stmt := top 46
structure Tx (K : PySem.W.Frag) (mg : Str → Option Value) : Prop where
  f_law_pot : Txt K mg "_law_pot" s_law_pot
  f_law_take : Txt K mg "_law_take" s_law_take
  f_law_new_spot : Txt K mg "_law_new_spot" s_law_new_spot
  f_law_some_spot : Txt K mg "_law_some_spot" s_law_some_spot
  f_law_square : Txt K mg "_law_square" s_law_square
  f_law_side : Txt K mg "_law_side" s_law_side
  f_law_on : Txt K mg "_law_on" s_law_on
  f_law_apart : Txt K mg "_law_apart" s_law_apart
  f_law_laid : Txt K mg "_law_laid" s_law_laid
  f_law_shuts_here : Txt K mg "_law_shuts_here" s_law_shuts_here
  f_law_squares : Txt K mg "_law_squares" s_law_squares
  f_law_frame : Txt K mg "_law_frame" s_law_frame
  f_law_frames : Txt K mg "_law_frames" s_law_frames
  f_law_frac : Txt K mg "_law_frac" s_law_frac
  f_law_given : Txt K mg "_law_given" s_law_given
  f_law_plot : Txt K mg "_law_plot" s_law_plot
  f_is_less : Txt K mg "is_less" s_is_less
  f_is_ahead : Txt K mg "is_ahead" s_is_ahead
  f_greatest_divisor : Txt K mg "greatest_divisor" s_greatest_divisor
  f_fraction : Txt K mg "fraction" s_fraction
  f_own_spot : Txt K mg "own_spot" s_own_spot
  f_own_wall : Txt K mg "own_wall" s_own_wall
  f_wall_of : Txt K mg "wall_of" s_wall_of
  f_with_spots : Txt K mg "with_spots" s_with_spots
  f_turned_spot : Txt K mg "turned_spot" s_turned_spot
  f_turned : Txt K mg "turned" s_turned
  f_mirrored_spot : Txt K mg "mirrored_spot" s_mirrored_spot
  f_mirrored : Txt K mg "mirrored" s_mirrored
  f_plus : Txt K mg "plus" s_plus
  f_moved : Txt K mg "moved" s_moved
  f_law_same : Txt K mg "_law_same" s_law_same
  f_law_moved_spot : Txt K mg "_law_moved_spot" s_law_moved_spot
  f_law_moved_shuts : Txt K mg "_law_moved_shuts" s_law_moved_shuts
  f_law_right : Txt K mg "_law_right" s_law_right
  f_law_order : Txt K mg "_law_order" s_law_order
  f_own_plot : Txt K mg "own_plot" s_own_plot
  f_in_order : Txt K mg "in_order" s_in_order
  f_law : Txt K mg "law" s_law
  fc_moved : TxtC K mg "moved" s_moved 137
  lm : Mk K mg 137 133
  kf_with_spots : ∃ f, mg "with_spots" = some (.ref f) ∧ PySem.W.keepIn K (.ref f) = true
  b_abs : mg "abs" = none
  b_int : mg "int" = none
  b_len : mg "len" = none
  b_list : mg "list" = none
  b_max : mg "max" = none
  b_min : mg "min" = none
  b_range : mg "range" = none
  b_repr : mg "repr" = none
  b_tuple : mg "tuple" = none
  b_zip : mg "zip" = none
  r_mirrored_spot : mg "mirrored_spot" = some (.ref (cl K "mirrored_spot"))
  r_turned_spot : mg "turned_spot" = some (.ref (cl K "turned_spot"))
theorem sc_law_pot : FnScope ["_law_script", "_law_k", "_law_cell"] ["_law_script", "_law_k"] (defScope s_law_pot) := ⟨rfl, rfl, rfl, by decide, rfl, by decide, by decide⟩
noncomputable def sp_law_pot : SpD := fun ds M Q => match ds with
  | [x, y] => ∃ (ns : List Int) (k : Int), x = .rol (List.map D.int ns) ∧ y = .int k ∧ 0 ≤ k ∧ ∀ r o, M r = none → Pot (updM M r o) r 0 → Q (.ref r) (updM M r o)
  | _ => False
theorem ln_law_pot : ∀ ds M Q, sp_law_pot ds M Q → ds.length = 2 := fun ds M Q h => by
  unfold sp_law_pot at h
  split at h
  · rfl
  · exact h.elim
set_option maxHeartbeats 4000000 in
theorem c_law_pot {P : Program} {w : World} {K : PySem.W.Frag} {mg : Str → Option Value} {base : Heap} (T : Tx K mg) : Cal P w K mg base 1 "_law_pot" sp_law_pot := by
  refine calD (k := 0) (N := ["_law_script", "_law_k", "_law_cell"]) (ps := ["_law_script", "_law_k"]) T.f_law_pot sc_law_pot (fun _ _ _ _ _ _ us hl => match us, hl with | [_, _], _ => rfl) ln_law_pot fun f cdv A outer s H E hr => ⟨_, (dss_cons (ds_set 2 sc_law_pot.nd de_int)
      (dss_cons (ds_if (dt_cmp (od_ltX hr.units) (dv 1) (de_callB cd_len rfl T.b_len bt_len (da_cons (dv 0) da_nil))) (dss_one (ds_set 2 sc_law_pot.nd (de_ix (dv 0) (dv 1)))) dss_nil)
      (dss_one (ds_ret (de_lst (da_cons (de_callB (cd_maxZ rfl hr.units) rfl T.b_max bt_max (da_cons (dv 2) (da_cons (de_op od_sub (de_un un_negD de_int) (dv 2)) da_nil))) (da_cons (de_op od_mod (dv 2) de_int) (da_cons de_int da_nil)))))))), fun ds M Q h => ?r⟩
  case r =>
    unfold sp_law_pot at h
    split at h
    case h_2 => exact h.elim
    obtain ⟨ns, k, rfl, rfl, hk, q⟩ := h
    refine seq_cut (fun δ M' => M' = M ∧ δ = [some (.rol (List.map D.int ns)), some (.int k), some (.int 0)]) ?_ (fun hu => hu _ _ ⟨rfl, rfl⟩)
    rintro δ M' ⟨e, rfl⟩
    subst M'
    refine seq_cut (fun δ M' => M' = M ∧ ∃ z : Int, δ = [some (.rol (List.map D.int ns)), some (.int k), some (.int z)]) ?_ (fun hu => ?_)
    rotate_left
    · refine ⟨_, rfl, _, rfl, trivial, _, rfl, ?_⟩
      refine ite2 (fun hl => ?_) (fun _ => hu _ _ ⟨rfl, 0, rfl⟩)
      have hl' : k < (ns.length : Int) := by simpa using hl
      obtain ⟨j, rfl⟩ : ∃ j : Nat, k = (j : Int) := ⟨k.toNat, by omega⟩
      have hj : j < ns.length := by omega
      exact ⟨_, rfl, _, rfl, .int ns[j], atI_nat (by simp [hj]), hu _ _ ⟨rfl, _, rfl⟩⟩
    rintro δ M' ⟨e, z, rfl⟩
    subst M'
    have hm := Int.fmod_nonneg_of_pos z (show (0 : Int) < 2147483647 by decide)
    have hm2 := Int.fmod_lt_of_pos z (show (0 : Int) < 2147483647 by decide)
    refine ⟨_, rfl, _, rfl, trivial, ?_⟩
    refine ⟨_, rfl, (show (2147483647 : Int) ≠ 0 by decide), Nat.le_of_ble_eq_true rfl, fun r hr => ?_⟩
    exact rtn (q r _ hr ⟨_, _, _, updM_same, by omega, hm, hm2, by decide, by decide⟩)
theorem sc_law_take : FnScope ["_law_pot_here", "_law_size", "_law_digit", "_law_mixed"] ["_law_pot_here", "_law_size"] (defScope s_law_take) := ⟨rfl, rfl, rfl, by decide, rfl, by decide, by decide⟩
noncomputable def sp_law_take : SpD := fun ds M Q => match ds with
  | [y, z] => ∃ (r : Addr) (b : Int) (n : Nat), y = .ref r ∧ z = .int b ∧ Pot M r n ∧ n < 900000 ∧ 0 < b ∧ Bd 8000 b ∧ ∀ v o, 0 ≤ v → v < b → Pot (updM M r o) r (n + 1) → Q (.int v) (updM M r o)
  | _ => False
theorem ln_law_take : ∀ ds M Q, sp_law_take ds M Q → ds.length = 2 := fun ds M Q h => by
  unfold sp_law_take at h
  split at h
  · rfl
  · exact h.elim
set_option maxHeartbeats 4000000 in
theorem c_law_take {P : Program} {w : World} {K : PySem.W.Frag} {mg : Str → Option Value} {base : Heap} (T : Tx K mg) : Cal P w K mg base 1 "_law_take" sp_law_take := by
  refine calD (k := 0) (N := ["_law_pot_here", "_law_size", "_law_digit", "_law_mixed"]) (ps := ["_law_pot_here", "_law_size"]) T.f_law_take sc_law_take (fun _ _ _ _ _ _ us hl => match us, hl with | [_, _], _ => rfl) ln_law_take fun f cdv A outer s H E hr => ⟨_, (dss_cons (ds_if (dt_cmp (od_gtX hr.units) (de_ix (dv 0) de_int) de_int) (dss_cons (ds_set 2 sc_law_take.nd (de_op od_mod (de_ix (dv 0) de_int) (dv 1)))
      (dss_cons (ds_asg (de_op od_fd (de_ix (dv 0) de_int) (dv 1)) (dg_sub (dv 0) de_int))
      (dss_one (ds_ret (dv 2))))) dss_nil)
      (dss_cons (ds_asg (de_op od_add (de_ix (dv 0) de_int) de_int) (dg_sub (dv 0) de_int))
      (dss_cons (ds_set 3 sc_law_take.nd (de_op od_mod (de_op od_add (de_op od_add (de_op od_mul (de_ix (dv 0) de_int) de_int) (de_op od_mul (de_op od_mul (de_ix (dv 0) de_int) (de_ix (dv 0) de_int)) de_int)) de_int) de_int))
      (dss_cons (ds_set 3 sc_law_take.nd (de_op od_mod (de_op od_mul (dv 3) (dv 3)) de_int))
      (dss_one (ds_ret (de_op od_mod (de_op od_fd (de_op od_mod (de_op od_mul (dv 3) (de_op od_add (dv 3) de_int)) de_int) de_int) (dv 1)))))))), fun ds M Q h => ?r⟩
  case r =>
    unfold sp_law_take at h
    split at h
    case h_2 => exact h.elim
    obtain ⟨r, b, n, rfl, rfl, ⟨x, y, c, hM, hx, hy0, hy1, hc0, hc1⟩, hn, hb, hbd, q⟩ := h
    have hb0 : b ≠ 0 := by omega
    have hm : ∀ n : Int, 0 ≤ n.fmod b ∧ n.fmod b < b := fun n => ⟨Int.fmod_nonneg_of_pos _ hb, Int.fmod_lt_of_pos _ hb⟩
    have hc64 : Bd 64 (c + 1) := by show (c + 1).natAbs < 2 ^ 64; omega
    have hy64 : Bd 64 y := by show y.natAbs < 2 ^ 64; omega
    refine ⟨_, rfl, _, _, hM, rfl, trivial, _, rfl, ?_⟩
    refine ite2 (fun h => ?_) (fun h => ?_)
    · refine ⟨_, rfl, _, _, hM, rfl, _, rfl, hb0, ?_⟩
      refine ⟨_, rfl, _, _, hM, rfl, _, rfl, ⟨hb0, hbd⟩, _, rfl, _, _, hM, rfl, ?_⟩
      have hx2 : 0 ≤ Int.fdiv x b := by rw [Int.fdiv_eq_ediv_of_nonneg _ (by omega)]; exact Int.ediv_nonneg hx (by omega)
      exact ⟨_, rfl, rtn (q _ _ (hm _).1 (hm _).2 ⟨_, _, _, updM_same, hx2, hy0, hy1, hc0, by omega⟩)⟩
    · have hn : ∀ {m : Int} (n : Int), 0 < m → m ≤ 2 ^ 31 → Bd 64 (n.fmod m) := fun {m} n h0 h1 => by
        have a1 := Int.fmod_nonneg_of_pos n h0
        have a2 := Int.fmod_lt_of_pos n h0
        show (n.fmod m).natAbs < 2 ^ 64
        omega
      refine ⟨_, rfl, _, _, hM, rfl, _, rfl, _, _, hM, rfl, ?_⟩
      refine ⟨_, rfl, _, _, updM_same, rfl, mulOk_l hy64, ?_⟩
      refine ⟨_, rfl, _, _, updM_same, rfl, _, rfl, _, _, updM_same, rfl, mulOk_l hc64, mulOk_r (bd64 (by decide)), (show (2147483629 : Int) ≠ 0 by decide), ?_⟩
      refine ⟨_, rfl, _, rfl, mulOk_l (hn _ (by decide) (by decide)), (show (2147483587 : Int) ≠ 0 by decide), ?_⟩
      refine ⟨_, rfl, _, rfl, mulOk_l (hn _ (by decide) (by decide)), (show (2147483563 : Int) ≠ 0 by decide), ⟨by decide, bd64 (by decide)⟩, _, rfl, hb0, ?_⟩
      exact rtn (q _ _ (hm _).1 (hm _).2 ⟨_, _, _, updM_same, hx, hy0, hy1, by omega, by omega⟩)
theorem sc_law_new_spot : FnScope ["_law_pot_here", "_law_wide"] ["_law_pot_here", "_law_wide"] (defScope s_law_new_spot) := ⟨rfl, rfl, rfl, by decide, rfl, by decide, by decide⟩
noncomputable def sp_law_new_spot : SpD := fun ds M Q => match ds with
  | [u, v] => ∃ (r : Addr) (n : Nat) (m : Int), u = .ref r ∧ v = .int m ∧ Pot M r n ∧ n < 800000 ∧ (0 < m ∧ m ≤ 10) ∧ ∀ (p : Vc) M', (4 ≤ p.1 ∧ p.1 ≤ 13) → (4 ≤ p.2 ∧ p.2 ≤ 13) → Kx [r] M M' → Pot M' r (n + 2) → Q (gp 6 24 p) M'
  | _ => False
theorem ln_law_new_spot : ∀ ds M Q, sp_law_new_spot ds M Q → ds.length = 2 := fun ds M Q h => by
  unfold sp_law_new_spot at h
  split at h
  · rfl
  · exact h.elim
set_option maxHeartbeats 4000000 in
theorem c_law_new_spot {P : Program} {w : World} {K : PySem.W.Frag} {mg : Str → Option Value} {base : Heap} (T : Tx K mg) : Cal P w K mg base 2 "_law_new_spot" sp_law_new_spot := by
  refine calD (k := 1) (N := ["_law_pot_here", "_law_wide"]) (ps := ["_law_pot_here", "_law_wide"]) T.f_law_new_spot sc_law_new_spot (fun _ _ _ _ _ _ us hl => match us, hl with | [_, _], _ => rfl) ln_law_new_spot fun f cdv A outer s H E hr => ⟨_, (dss_one (ds_ret (de_tup (da_cons (de_op od_mul de_int (de_call ((c_law_take T).mono (by decide)) hr (da_cons (dv 0) (da_cons (dv 1) da_nil)))) (da_cons (de_op od_mul de_int (de_call ((c_law_take T).mono (by decide)) hr (da_cons (dv 0) (da_cons (dv 1) da_nil)))) da_nil))))), fun ds M Q h => ?r⟩
  case r =>
    unfold sp_law_new_spot at h
    split at h
    case h_2 => exact h.elim
    obtain ⟨r, n, m, rfl, rfl, P0, hn, hm, k⟩ := h
    refine ⟨_, rfl, _, rfl, r, m, n, rfl, rfl, P0, by omega, by omega, bd64 (by omega), fun x o1 hx0 hx1 P1 => ?_⟩
    refine ⟨mulOk_l (bd64 (by decide)), _, rfl, _, rfl, r, m, n + 1, rfl, rfl, P1, by omega, by omega, bd64 (by omega), fun y o2 hy0 hy1 P2 => ⟨mulOk_l (bd64 (by decide)), Nat.le_of_ble_eq_true rfl, ?_⟩⟩
    have e : gp 6 24 (x + 4, y + 4) = .tup [.int (6 * x), .int (6 * y)] := by
      unfold gp
      rw [show 6 * (x + 4, y + 4).1 - 24 = 6 * x by show 6 * (x + 4) - 24 = _; omega, show 6 * (x + 4, y + 4).2 - 24 = 6 * y by show 6 * (y + 4) - 24 = _; omega]
    have := k (x + 4, y + 4) _ ⟨by show 4 ≤ x + 4; omega, by show x + 4 ≤ 13; omega⟩ ⟨by show 4 ≤ y + 4; omega, by show y + 4 ≤ 13; omega⟩ ((Kx.refl.upd (by simp)).upd (by simp)) P2
    rw [e] at this
    exact rtn this
theorem sc_law_some_spot : FnScope ["_law_pot_here", "_law_shuts", "_law_wide"] ["_law_pot_here", "_law_shuts", "_law_wide"] (defScope s_law_some_spot) := ⟨rfl, rfl, rfl, by decide, rfl, by decide, by decide⟩
noncomputable def sp_law_some_spot : SpD := fun ds M Q => match ds with
  | [u, v, x] => ∃ (r l : Addr) (n : Nat) (m : Int) (ws : List Wl), u = .ref r ∧ v = .ref l ∧ x = .int m ∧ r ≠ l ∧ M l = some (.lst (ws.map (gwl 6 24))) ∧ (∀ w ∈ ws, Un5 w) ∧ ws.length ≤ 40 ∧ Pot M r n ∧ n < 700000 ∧ (0 < m ∧ m ≤ 10) ∧ ∀ (p : Vc) M', B20 p → Kx [r] M M' → Pot M' r (n + 3) → Q (gp 6 24 p) M'
  | _ => False
theorem ln_law_some_spot : ∀ ds M Q, sp_law_some_spot ds M Q → ds.length = 3 := fun ds M Q h => by
  unfold sp_law_some_spot at h
  split at h
  · rfl
  · exact h.elim
set_option maxHeartbeats 4000000 in
theorem c_law_some_spot {P : Program} {w : World} {K : PySem.W.Frag} {mg : Str → Option Value} {base : Heap} (T : Tx K mg) : Cal P w K mg base 3 "_law_some_spot" sp_law_some_spot := by
  refine calD (k := 2) (N := ["_law_pot_here", "_law_shuts", "_law_wide"]) (ps := ["_law_pot_here", "_law_shuts", "_law_wide"]) T.f_law_some_spot sc_law_some_spot (fun _ _ _ _ _ _ us hl => match us, hl with | [_, _, _], _ => rfl) ln_law_some_spot fun f cdv A outer s H E hr => ⟨_, (dss_cons (ds_if (dt_w (dw_or (dt_cmp (od_eq hr.units) (dv 1) (de_lst da_nil)) (dw_or1 (dt_cmp (od_eq hr.units) (de_call ((c_law_take T).mono (by decide)) hr (da_cons (dv 0) (da_cons de_int da_nil))) de_int)))) (dss_one (ds_ret (de_call ((c_law_new_spot T).mono (by decide)) hr (da_cons (dv 0) (da_cons (dv 2) da_nil))))) dss_nil)
      (dss_one (ds_ret (de_ix (de_ix (dv 1) (de_call ((c_law_take T).mono (by decide)) hr (da_cons (dv 0) (da_cons (de_callB cd_len rfl T.b_len bt_len (da_cons (dv 1) da_nil)) da_nil)))) (de_call ((c_law_take T).mono (by decide)) hr (da_cons (dv 0) (da_cons de_int da_nil))))))), fun ds M Q h => ?r⟩
  case r =>
    unfold sp_law_some_spot at h
    split at h
    case h_2 => exact h.elim
    obtain ⟨r, l, n, m, ws, rfl, rfl, rfl, nrl, hl, hU, hlen, P0, hn, hm, k⟩ := h
    (try dsimp only [SD.tSeqD, SD.tAsgD, SD.gNameD, SD.tIfSD, SD.tRetD, SD.tNextD, SD.tDropD, SD.tBD, SD.tNotD])
    refine ⟨_, rfl, Nat.le_of_ble_eq_true rfl, fun z hz => ?_⟩
    have hl1 : ∀ {G}, (updM M z G) l = some (.lst (ws.map (gwl 6 24))) := fun {G} => by rw [updM_ne (ne_fresh hl hz)]; exact hl
    have P1 : ∀ {G}, Pot (updM M z G) r n := fun {G} => P0.new hz
    have k1 : ∀ {G}, Kx [r] M (updM M z G) := fun {G} => Kx.refl.new hz
    refine ⟨_, _, .lst hl1 (pds_gw 6 24 ws), .lst updM_same .nil, shaped_gw 6 24 ws, rfl, _, rfl, ?_⟩
    rw [eqv_gw_nil]
    have newS : ∀ {M1 : MH} {n1 : Nat}, Kx [r] M M1 → Pot M1 r n1 → n1 ≤ n + 1 → tRetD (tCallD sp_law_new_spot (tConsD (tVarD 0) (tConsD (tVarD 2) tNilD))) { nx := fun x M' => Ret Q .non M', rt := Ret Q } [some (.ref r), some (.ref l), some (.int m)] M1 := fun {M1 n1} kx P2 le =>
      ⟨_, rfl, _, rfl, r, n1, m, rfl, rfl, P2, by omega, hm, fun p M' p1 p2 kx' P3 => rtn (k p M' ⟨by omega, by omega⟩ (kx.trans kx') (P3.le (by omega)))⟩
    refine ite2 (fun hne => ?_) (fun hne => ?_)
    · exact newS k1 P1 (by omega)
    have hpos : 0 < ws.length := by
      cases ws with
      | nil => simp at hne
      | cons w ws => simp
    refine ⟨_, rfl, r, 3, n, rfl, rfl, P1, by omega, by decide, bd64 (by decide), fun v o h0 h1 P2 => ⟨_, rfl, ?_⟩⟩
    have k2 := k1 (G := .lst [])
    refine ite2 (fun _ => newS (k2.upd (by simp)) P2 (by omega)) (fun _ => ?_)
    have hl2 : (updM (updM M z (.lst [])) r o) l = some (.lst (ws.map (gwl 6 24))) := by rw [updM_ne nrl.symm]; exact hl1
    have k3 : Kx [r] M (updM (updM M z (.lst [])) r o) := k2.upd (by simp)
    refine ⟨_, rfl, _, rfl, _, rfl, _, hl2, r, _, n + 1, rfl, rfl, P2, by omega, (by rw [List.length_map]; omega), bd64 (by rw [List.length_map]; omega), fun v2 o2 a0 a1 P3 => ?_⟩
    obtain ⟨w, hw, ew⟩ := gw_pick (g := 6) (h := 24) (ws := ws) a0 (by rw [List.length_map] at a1; exact a1)
    refine ⟨_, _, (by rw [updM_ne nrl.symm]; exact hl2), ew, ?_⟩
    refine ⟨_, rfl, r, 2, n + 2, rfl, rfl, P3, by omega, by decide, bd64 (by decide), fun v3 o3 b0 b1 P4 => ?_⟩
    obtain ⟨p, bp, ep⟩ := ge_pick (g := 6) (h := 24) (hU w hw) b0 b1
    exact ⟨_, ep, rtn (k p _ bp ((k3.upd (by simp)).upd (by simp)) P4)⟩
theorem sc_law_square : FnScope ["_law_pot_here", "_law_wide", "_law_x", "_law_y", "_law_far"] ["_law_pot_here", "_law_wide"] (defScope s_law_square) := ⟨rfl, rfl, rfl, by decide, rfl, by decide, by decide⟩
noncomputable def sp_law_square : SpD := fun ds M Q => match ds with
  | [u, v] => ∃ (r : Addr) (n : Nat) (m : Int), u = .ref r ∧ v = .int m ∧ Pot M r n ∧ n < 700000 ∧ (0 < m ∧ m ≤ 10) ∧ ∀ (q : Addr) (us : List Vc) M', Kx [r] M M' → r ≠ q → M q = none → M' q = some (.lst (us.map (gp 6 24))) → us.length = 5 → (∀ u ∈ us, B20 u) → Pot M' r (n + 4) → Q (.ref q) M'
  | _ => False
theorem ln_law_square : ∀ ds M Q, sp_law_square ds M Q → ds.length = 2 := fun ds M Q h => by
  unfold sp_law_square at h
  split at h
  · rfl
  · exact h.elim
set_option maxHeartbeats 4000000 in
theorem c_law_square {P : Program} {w : World} {K : PySem.W.Frag} {mg : Str → Option Value} {base : Heap} (T : Tx K mg) : Cal P w K mg base 3 "_law_square" sp_law_square := by
  refine calD (k := 2) (N := ["_law_pot_here", "_law_wide", "_law_x", "_law_y", "_law_far"]) (ps := ["_law_pot_here", "_law_wide"]) T.f_law_square sc_law_square (fun _ _ _ _ _ _ us hl => match us, hl with | [_, _], _ => rfl) ln_law_square fun f cdv A outer s H E hr => ⟨_, (dss_cons (ds_asg (de_call ((c_law_new_spot T).mono (by decide)) hr (da_cons (dv 0) (da_cons (dv 1) da_nil))) (dg_tup rfl (dgs_cons (dg_name 2 sc_law_square.nd) (dgs_cons (dg_name 3 sc_law_square.nd) dgs_nil))))
      (dss_cons (ds_set 4 sc_law_square.nd (de_op od_mul de_int (de_op od_add de_int (de_call ((c_law_take T).mono (by decide)) hr (da_cons (dv 0) (da_cons de_int da_nil))))))
      (dss_cons (ds_if (dt_cmp (od_eq hr.units) (de_call ((c_law_take T).mono (by decide)) hr (da_cons (dv 0) (da_cons de_int da_nil))) de_int) (dss_one (ds_ret (de_lst (da_cons (de_tup (da_cons (de_op od_sub (dv 2) (dv 4)) (da_cons (de_op od_sub (dv 3) (dv 4)) da_nil))) (da_cons (de_tup (da_cons (de_op od_add (dv 2) (dv 4)) (da_cons (de_op od_sub (dv 3) (dv 4)) da_nil))) (da_cons (de_tup (da_cons (de_op od_add (dv 2) (dv 4)) (da_cons (de_op od_add (dv 3) (dv 4)) da_nil))) (da_cons (de_tup (da_cons (de_op od_sub (dv 2) (dv 4)) (da_cons (de_op od_add (dv 3) (dv 4)) da_nil))) (da_cons (de_tup (da_cons (de_op od_sub (dv 2) (dv 4)) (da_cons (de_op od_sub (dv 3) (dv 4)) da_nil))) da_nil)))))))) dss_nil)
      (dss_one (ds_ret (de_lst (da_cons (de_tup (da_cons (de_op od_sub (dv 2) (dv 4)) (da_cons (dv 3) da_nil))) (da_cons (de_tup (da_cons (dv 2) (da_cons (de_op od_sub (dv 3) (dv 4)) da_nil))) (da_cons (de_tup (da_cons (de_op od_add (dv 2) (dv 4)) (da_cons (dv 3) da_nil))) (da_cons (de_tup (da_cons (dv 2) (da_cons (de_op od_add (dv 3) (dv 4)) da_nil))) (da_cons (de_tup (da_cons (de_op od_sub (dv 2) (dv 4)) (da_cons (dv 3) da_nil))) da_nil))))))))))), fun ds M Q h => ?r⟩
  case r =>
    unfold sp_law_square at h
    split at h
    case h_2 => exact h.elim
    obtain ⟨r, n, m, rfl, rfl, P0, hn, hm, k⟩ := h
    refine ⟨_, rfl, _, rfl, r, n, m, rfl, rfl, P0, by omega, hm, fun p M1 p1 p2 kx P1 => ?_⟩
    refine ⟨_, rfl, rfl, _, _, rfl, _, _, rfl, rfl, ?_⟩
    refine ⟨_, rfl, r, 4, n + 2, rfl, rfl, P1, by omega, by decide, bd64 (by decide), fun f o h0 h1 P2 => ⟨mulOk_l (bd64 (by decide)), ?_⟩⟩
    refine ⟨_, rfl, r, 2, n + 3, rfl, rfl, P2, by omega, by decide, bd64 (by decide), fun v o2 a0 a1 P3 => ⟨_, rfl, ?_⟩⟩
    have kx3 : Kx [r] M (updM (updM M1 r o) r o2) := (kx.upd (by simp)).upd (by simp)
    have s1 : 6 * p.1 - 24 - 6 * (1 + f) = 6 * (p.1 - (1 + f)) - 24 := by omega
    have s2 : 6 * p.2 - 24 - 6 * (1 + f) = 6 * (p.2 - (1 + f)) - 24 := by omega
    have s3 : 6 * p.1 - 24 + 6 * (1 + f) = 6 * (p.1 + (1 + f)) - 24 := by omega
    have s4 : 6 * p.2 - 24 + 6 * (1 + f) = 6 * (p.2 + (1 + f)) - 24 := by omega
    have bb : ∀ (x y : Int), (x = p.1 - (1 + f) ∨ x = p.1 ∨ x = p.1 + (1 + f)) → (y = p.2 - (1 + f) ∨ y = p.2 ∨ y = p.2 + (1 + f)) → B20 (x, y) := fun x y hx hy => by
      refine ⟨⟨?_, ?_⟩, ⟨?_, ?_⟩⟩
      · show 0 ≤ x; omega
      · show x ≤ 20; omega
      · show 0 ≤ y; omega
      · show y ≤ 20; omega
    refine ite2 (fun _ => ?_) (fun _ => ?_)
    · refine ⟨_, rfl, _, rfl, trivial, _, rfl, _, rfl, trivial, Nat.le_of_ble_eq_true rfl, ?_⟩
      refine ⟨_, rfl, _, rfl, _, rfl, _, rfl, trivial, Nat.le_of_ble_eq_true rfl, ?_⟩
      refine ⟨_, rfl, _, rfl, _, rfl, _, rfl, Nat.le_of_ble_eq_true rfl, ?_⟩
      refine ⟨_, rfl, _, rfl, trivial, _, rfl, _, rfl, Nat.le_of_ble_eq_true rfl, ?_⟩
      refine ⟨_, rfl, _, rfl, trivial, _, rfl, _, rfl, trivial, Nat.le_of_ble_eq_true rfl, Nat.le_of_ble_eq_true rfl, fun q hq => ?_⟩
      have nq : M q = none := by
        cases e : M q with
        | none => rfl
        | some ob =>
          by_cases z : q = r
          · subst z; rw [updM_same] at hq; cases hq
          · rw [kx3 q ob (by simpa using z) e] at hq; cases hq
      refine rtn (k q [(p.1 - (1 + f), p.2 - (1 + f)), (p.1 + (1 + f), p.2 - (1 + f)), (p.1 + (1 + f), p.2 + (1 + f)), (p.1 - (1 + f), p.2 + (1 + f)), (p.1 - (1 + f), p.2 - (1 + f))] _ (kx3.new hq) (P3.ne hq) nq ?_ rfl ?_ (P3.new hq))
      · rw [updM_same]
        simp only [gp, List.map_cons, List.map_nil]
        rw [← s1, ← s2, ← s3, ← s4]
      · intro u hu
        simp only [List.mem_cons, List.not_mem_nil, or_false] at hu
        rcases hu with rfl | rfl | rfl | rfl | rfl <;> exact bb _ _ (by simp) (by simp)
    · refine ⟨_, rfl, _, rfl, trivial, _, rfl, Nat.le_of_ble_eq_true rfl, ?_⟩
      refine ⟨_, rfl, _, rfl, _, rfl, trivial, Nat.le_of_ble_eq_true rfl, ?_⟩
      refine ⟨_, rfl, _, rfl, _, rfl, Nat.le_of_ble_eq_true rfl, ?_⟩
      refine ⟨_, rfl, _, rfl, _, rfl, Nat.le_of_ble_eq_true rfl, ?_⟩
      refine ⟨_, rfl, _, rfl, trivial, _, rfl, Nat.le_of_ble_eq_true rfl, Nat.le_of_ble_eq_true rfl, fun q hq => ?_⟩
      have nq : M q = none := by
        cases e : M q with
        | none => rfl
        | some ob =>
          by_cases z : q = r
          · subst z; rw [updM_same] at hq; cases hq
          · rw [kx3 q ob (by simpa using z) e] at hq; cases hq
      refine rtn (k q [(p.1 - (1 + f), p.2), (p.1, p.2 - (1 + f)), (p.1 + (1 + f), p.2), (p.1, p.2 + (1 + f)), (p.1 - (1 + f), p.2)] _ (kx3.new hq) (P3.ne hq) nq ?_ rfl ?_ (P3.new hq))
      · rw [updM_same]
        simp only [gp, List.map_cons, List.map_nil]
        rw [← s1, ← s2, ← s3, ← s4]
      · intro u hu
        simp only [List.mem_cons, List.not_mem_nil, or_false] at hu
        rcases hu with rfl | rfl | rfl | rfl | rfl <;> exact bb _ _ (by simp) (by simp)
theorem sc_law_side : FnScope ["_law_shut", "_law_spot", "_law_a", "_law_b", "_law_c", "_law_d", "_law_way"] ["_law_shut", "_law_spot"] (defScope s_law_side) := ⟨rfl, rfl, rfl, by decide, rfl, by decide, by decide⟩
noncomputable def sp_law_side : SpD := fun ds M Q => match ds with
  | [u, v] => ∃ (g h : Int) (w : Wl) (p : Vc), u = gwl g h w ∧ v = gp g h p ∧ Gs g h ∧ Un5 w ∧ B20 p ∧ Q (.int (Int.sign (sd w p.1 p.2))) M
  | _ => False
theorem ln_law_side : ∀ ds M Q, sp_law_side ds M Q → ds.length = 2 := fun ds M Q h => by
  unfold sp_law_side at h
  split at h
  · rfl
  · exact h.elim
set_option maxHeartbeats 4000000 in
theorem c_law_side {P : Program} {w : World} {K : PySem.W.Frag} {mg : Str → Option Value} {base : Heap} (T : Tx K mg) : Cal P w K mg base 1 "_law_side" sp_law_side := by
  refine calD (k := 0) (N := ["_law_shut", "_law_spot", "_law_a", "_law_b", "_law_c", "_law_d", "_law_way"]) (ps := ["_law_shut", "_law_spot"]) T.f_law_side sc_law_side (fun _ _ _ _ _ _ us hl => match us, hl with | [_, _], _ => rfl) ln_law_side fun f cdv A outer s H E hr => ⟨_, (dss_cons (ds_asg (de_ix (dv 0) de_int) (dg_tup rfl (dgs_cons (dg_name 2 sc_law_side.nd) (dgs_cons (dg_name 3 sc_law_side.nd) dgs_nil))))
      (dss_cons (ds_asg (de_ix (dv 0) de_int) (dg_tup rfl (dgs_cons (dg_name 4 sc_law_side.nd) (dgs_cons (dg_name 5 sc_law_side.nd) dgs_nil))))
      (dss_cons (ds_set 6 sc_law_side.nd (de_op od_sub (de_op od_mul (de_op od_sub (dv 4) (dv 2)) (de_op od_sub (de_ix (dv 1) de_int) (dv 3))) (de_op od_mul (de_op od_sub (dv 5) (dv 3)) (de_op od_sub (de_ix (dv 1) de_int) (dv 2)))))
      (dss_one (ds_ret (de_op od_sub (de_callTy cd_int rfl T.b_int bt_int (da_cons (de_cmp (od_gtX hr.units) (dv 6) de_int) da_nil)) (de_callTy cd_int rfl T.b_int bt_int (da_cons (de_cmp (od_ltX hr.units) (dv 6) de_int) da_nil)))))))), fun ds M Q h => ?r⟩
  case r =>
    unfold sp_law_side at h
    split at h
    case h_2 => exact h.elim
    obtain ⟨g, h, w, p, rfl, rfl, G, W, hp, k⟩ := h
    have ba := g_bd G W.a
    have bb := g_bd G W.b
    have bc := g_bd G W.c
    have bd := g_bd G W.d
    refine ⟨_, rfl, _, rfl, _, rfl, rfl, _, _, rfl, _, _, rfl, rfl, ?_⟩
    refine ⟨_, rfl, _, rfl, _, rfl, rfl, _, _, rfl, _, _, rfl, rfl, ?_⟩
    refine ⟨_, rfl, _, rfl, trivial, _, rfl, _, rfl, _, rfl, trivial, mulOk_l ((bc.sub ba).mono (by decide)), ?_⟩
    refine ⟨_, rfl, _, rfl, trivial, _, rfl, _, rfl, _, rfl, trivial, mulOk_l ((bd.sub bb).mono (by decide)), trivial, ?_⟩
    refine ⟨_, rfl, trivial, _, rfl, trivial, trivial, ?_⟩
    have e1 : ∀ z : Int, (if decide (0 < z) = true then (1 : Int) else 0) - (if decide (z < 0) = true then (1 : Int) else 0) = Int.sign z := fun z => by
      rcases Int.lt_trichotomy z 0 with h | h | h
      · rw [Int.sign_eq_neg_one_of_neg h, if_neg (by simp; omega), if_pos (by simpa using h)]; rfl
      · subst h; rfl
      · rw [Int.sign_eq_one_of_pos h, if_pos (by simpa using h), if_neg (by simp; omega)]; rfl
    have e2 := crs_g g h w.1 w.2.1 w.2.2.1 w.2.2.2 p.1 p.2
    unfold crs at e2
    have e3 := e1 ((g * w.2.2.1 - h - (g * w.1 - h)) * (g * p.2 - h - (g * w.2.1 - h)) - (g * w.2.2.2 - h - (g * w.2.1 - h)) * (g * p.1 - h - (g * w.1 - h)))
    have e4 : Int.sign ((g * w.2.2.1 - h - (g * w.1 - h)) * (g * p.2 - h - (g * w.2.1 - h)) - (g * w.2.2.2 - h - (g * w.2.1 - h)) * (g * p.1 - h - (g * w.1 - h))) = Int.sign (sd w p.1 p.2) := by rw [e2, sgn_g G.g0]; rfl
    rw [← e4, ← e3] at k
    exact rtn k
theorem sc_law_on : FnScope ["_law_shut", "_law_spot"] ["_law_shut", "_law_spot"] (defScope s_law_on) := ⟨rfl, rfl, rfl, by decide, rfl, by decide, by decide⟩
noncomputable def sp_law_on : SpD := fun ds M Q => match ds with
  | [u, v] => ∃ (g h : Int) (w : Wl) (p : Vc), u = gwl g h w ∧ v = gp g h p ∧ Gs g h ∧ Un5 w ∧ B20 p ∧ Q (.bl (decide (l1 w ≤ la p.1 p.2) && (decide (la p.1 p.2 ≤ l2 w) && decide (sd w p.1 p.2 = 0)))) M
  | _ => False
theorem ln_law_on : ∀ ds M Q, sp_law_on ds M Q → ds.length = 2 := fun ds M Q h => by
  unfold sp_law_on at h
  split at h
  · rfl
  · exact h.elim
set_option maxHeartbeats 4000000 in
theorem c_law_on {P : Program} {w : World} {K : PySem.W.Frag} {mg : Str → Option Value} {base : Heap} (T : Tx K mg) : Cal P w K mg base 2 "_law_on" sp_law_on := by
  refine calD (k := 1) (N := ["_law_shut", "_law_spot"]) (ps := ["_law_shut", "_law_spot"]) T.f_law_on sc_law_on (fun _ _ _ _ _ _ us hl => match us, hl with | [_, _], _ => rfl) ln_law_on fun f cdv A outer s H E hr => ⟨_, (dss_one (ds_ret (de_and (de_cmp (od_leX hr.units) (de_ix (dv 0) de_int) (dv 1)) (de_and (de_cmp (od_leX hr.units) (dv 1) (de_ix (dv 0) de_int)) (de_one (de_cmp (od_eq hr.units) (de_call ((c_law_side T).mono (by decide)) hr (da_cons (dv 0) (da_cons (dv 1) da_nil))) de_int)))))), fun ds M Q h => ?r⟩
  case r =>
    unfold sp_law_on at h
    split at h
    case h_2 => exact h.elim
    obtain ⟨g, h, w, p, rfl, rfl, G, W, hp, k⟩ := h
    (try dsimp only [SD.tSeqD, SD.tAsgD, SD.gNameD, SD.tIfSD, SD.tRetD, SD.tNextD, SD.tDropD, SD.tBD, SD.tNotD])
    refine andV (decide (l1 w ≤ la p.1 p.2)) (decide (la p.1 p.2 ≤ l2 w) && decide (sd w p.1 p.2 = 0)) (fun K hK => ?_) (fun _ K hK => ?_) (rtn k)
    · refine ⟨_, rfl, _, rfl, _, rfl, [g * w.1 - h, g * w.2.1 - h], [g * p.1 - h, g * p.2 - h], rfl, rfl, ?_⟩
      rw [lexLe_g G.g0, le_la W.b hp.2]
      exact hK
    · refine andV (decide (la p.1 p.2 ≤ l2 w)) (decide (sd w p.1 p.2 = 0)) (fun K' hK' => ?_) (fun _ K' hK' => ?_) hK
      · refine ⟨_, rfl, _, rfl, _, rfl, [g * p.1 - h, g * p.2 - h], [g * w.2.2.1 - h, g * w.2.2.2 - h], rfl, rfl, ?_⟩
        rw [lexLe_g G.g0, le_la hp.2 W.d]
        exact hK'
      · refine ⟨_, rfl, _, rfl, g, h, w, p, rfl, rfl, G, W, hp, ?_⟩
        have e : decide (Int.sign (sd w p.1 p.2) = 0) = decide (sd w p.1 p.2 = 0) := by
          rw [decide_eq_decide]; exact Int.sign_eq_zero_iff_zero
        show K' (.bl (decide _)) _
        rw [e]
        exact hK'
theorem sc_law_apart : FnScope ["_law_one", "_law_other", "_law_shut", "_law_ends", "_law_spot", "_law_both"] ["_law_one", "_law_other"] (defScope s_law_apart) := ⟨rfl, rfl, rfl, by decide, rfl, by decide, by decide⟩
noncomputable def sp_law_apart : SpD := fun ds M Q => match ds with
  | [u, v] => ∃ (g h : Int) (U V : Wl), u = gwl g h U ∧ v = gwl g h V ∧ Gs g h ∧ Un5 U ∧ Un5 V ∧ ∀ b : Bool, (b = true → Fair U V) → Q (.bl b) M
  | _ => False
theorem ln_law_apart : ∀ ds M Q, sp_law_apart ds M Q → ds.length = 2 := fun ds M Q h => by
  unfold sp_law_apart at h
  split at h
  · rfl
  · exact h.elim
set_option maxHeartbeats 4000000 in
theorem c_law_apart {P : Program} {w : World} {K : PySem.W.Frag} {mg : Str → Option Value} {base : Heap} (T : Tx K mg) : Cal P w K mg base 3 "_law_apart" sp_law_apart := by
  refine calD (k := 2) (N := ["_law_one", "_law_other", "_law_shut", "_law_ends", "_law_spot", "_law_both"]) (ps := ["_law_one", "_law_other"]) T.f_law_apart sc_law_apart (fun _ _ _ _ _ _ us hl => match us, hl with | [_, _], _ => rfl) ln_law_apart fun f cdv A outer s H E hr => ⟨_, (dss_cons (ds_for PassesOwn.never rfl (di_seq (de_lst (da_cons (de_tup (da_cons (dv 0) (da_cons (dv 1) da_nil))) (da_cons (de_tup (da_cons (dv 1) (da_cons (dv 0) da_nil))) da_nil)))) (dg_tup rfl (dgs_cons (dg_name 2 sc_law_apart.nd) (dgs_cons (dg_name 3 sc_law_apart.nd) dgs_nil))) (dss_one (ds_for PassesOwn.never rfl (di_seq (dv 3)) (dg_name 4 sc_law_apart.nd) (dss_one (ds_if (dt_w (dw_and (dt_val (de_call ((c_law_on T).mono (by decide)) hr (da_cons (dv 2) (da_cons (dv 4) da_nil)))) (dw_and1 (dt_cmp (od_notin (ru66 hr)) (dv 4) (dv 2) (by with_unfolding_all rfl))))) (dss_one (ds_ret de_bl)) dss_nil)))))
      (dss_cons (ds_set 5 sc_law_apart.nd (de_cmp (od_ltX hr.units) (de_op od_mul (de_call ((c_law_side T).mono (by decide)) hr (da_cons (dv 0) (da_cons (de_ix (dv 1) de_int) da_nil))) (de_call ((c_law_side T).mono (by decide)) hr (da_cons (dv 0) (da_cons (de_ix (dv 1) de_int) da_nil)))) de_int))
      (dss_one (ds_ret (de_and (de_cmp (od_ne hr.units) (dv 0) (dv 1)) (de_one (de_not (de_and (dv 5) (de_one (de_cmp (od_ltX hr.units) (de_op od_mul (de_call ((c_law_side T).mono (by decide)) hr (da_cons (dv 1) (da_cons (de_ix (dv 0) de_int) da_nil))) (de_call ((c_law_side T).mono (by decide)) hr (da_cons (dv 1) (da_cons (de_ix (dv 0) de_int) da_nil)))) de_int)))))))))), fun ds M Q h => ?r⟩
  case r =>
    unfold sp_law_apart at h
    split at h
    case h_2 => exact h.elim
    obtain ⟨g, h, U, V, rfl, rfl, G, HU, HV, k⟩ := h
    refine seq_cut (fun δ M' => SD.Sub M M' ∧ (∃ o2 o3 o4, δ = [some (gwl g h U), some (gwl g h V), o2, o3, o4, none]) ∧ (EndOk U (l1 V) (sd1 U V) ∧ EndOk U (l2 V) (sd2 U V)) ∧ (EndOk V (l1 U) (sd1 V U) ∧ EndOk V (l2 U) (sd2 V U))) ?_ (fun hu => ?_)
    rotate_left
    · refine ⟨_, rfl, _, rfl, Nat.le_of_ble_eq_true rfl, _, rfl, _, rfl, Nat.le_of_ble_eq_true rfl, Nat.le_of_ble_eq_true rfl, fun lp hlp => ⟨[.tup [gwl g h U, gwl g h V], .tup [gwl g h V, gwl g h U]], updM_same, ?_⟩⟩
      refine ⟨fun i δ M' => (SD.Sub M M' ∧ M' lp = some (.lst [.tup [gwl g h U, gwl g h V], .tup [gwl g h V, gwl g h U]])) ∧ (∃ o2 o3 o4, δ = [some (gwl g h U), some (gwl g h V), o2, o3, o4, none]) ∧ (0 < i → EndOk U (l1 V) (sd1 U V) ∧ EndOk U (l2 V) (sd2 U V)) ∧ (1 < i → EndOk V (l1 U) (sd1 V U) ∧ EndOk V (l2 U) (sd2 V U)), ⟨⟨.new hlp .refl, updM_same⟩, ⟨_, _, _, rfl⟩, fun z => absurd z (by decide), fun z => absurd z (by decide)⟩, fun _ _ _ _ q => q.1.2, ?_, ?_⟩
      · rintro i d δ M' hi hd ⟨⟨sb, hlp'⟩, ⟨o2, o3, o4, rfl⟩, p1, p2⟩
        have hi : i < 2 := hi
        have hd : [D.tup [gwl g h U, gwl g h V], .tup [gwl g h V, gwl g h U]][i]? = some d := hd
        have pick : ∃ A B, d = .tup [gwl g h A, gwl g h B] ∧ Un5 A ∧ Un5 B ∧ ((EndOk A (l1 B) (sd1 A B) ∧ EndOk A (l2 B) (sd2 A B)) → (0 < i + 1 → EndOk U (l1 V) (sd1 U V) ∧ EndOk U (l2 V) (sd2 U V)) ∧ (1 < i + 1 → EndOk V (l1 U) (sd1 V U) ∧ EndOk V (l2 U) (sd2 V U))) := by
          rcases (show i = 0 ∨ i = 1 by omega) with rfl | rfl
          · cases hd
            exact ⟨U, V, rfl, HU, HV, fun z => ⟨fun _ => z, fun y => absurd y (by decide)⟩⟩
          · cases hd
            exact ⟨V, U, rfl, HV, HU, fun z => ⟨fun _ => p1 (by decide), fun _ => z⟩⟩
        obtain ⟨A, B, rfl, HA, HB, nxt⟩ := pick
        refine ⟨_, rfl, rfl, _, _, rfl, _, _, rfl, rfl, ?_⟩
        refine ⟨_, rfl, [gp g h (ea B), gp g h (eb B)], rfl, ?_⟩
        refine ⟨fun j δ M'' => M'' = M' ∧ (∃ o4, δ = [some (gwl g h U), some (gwl g h V), some (gwl g h A), some (gwl g h B), o4, none]) ∧ (0 < j → EndOk A (l1 B) (sd1 A B)) ∧ (1 < j → EndOk A (l2 B) (sd2 A B)), ⟨rfl, ⟨_, rfl⟩, fun z => absurd z (by decide), fun z => absurd z (by decide)⟩, fun _ _ _ _ _ => rfl, ?_, ?_⟩
        · rintro j d δ M'' hj hd ⟨e, ⟨o4, rfl⟩, q1, q2⟩
          subst M''
          have hj : j < 2 := hj
          have hd : [gp g h (ea B), gp g h (eb B)][j]? = some d := hd
          have pk : ∃ p : Vc, d = gp g h p ∧ B20 p ∧ (EndOk A (la p.1 p.2) (sd A p.1 p.2) → (0 < j + 1 → EndOk A (l1 B) (sd1 A B)) ∧ (1 < j + 1 → EndOk A (l2 B) (sd2 A B))) := by
            rcases (show j = 0 ∨ j = 1 by omega) with rfl | rfl
            · cases hd
              exact ⟨_, rfl, HB.ea, fun z => ⟨fun _ => z, fun y => absurd y (by decide)⟩⟩
            · cases hd
              exact ⟨_, rfl, HB.eb, fun z => ⟨fun _ => q1 (by decide), fun _ => z⟩⟩
          obtain ⟨p, rfl, hp, nx2⟩ := pk
          (try dsimp only [SD.tSeqD, SD.tAsgD, SD.gNameD, SD.tIfSD, SD.tRetD, SD.tNextD, SD.tDropD, SD.tBD, SD.tNotD])
          refine andT (decide (l1 A ≤ la p.1 p.2) && (decide (la p.1 p.2 ≤ l2 A) && decide (sd A p.1 p.2 = 0))) (!(decide (ea A = p) || decide (eb A = p))) (fun K hK => ⟨_, rfl, _, rfl, g, h, A, p, rfl, rfl, G, HA, hp, _, rfl, hK⟩) (fun _ K hK => ⟨_, rfl, _, rfl, ?_⟩) ?_
          · refine ⟨_, _, Pd.of rfl, .inr (Pd.of rfl), rfl, rfl, _, rfl, ?_⟩
            rw [List.any_cons, List.any_cons, List.any_nil, gp_eqv G.g0, gp_eqv G.g0, Bool.or_false]
            exact hK
          refine ite2 (fun _ => ⟨M, sb, k false (fun z => absurd z Bool.false_ne_true)⟩) (fun hh => ?_)
          refine ⟨rfl, ⟨_, rfl⟩, nx2 (endOk_of HA hp.2 ?_)⟩
          have e1 : decide (ea A = p) = decide (A.1 = p.1 ∧ A.2.1 = p.2) := by
            rw [decide_eq_decide]; exact ⟨fun z => by rw [← z]; exact ⟨rfl, rfl⟩, fun z => Prod.ext z.1 z.2⟩
          have e2 : decide (eb A = p) = decide (A.2.2.1 = p.1 ∧ A.2.2.2 = p.2) := by
            rw [decide_eq_decide]; exact ⟨fun z => by rw [← z]; exact ⟨rfl, rfl⟩, fun z => Prod.ext z.1 z.2⟩
          have hh := eq_false_of_ne_true hh
          rw [e1, e2] at hh
          have key : ∀ a b c d : Bool, ((a && (b && c)) && d) = false → (d && ((a && b) && c)) = false := by decide
          exact key _ _ _ _ hh
        · rintro δ M'' ⟨e, ⟨o4, rfl⟩, q1, q2⟩
          subst M''
          exact ⟨⟨sb, hlp'⟩, ⟨_, _, _, rfl⟩, nxt ⟨q1 (show 0 < 2 by decide), q2 (show 1 < 2 by decide)⟩⟩
      · rintro δ M' ⟨⟨sb, _⟩, ⟨o2, o3, o4, rfl⟩, p1, p2⟩
        exact hu _ _ ⟨sb, ⟨_, _, _, rfl⟩, p1 (show 0 < 2 by decide), p2 (show 1 < 2 by decide)⟩
    rintro δ M' ⟨sb, ⟨o2, o3, o4, rfl⟩, ⟨e1, e2⟩, ⟨e3, e4⟩⟩
    refine ⟨_, rfl, _, rfl, _, rfl, g, h, U, ea V, rfl, rfl, G, HU, HV.ea, ?_⟩
    refine ⟨_, rfl, _, rfl, _, rfl, g, h, U, eb V, rfl, rfl, G, HU, HV.eb, mulOk_l (sg_bd _), trivial, ?_⟩
    have ne1 : ∀ b : Bool, b = (!PyData.eqv (.tuple [.tuple [.int (g * U.1 - h), .int (g * U.2.1 - h)], .tuple [.int (g * U.2.2.1 - h), .int (g * U.2.2.2 - h)]]) (.tuple [.tuple [.int (g * V.1 - h), .int (g * V.2.1 - h)], .tuple [.int (g * V.2.2.1 - h), .int (g * V.2.2.2 - h)]])) → b = true → ¬ (l1 U = l1 V ∧ l2 U = l2 V) := fun b e z ⟨z1, z2⟩ => by
      obtain ⟨a1, a2⟩ := la_inj HU.b HV.b z1
      obtain ⟨a3, a4⟩ := la_inj HU.d HV.d z2
      rw [e, a1, a2, a3, a4] at z
      simp [PyData.eqv, PyData.eqvAll] at z
    generalize eb1 : (!PyData.eqv (.tuple [.tuple [.int (g * U.1 - h), .int (g * U.2.1 - h)], .tuple [.int (g * U.2.2.1 - h), .int (g * U.2.2.2 - h)]]) (.tuple [.tuple [.int (g * V.1 - h), .int (g * V.2.1 - h)], .tuple [.int (g * V.2.2.1 - h), .int (g * V.2.2.2 - h)]])) = b1 at ne1
    (try dsimp only [SD.tSeqD, SD.tAsgD, SD.gNameD, SD.tIfSD, SD.tRetD, SD.tNextD, SD.tDropD, SD.tBD, SD.tNotD])
    refine andV b1 (!(decide (Int.sign (sd1 U V) * Int.sign (sd2 U V) < 0) && decide (Int.sign (sd1 V U) * Int.sign (sd2 V U) < 0))) (fun K hK => ⟨_, rfl, _, rfl, _, _, Pd.of rfl, Pd.of rfl, rfl, rfl, ?_⟩) (fun _ K hK => ?_) ⟨M, sb, k _ fun z => ?_⟩
    · rw [← eb1] at hK; exact hK
    · exact andV (decide (Int.sign (sd1 U V) * Int.sign (sd2 U V) < 0)) (decide (Int.sign (sd1 V U) * Int.sign (sd2 V U) < 0)) (fun K' hK' => ⟨_, rfl, hK'⟩) (fun _ K' hK' => ⟨_, rfl, _, rfl, _, rfl, g, h, V, ea U, rfl, rfl, G, HV, HU.ea, _, rfl, _, rfl, _, rfl, g, h, V, eb U, rfl, rfl, G, HV, HU.eb, mulOk_l (sg_bd _), trivial, hK'⟩) ⟨_, rfl, hK⟩
    · rw [Bool.and_eq_true] at z
      refine ⟨ne1 b1 rfl z.1, e1, e2, e3, e4, ?_⟩
      have := z.2
      by_cases c1 : Int.sign (sd1 U V) * Int.sign (sd2 U V) < 0
      · by_cases c2 : Int.sign (sd1 V U) * Int.sign (sd2 V U) < 0
        · rw [decide_eq_true c1, decide_eq_true c2] at this; cases this
        · exact .inr (by omega)
      · exact .inl (by omega)
theorem sc_law_laid : FnScope ["_law_pot_here", "_law_shuts", "_law_spots", "_law_one", "_law_other", "_law_shut"] ["_law_pot_here", "_law_shuts", "_law_spots"] (defScope s_law_laid) := ⟨rfl, rfl, rfl, by decide, rfl, by decide, by decide⟩
noncomputable def sp_law_laid : SpD := fun ds M Q => match ds with
  | [u, v, w] => ∃ (r l q : Addr) (n : Nat) (ws : List Wl) (us : List Vc), u = .ref r ∧ v = .ref l ∧ w = .ref q ∧ r ≠ l ∧ q ≠ l ∧ q ≠ r ∧ M l = some (.lst (ws.map (gwl 6 24))) ∧ (∀ w ∈ ws, Un5 w) ∧ PF ws ∧ ws.length ≤ 30 ∧ M q = some (.lst (us.map (gp 6 24))) ∧ (∀ u ∈ us, B20 u) ∧ us.length ≤ 6 ∧ Pot M r n ∧ n < 600000 ∧
      ∀ (ws' : List Wl) M', Kx [r, l] M M' → M' l = some (.lst (ws'.map (gwl 6 24))) → (∀ w ∈ ws', Un5 w) → PF ws' → ws'.length ≤ ws.length + 5 → Pot M' r (n + 6) → Q .non M'
  | _ => False
theorem ln_law_laid : ∀ ds M Q, sp_law_laid ds M Q → ds.length = 3 := fun ds M Q h => by
  unfold sp_law_laid at h
  split at h
  · rfl
  · exact h.elim
set_option maxHeartbeats 4000000 in
theorem c_law_laid {P : Program} {w : World} {K : PySem.W.Frag} {mg : Str → Option Value} {base : Heap} (T : Tx K mg) : Cal P w K mg base 4 "_law_laid" sp_law_laid := by
  refine calD (k := 3) (N := ["_law_pot_here", "_law_shuts", "_law_spots", "_law_one", "_law_other", "_law_shut"]) (ps := ["_law_pot_here", "_law_shuts", "_law_spots"]) T.f_law_laid sc_law_laid (fun _ _ _ _ _ _ us hl => match us, hl with | [_, _, _], _ => rfl) ln_law_laid fun f cdv A outer s H E hr => ⟨_, (dss_one (ds_for PassesOwn.never rfl (di_zip rfl T.b_zip (da_cons (dv 2) (da_cons (de_slice (dv 2) (do_some de_int) do_none) da_nil))) (dg_tup rfl (dgs_cons (dg_name 3 sc_law_laid.nd) (dgs_cons (dg_name 4 sc_law_laid.nd) dgs_nil))) (dss_cons (ds_set 5 sc_law_laid.nd (de_tup (da_cons (de_callB (cd_minZ rfl hr.units) rfl T.b_min bt_min (da_cons (dv 3) (da_cons (dv 4) da_nil))) (da_cons (de_callB (cd_maxZ rfl hr.units) rfl T.b_max bt_max (da_cons (dv 3) (da_cons (dv 4) da_nil))) da_nil))))
      (dss_one (ds_if (dt_w (dw_and (dt_cmp (od_ne hr.units) (dv 3) (dv 4)) (dw_and1 (dt_cmp (od_notin (ru66 hr)) de_bl (de_comp1 (CScope.of (xs := ["_law_some"]) (js := [5]) rfl) rfl (di_seq (dv 1)) (fun _ _ _ _ => dts_nil) (fun _ _ _ _ => (de_call ((c_law_apart T).mono (by decide)) hr (da_cons (dv 1) (da_cons (dv 0) da_nil))))) (by with_unfolding_all rfl))))) (dss_one (ds_expr (de_m_insert (dv 1) (da_cons (de_call ((c_law_take T).mono (by decide)) hr (da_cons (dv 0) (da_cons (de_op od_add (de_callB cd_len rfl T.b_len bt_len (da_cons (dv 1) da_nil)) de_int) da_nil))) (da_cons (dv 5) da_nil))))) dss_nil))))), fun ds M Q h => ?r⟩
  case r =>
    unfold sp_law_laid at h
    split at h
    case h_2 => exact h.elim
    obtain ⟨r, l, q, n, ws, us, rfl, rfl, rfl, nrl, nql, nqr, hl, hU, hF, hlen, hq, hB, hul, P0, hn, k⟩ := h
    refine ⟨_, rfl, _, rfl, _, rfl, _, hq, fun q2 hq2 => ?_⟩
    rw [cut_from1]
    have nq2 : ∀ {a o}, M a = some o → a ≠ q2 := fun h => ne_fresh h hq2
    have lq : r ≠ q2 := P0.ne hq2
    refine ⟨q, q2, us.map (gp 6 24), (us.drop 1).map (gp 6 24), rfl, (by rw [updM_ne (nq2 hq)]; exact hq), updM_same, ?_⟩
    have hmn : min (us.map (gp 6 24)).length ((us.drop 1).map (gp 6 24)).length ≤ 5 := by simp; omega
    refine ⟨fun i δ M' => ∃ (ws' : List Wl) (o3 o4 o5 : Option D), δ = [some (.ref r), some (.ref l), some (.ref q), o3, o4, o5] ∧ Kx [r, l] M M' ∧ M' q2 = some (.lst ((us.drop 1).map (gp 6 24))) ∧ M' l = some (.lst (ws'.map (gwl 6 24))) ∧ (∀ w ∈ ws', Un5 w) ∧ PF ws' ∧ ws'.length ≤ ws.length + i ∧ Pot M' r (n + i),
      ⟨ws, _, _, _, rfl, Kx.refl.new hq2, updM_same, by rw [updM_ne (nq2 hl)]; exact hl, hU, hF, by omega, P0.new hq2⟩, fun i δ M' _ z => let ⟨_, _, _, _, _, kx, h2, _⟩ := z; ⟨kx q _ (by simp [nql, nqr]) hq, h2⟩, ?_, ?_⟩
    rotate_left
    · rintro δ M' ⟨ws', o3, o4, o5, rfl, kx, h2, hl', hU', hF', hlen', P'⟩
      have hlen' : ws'.length ≤ ws.length + min (us.map (gp 6 24)).length ((us.drop 1).map (gp 6 24)).length := hlen'
      have P' : Pot M' r (n + min (us.map (gp 6 24)).length ((us.drop 1).map (gp 6 24)).length) := P'
      exact rtn (k ws' M' kx hl' hU' hF' (by omega) (P'.le (by omega)))
    rintro i d δ M' hi hd ⟨ws', o3, o4, o5, rfl, kx, h2, hl', hU', hF', hlen', P'⟩
    have hi : i < min (us.map (gp 6 24)).length ((us.drop 1).map (gp 6 24)).length := hi
    have hd : ((us.map (gp 6 24))[i]?).bind (fun d => (((us.drop 1).map (gp 6 24))[i]?).map fun e => D.tup [d, e]) = some d := hd
    have iu : i < us.length := by simp at hi; omega
    have iv : 1 + i < us.length := by simp at hi; omega
    obtain ⟨u, v, rfl, bu, bv⟩ : ∃ u v, d = .tup [gp 6 24 u, gp 6 24 v] ∧ B20 u ∧ B20 v := by
      refine ⟨us[i], us[1 + i], ?_, hB _ (List.getElem_mem iu), hB _ (List.getElem_mem iv)⟩
      rw [List.getElem?_map, List.getElem?_eq_getElem iu, List.getElem?_map, List.getElem?_drop, List.getElem?_eq_getElem iv] at hd
      cases hd
      rfl
    refine ⟨_, rfl, rfl, _, _, rfl, _, _, rfl, rfl, ?_⟩
    refine ⟨_, rfl, _, rfl, [6 * u.1 - 24, 6 * u.2 - 24], [6 * v.1 - 24, 6 * v.2 - 24], rfl, rfl, ?_⟩
    refine ⟨_, rfl, _, rfl, [6 * u.1 - 24, 6 * u.2 - 24], [6 * v.1 - 24, 6 * v.2 - 24], rfl, rfl, Nat.le_of_ble_eq_true rfl, ?_⟩
    refine ⟨_, rfl, _, rfl, _, _, Pd.of rfl, Pd.of rfl, rfl, rfl, _, rfl, ?_⟩
    rw [gp_eqv (by decide)]
    refine ite2 (fun hne => ?_) (fun _ => ?_)
    rotate_left
    · refine iteB rfl ?_
      exact ⟨ws', _, _, _, rfl, kx, h2, hl', hU', hF', by omega, P'.le (by omega)⟩
    have hne : u ≠ v := fun z => by rw [z] at hne; simp at hne
    obtain ⟨w, hw, e1, e2⟩ := order_g (g := 6) (h := 24) (by decide) bu bv hne
    rw [e1, e2]
    refine ⟨_, rfl, ws'.map (gwl 6 24), hl', ?_⟩
    refine ⟨by simp; omega, fun z hz => ?_⟩
    have nz : ∀ {a o}, M' a = some o → a ≠ z := fun h => ne_fresh h hz
    refine ⟨fun j ys M2 => ∃ bs : List Bool, ys = bs.map D.bl ∧ bs.length = j ∧ (∀ (t : Nat) (v : Wl), bs[t]? = some true → ws'[t]? = some v → Fair w v) ∧ M2 = updM M' z (.lst ys), ⟨[], rfl, rfl, fun t v h => by simp at h, rfl⟩, ?_, ?_, ?_⟩
    · rintro j ys M2 _ ⟨bs, _, _, _, rfl⟩
      show (updM M' z _) l = _
      rw [updM_ne (nz hl')]; exact hl'
    · rintro j ys d M2 hj hd ⟨bs, rfl, hlen2, hf, rfl⟩
      have hd : (ws'.map (gwl 6 24))[j]? = some d := hd
      rw [List.getElem?_map] at hd
      cases ev : ws'[j]? with
      | none => rw [ev] at hd; cases hd
      | some v =>
        rw [ev] at hd
        cases hd
        refine ⟨_, rfl, ?_⟩
        dsimp only [SD.tTrueD]
        refine iteT ?_
        refine ⟨_, rfl, _, rfl, 6, 24, w, v, rfl, rfl, ⟨by decide, by decide, by decide, by decide⟩, hw, hU' v (List.mem_of_getElem? ev), fun b hb => ?_⟩
        refine ⟨_, .refl, updM_same, bs ++ [b], by simp, by simp [hlen2], fun t v' ht hv' => ?_, by rw [updM_updM]⟩
        rcases Nat.lt_trichotomy t bs.length with y | y | y
        · rw [List.getElem?_append_left y] at ht
          exact hf t v' ht hv'
        · subst y
          rw [List.getElem?_append_right (Nat.le_refl _)] at ht
          have hb' : b = true := by simpa using ht
          rw [hlen2, ev] at hv'
          cases hv'
          exact hb hb'
        · rw [List.getElem?_eq_none (by simp; omega)] at ht; cases ht
    rintro ys M2 ⟨bs, rfl, hlen2, hf, rfl⟩
    have hlen3 : bs.length = ws'.length := by rw [hlen2]; simp
    have c2 : ∀ {a o}, M' a = some o → (updM M' z (.lst (bs.map D.bl))) a = some o := fun h => by rw [updM_ne (nz h)]; exact h
    refine ⟨_, _, .bl false, .inl (.lst updM_same (pds_bl bs)), rfl, lay_bl bs, _, rfl, ?_⟩
    rw [any_bl]
    have P2 : Pot (updM M' z (.lst (bs.map D.bl))) r (n + i) := P'.new hz
    have kx2 : Kx [r, l] M (updM M' z (.lst (bs.map D.bl))) := kx.new hz
    have hl2 := c2 hl'
    have hq3 := c2 h2
    generalize updM M' z (.lst (bs.map D.bl)) = M3 at P2 kx2 hl2 hq3 ⊢
    refine ite2 (fun hall => ?_) (fun _ => ⟨ws', _, _, _, rfl, kx2, hq3, hl2, hU', hF', by omega, P2.le (by omega)⟩)
    refine ⟨_, rfl, l, _, rfl, hl2, ?_⟩
    refine ⟨_, rfl, _, rfl, _, hl2, r, _, n + i, rfl, rfl, P2, by omega, (by rw [List.length_map]; omega), bd64 (by rw [List.length_map]; omega), fun v o h0 h1 P3 => ?_⟩
    rw [List.length_map] at h1
    obtain ⟨j, rfl⟩ : ∃ j : Nat, v = (j : Int) := ⟨v.toNat, by omega⟩
    refine ⟨_, rfl, _, _, j, rfl, (by rw [updM_ne nrl.symm]; exact hl2), (by rw [List.length_map]; omega), (by rw [List.length_map]; omega), ?_⟩
    have nq2l : q2 ≠ l := fun e => by rw [e] at hq2; rw [hl] at hq2; cases hq2
    refine ⟨insD ws' j w, _, _, _, rfl, (kx2.upd (by simp)).upd (by simp), (by rw [updM_ne nq2l, updM_ne lq.symm]; exact hq3), ?_, fun x hx => ?_, pf_ins hF' fun t v hv => hf t v ?_ hv, ?_, P3.upd nrl⟩
    · rw [updM_same]
      exact congrArg (fun z => some (MO.lst z)) (insD_map (gwl 6 24) ws' j w)
    · have := (insD_perm ws' j w).mem_iff.mp hx
      rcases List.mem_cons.mp this with z | z
      · rw [z]; exact hw
      · exact hU' x z
    · have ht : t < bs.length := by
        rw [hlen3]
        exact (List.getElem?_eq_some_iff.mp hv).1
      rw [List.getElem?_eq_getElem ht]
      have hall : bs.any (fun b => b == false) = false := by simpa using hall
      rw [List.any_eq_false] at hall
      have := hall _ (List.getElem_mem ht)
      cases e : bs[t] with
      | true => rfl
      | false => rw [e] at this; simp at this
    · rw [(insD_perm ws' j w).length_eq, List.length_cons]; omega
theorem sc_law_shuts_here : FnScope ["_law_pot_here", "_law_most", "_law_shuts", "_law_wide", "_law_k", "_law_spots"] ["_law_pot_here", "_law_most"] (defScope s_law_shuts_here) := ⟨rfl, rfl, rfl, by decide, rfl, by decide, by decide⟩
noncomputable def sp_law_shuts_here : SpD := fun ds M Q => match ds with
  | [u, v] => ∃ (r : Addr) (n : Nat) (m : Int), u = .ref r ∧ v = .int m ∧ (0 ≤ m ∧ m ≤ 12) ∧ Pot M r n ∧ n < 100000 ∧ ∀ (l : Addr) (ws : List Wl) M', r ≠ l → M l = none → Kx [r] M M' → M' l = some (.lst (ws.map (gwl 6 24))) → (∀ w ∈ ws, Un5 w) → PF ws → ws.length ≤ 15 → Pot M' r (n + 400) → Q (.ref l) M'
  | _ => False
theorem ln_law_shuts_here : ∀ ds M Q, sp_law_shuts_here ds M Q → ds.length = 2 := fun ds M Q h => by
  unfold sp_law_shuts_here at h
  split at h
  · rfl
  · exact h.elim
set_option maxHeartbeats 4000000 in
theorem c_law_shuts_here {P : Program} {w : World} {K : PySem.W.Frag} {mg : Str → Option Value} {base : Heap} (T : Tx K mg) : Cal P w K mg base 5 "_law_shuts_here" sp_law_shuts_here := by
  refine calD (k := 4) (N := ["_law_pot_here", "_law_most", "_law_shuts", "_law_wide", "_law_k", "_law_spots"]) (ps := ["_law_pot_here", "_law_most"]) T.f_law_shuts_here sc_law_shuts_here (fun _ _ _ _ _ _ us hl => match us, hl with | [_, _], _ => rfl) ln_law_shuts_here fun f cdv A outer s H E hr => ⟨_, (dss_cons (ds_set 2 sc_law_shuts_here.nd (de_lst da_nil))
      (dss_cons (ds_set 3 sc_law_shuts_here.nd (de_ix (de_lst (da_cons de_int (da_cons de_int (da_cons de_int (da_cons de_int da_nil))))) (de_call ((c_law_take T).mono (by decide)) hr (da_cons (dv 0) (da_cons de_int da_nil)))))
      (dss_cons (ds_forR PassesOwn.never rfl rfl T.b_range (da_cons (de_call ((c_law_take T).mono (by decide)) hr (da_cons (dv 0) (da_cons (de_op od_add (dv 1) de_int) da_nil))) da_nil) (dg_name 4 sc_law_shuts_here.nd) (dss_cons (ds_comp1 5 sc_law_shuts_here.nd (CScope.of (xs := ["_law_j"]) (js := [0, 2, 3]) rfl) rfl (di_range1 rfl T.b_range (da_cons (de_op od_add de_int (de_call ((c_law_take T).mono (by decide)) hr (da_cons (dv 0) (da_cons de_int da_nil)))) da_nil)) (fun _ _ _ _ => dts_nil) (fun _ _ _ _ => (de_call ((c_law_some_spot T).mono (by decide)) hr (da_cons (dv 1) (da_cons (dv 2) (da_cons (dv 3) da_nil))))))
      (dss_cons (ds_if (dt_cmp (od_eq hr.units) (de_call ((c_law_take T).mono (by decide)) hr (da_cons (dv 0) (da_cons de_int da_nil))) de_int) (dss_one (ds_expr (de_m_append (dv 5) (da_cons (de_ix (dv 5) de_int) da_nil)))) dss_nil)
      (dss_cons (ds_if (dt_cmp (od_eq hr.units) (de_call ((c_law_take T).mono (by decide)) hr (da_cons (dv 0) (da_cons de_int da_nil))) de_int) (dss_one (ds_set 5 sc_law_shuts_here.nd (de_call ((c_law_square T).mono (by decide)) hr (da_cons (dv 0) (da_cons (dv 3) da_nil))))) dss_nil)
      (dss_one (ds_if (dt_cmp (od_ltX hr.units) (de_callB cd_len rfl T.b_len bt_len (da_cons (dv 2) da_nil)) de_int) (dss_one (ds_expr (de_call ((c_law_laid T).mono (by decide)) hr (da_cons (dv 0) (da_cons (dv 2) (da_cons (dv 5) da_nil)))))) dss_nil))))))
      (dss_one (ds_ret (dv 2)))))), fun ds M Q h => ?r⟩
  case r =>
    unfold sp_law_shuts_here at h
    split at h
    case h_2 => exact h.elim
    obtain ⟨r, n, m, rfl, rfl, hm, P0, hn, k⟩ := h
    refine ⟨Nat.le_of_ble_eq_true rfl, fun l hl => ?_⟩
    have nrl : r ≠ l := P0.ne hl
    refine ⟨Nat.le_of_ble_eq_true rfl, fun z hz => ?_⟩
    have nrz : r ≠ z := (P0.new hl).ne hz
    have nlz : l ≠ z := ne_fresh updM_same hz
    refine ⟨_, rfl, r, 4, n, rfl, rfl, (P0.new hl).new hz, by omega, by decide, bd64 (by decide), fun v o h0 h1 P1 => ?_⟩
    obtain ⟨wd, ewd, hwd⟩ : ∃ wd : Int, atI [D.int 3, D.int 4, D.int 6, D.int 10] v = some (.int wd) ∧ (0 < wd ∧ wd ≤ 10) := by
      rcases (show v = 0 ∨ v = 1 ∨ v = 2 ∨ v = 3 by omega) with rfl | rfl | rfl | rfl
      · exact ⟨3, rfl, by decide⟩
      · exact ⟨4, rfl, by decide⟩
      · exact ⟨6, rfl, by decide⟩
      · exact ⟨10, rfl, by decide⟩
    refine ⟨_, _, (by rw [updM_ne nrz.symm, updM_same]), ewd, ?_⟩
    refine ⟨_, rfl, _, rfl, r, m + 1, n + 1, rfl, rfl, P1, by omega, by omega, bd64 (by omega), fun c o2 a0 a1 P2 => ?_⟩
    have hl2 : (updM (updM (updM (updM M l (.lst [])) z (.lst [.int 3, .int 4, .int 6, .int 10])) r o) r o2) l = some (.lst (([] : List Wl).map (gwl 6 24))) := by rw [updM_ne nrl.symm, updM_ne nrl.symm, updM_ne nlz, updM_same]; rfl
    have kx2 : Kx [r, l] M (updM (updM (updM (updM M l (.lst [])) z (.lst [.int 3, .int 4, .int 6, .int 10])) r o) r o2) := (((Kx.refl.new hl).new hz).upd (by simp)).upd (by simp)
    generalize updM (updM (updM (updM M l (.lst [])) z (.lst [.int 3, .int 4, .int 6, .int 10])) r o) r o2 = M2 at P2 hl2 kx2 ⊢
    refine ⟨c.toNat, ?_, by omega, fun i δ M' => ∃ (ws : List Wl) (o4 o5 : Option D), δ = [some (.ref r), some (.int m), some (.ref l), some (.int wd), o4, o5] ∧ Kx [r, l] M M' ∧ M' l = some (.lst (ws.map (gwl 6 24))) ∧ (∀ w ∈ ws, Un5 w) ∧ PF ws ∧ ws.length ≤ 15 ∧ Pot M' r (n + 2 + 28 * i), ⟨[], _, _, rfl, kx2, hl2, fun w hw => absurd hw (by simp), pf_nil, by decide, P2⟩, ?_, ?_⟩
    · rw [Int.toNat_of_nonneg a0]
    rotate_left
    · rintro δ M' ⟨ws, o4, o5, rfl, kx, hl', hU, hF, hlen, P'⟩
      refine ⟨_, rfl, rtn (k l ws M' nrl hl (fun a ob na e => ?_) hl' hU hF hlen (P'.le (by omega)))⟩
      exact kx a ob (by
        intro hm
        rcases List.mem_cons.mp hm with rfl | hm
        · exact na (by simp)
        · have : a = l := by simpa using hm
          subst this; rw [hl] at e; cases e) e
    rintro i δ M' hi ⟨ws, o4, o5, rfl, kx, hl', hU, hF, hlen, P'⟩
    have hi12 : i ≤ 12 := by omega
    refine ⟨_, rfl, r, 4, n + 2 + 28 * i, rfl, rfl, P', by omega, by decide, bd64 (by decide), fun c2 o3 b0 b1 P3 => ?_⟩
    have hl3 : (updM M' r o3) l = some (.lst (ws.map (gwl 6 24))) := by rw [updM_ne nrl.symm]; exact hl'
    have kx3 : Kx [r, l] M (updM M' r o3) := kx.upd (by simp)
    generalize updM M' r o3 = M3 at P3 hl3 kx3 ⊢
    refine ⟨2 + c2.toNat, (by rw [show ((2 + c2.toNat : Nat) : Int) = 2 + c2 by omega]), by omega, ?_⟩
    refine ⟨by show 2 + c2.toNat ≤ 1000000; omega, fun p hp => ?_⟩
    have nrp : r ≠ p := P3.ne hp
    have nlp : l ≠ p := ne_fresh hl3 hp
    refine ⟨fun j ys M2 => ∃ us : List Vc, ys = us.map (gp 6 24) ∧ us.length = j ∧ (∀ u ∈ us, B20 u) ∧ Kx [r, l] M M2 ∧ M2 l = some (.lst (ws.map (gwl 6 24))) ∧ M2 p = some (.lst ys) ∧ Pot M2 r (n + 3 + 28 * i + 3 * j), ⟨[], rfl, rfl, fun u hu => absurd hu (by simp), kx3.new hp, by rw [updM_ne nlp]; exact hl3, updM_same, (P3.new hp).le (by omega)⟩, fun _ _ _ _ _ => trivial, ?_, ?_⟩
    · rintro j ys d M2 hj hd ⟨us, rfl, hj2, hB, kx4, hl4, hp4, P4⟩
      have hj : j < 2 + c2.toNat := hj
      refine ⟨_, rfl, ?_⟩
      dsimp only [SD.tTrueD]
      refine iteT ?_
      refine ⟨_, rfl, _, rfl, _, rfl, r, l, n + 3 + 28 * i + 3 * j, wd, ws, rfl, rfl, rfl, nrl, hl4, hU, by omega, P4, by omega, hwd, fun u M5 bu kx5 P5 => ?_⟩
      have hp5 := kx5 p _ (by simpa using nrp.symm) hp4
      refine ⟨M5, .refl, hp5, us ++ [u], by simp, by simp [hj2], fun x hx => ?_, ?_, ?_, updM_same, (P5.upd nrp).le (by omega)⟩
      · rcases List.mem_append.mp hx with z | z
        · exact hB x z
        · have : x = u := by simpa using z
          subst this; exact bu
      · intro a ob na e
        have a1 := kx4 a ob na e
        have hap : a ≠ p := fun z => by
          subst z
          have := kx3 a ob na e
          rw [hp] at this; cases this
        rw [updM_ne hap]
        exact kx5 a ob (fun z => na (by simp at z; simp [z])) a1
      · rw [updM_ne nlp]; exact kx5 l _ (by simpa using nrl.symm) hl4
    rintro ys M4 ⟨us, rfl, hus, hB, kx4, hl4, hp4, P4⟩
    have hus : us.length = 2 + c2.toNat := hus
    have P4 : Pot M4 r (n + 3 + 28 * i + 3 * (2 + c2.toNat)) := P4
    have P4 := P4.le (show _ ≤ n + 18 + 28 * i by omega)
    (try dsimp only [SD.gNameD])
    refine seq_cut (fun δ M' => ∃ (us : List Vc), δ = [some (.ref r), some (.int m), some (.ref l), some (.int wd), some (.int (i : Int)), some (.ref p)] ∧ Kx [r, l] M M' ∧ M' l = some (.lst (ws.map (gwl 6 24))) ∧ M' p = some (.lst (us.map (gp 6 24))) ∧ us.length ≤ 6 ∧ (∀ u ∈ us, B20 u) ∧ Pot M' r (n + 19 + 28 * i)) ?_ (fun hu => ?_)
    rotate_left
    · refine ⟨_, rfl, r, 2, n + 18 + 28 * i, rfl, rfl, P4, by omega, by decide, bd64 (by decide), fun v1 o5' d0 d1 P5 => ⟨_, rfl, ?_⟩⟩
      have hl5 : (updM M4 r o5') l = some (.lst (ws.map (gwl 6 24))) := by rw [updM_ne nrl.symm]; exact hl4
      have hp5 : (updM M4 r o5') p = some (.lst (us.map (gp 6 24))) := by rw [updM_ne nrp.symm]; exact hp4
      have kx5 : Kx [r, l] M (updM M4 r o5') := kx4.upd (by simp)
      generalize updM M4 r o5' = M5 at P5 hl5 hp5 kx5 ⊢
      have P5 := P5.le (show _ ≤ n + 19 + 28 * i by omega)
      refine ite2 (fun _ => ?_) (fun _ => hu _ _ ⟨us, rfl, kx5, hl5, hp5, by omega, hB, P5⟩)
      obtain ⟨u0, us', rfl⟩ : ∃ u0 us', us = u0 :: us' := by
        cases us with
        | nil => rw [List.length_nil] at hus; omega
        | cons a b => exact ⟨a, b, rfl⟩
      refine ⟨_, rfl, p, _, rfl, hp5, _, rfl, _, _, hp5, (show atI _ ((0 : Nat) : Int) = _ from atI_nat (by rfl)), _, _, rfl, hp5, (by rw [List.length_map]; omega), ?_⟩
      refine hu _ _ ⟨(u0 :: us') ++ [u0], rfl, ?_, (by rw [updM_ne nlp]; exact hl5), (by rw [updM_same, List.map_append]; rfl), (by rw [List.length_append]; simp at hus ⊢; omega), fun x hx => ?_, P5.upd nrp⟩
      · intro a ob na e
        have hap : a ≠ p := fun z => by
          subst z
          have := kx3 a ob na e
          rw [hp] at this; cases this
        rw [updM_ne hap]
        exact kx5 a ob na e
      · rcases List.mem_append.mp hx with z | z
        · exact hB x z
        · have : x = u0 := by simpa using z
          subst this; exact hB x (by simp)
    rintro δ M5 ⟨us, rfl, kx5, hl5, hp5, hus, hB, P5⟩
    refine seq_cut (fun δ M' => ∃ (q : Addr) (us : List Vc), δ = [some (.ref r), some (.int m), some (.ref l), some (.int wd), some (.int (i : Int)), some (.ref q)] ∧ r ≠ q ∧ l ≠ q ∧ Kx [r, l] M M' ∧ M' l = some (.lst (ws.map (gwl 6 24))) ∧ M' q = some (.lst (us.map (gp 6 24))) ∧ us.length ≤ 6 ∧ (∀ u ∈ us, B20 u) ∧ Pot M' r (n + 24 + 28 * i)) ?_ (fun hu => ?_)
    rotate_left
    · refine ⟨_, rfl, r, 4, n + 19 + 28 * i, rfl, rfl, P5, by omega, by decide, bd64 (by decide), fun v1 o5' d0 d1 P6 => ⟨_, rfl, ?_⟩⟩
      have hl6 : (updM M5 r o5') l = some (.lst (ws.map (gwl 6 24))) := by rw [updM_ne nrl.symm]; exact hl5
      have hp6 : (updM M5 r o5') p = some (.lst (us.map (gp 6 24))) := by rw [updM_ne nrp.symm]; exact hp5
      have kx6 : Kx [r, l] M (updM M5 r o5') := kx5.upd (by simp)
      generalize updM M5 r o5' = M6 at P6 hl6 hp6 kx6 ⊢
      refine ite2 (fun _ => ?_) (fun _ => hu _ _ ⟨p, us, rfl, nrp, nlp, kx6, hl6, hp6, hus, hB, P6.le (by omega)⟩)
      refine ⟨_, rfl, _, rfl, r, n + 20 + 28 * i, wd, rfl, rfl, P6.le (by omega), by omega, hwd, fun q us2 M7 kx7 nrq hq7 hq8 l5 hB2 P7 => ?_⟩
      refine hu _ _ ⟨q, us2, rfl, nrq, ne_fresh hl6 hq7, fun a ob na e => kx7 a ob (fun z => na (by simp at z; simp [z])) (kx6 a ob na e), kx7 l _ (by simpa using nrl.symm) hl6, hq8, by omega, hB2, P7.le (by omega)⟩
    rintro δ M6 ⟨q, us, rfl, nrq, nlq, kx6, hl6, hq6, hus, hB, P6⟩
    refine ⟨_, rfl, _, hl6, trivial, _, rfl, ?_⟩
    refine ite2 (fun hlt => ?_) (fun _ => ⟨ws, _, _, rfl, kx6, hl6, hU, hF, hlen, P6.le (by omega)⟩)
    have hlt : ws.length < 11 := by
      have : (((ws.map (gwl 6 24)).length : Nat) : Int) < 11 := by simpa using hlt
      rw [List.length_map] at this; omega
    refine ⟨_, rfl, _, rfl, _, rfl, r, l, q, n + 24 + 28 * i, ws, us, rfl, rfl, rfl, nrl, nlq.symm, nrq.symm, hl6, hU, hF, by omega, hq6, hB, hus, P6, by omega, fun ws' M7 kx7 hl7 hU7 hF7 hlen7 P7 => ?_⟩
    exact ⟨ws', _, _, rfl, kx6.trans kx7, hl7, hU7, hF7, by omega, P7.le (by omega)⟩
theorem sc_law_squares : FnScope ["_law_pot_here", "_law_most", "_law_many", "_law_shuts", "_law_k", "_law_found", "_law_shut"] ["_law_pot_here", "_law_most"] (defScope s_law_squares) := ⟨rfl, rfl, rfl, by decide, rfl, by decide, by decide⟩
noncomputable def sp_law_squares : SpD := fun ds M Q => match ds with
  | [u, v] => ∃ (r : Addr) (n : Nat), u = .ref r ∧ v = .int 13 ∧ Pot M r n ∧ n < 100000 ∧ ∀ (l : Addr) (ws : List Wl) M', r ≠ l → M l = none → Kx [r] M M' → M' l = some (.lst (ws.map (gwl 12 0))) → (∀ w ∈ ws, Un5 w) → PF ws → ws.length ≤ 40 → Pot M' r (n + 50) → Q (.ref l) M'
  | _ => False
theorem ln_law_squares : ∀ ds M Q, sp_law_squares ds M Q → ds.length = 2 := fun ds M Q h => by
  unfold sp_law_squares at h
  split at h
  · rfl
  · exact h.elim
set_option maxHeartbeats 4000000 in
theorem c_law_squares {P : Program} {w : World} {K : PySem.W.Frag} {mg : Str → Option Value} {base : Heap} (T : Tx K mg) : Cal P w K mg base 2 "_law_squares" sp_law_squares := by
  refine calD (k := 1) (N := ["_law_pot_here", "_law_most", "_law_many", "_law_shuts", "_law_k", "_law_found", "_law_shut"]) (ps := ["_law_pot_here", "_law_most"]) T.f_law_squares sc_law_squares (fun _ _ _ _ _ _ us hl => match us, hl with | [_, _], _ => rfl) ln_law_squares fun f cdv A outer s H E hr => ⟨_, (dss_cons (ds_set 2 sc_law_squares.nd (de_op od_add de_int (de_call ((c_law_take T).mono (by decide)) hr (da_cons (dv 0) (da_cons (de_op od_sub (dv 1) de_int) da_nil)))))
      (dss_cons (ds_comp1 3 sc_law_squares.nd (CScope.of (xs := ["_law_k"]) (js := []) rfl) rfl (di_range1 rfl T.b_range (da_cons (de_op od_add (dv 2) de_int) da_nil)) (fun _ _ _ _ => dts_nil) (fun _ _ _ _ => (de_tup (da_cons (de_tup (da_cons (de_op od_mul de_int (dv 0)) (da_cons de_int da_nil))) (da_cons (de_tup (da_cons (de_op od_mul de_int (dv 0)) (da_cons de_int da_nil))) da_nil)))))
      (dss_cons (ds_forR PassesOwn.never rfl rfl T.b_range (da_cons (dv 2) da_nil) (dg_name 4 sc_law_squares.nd) (dss_one (ds_set 3 sc_law_squares.nd (de_op od_add (dv 3) (de_comp1 (CScope.of (xs := ["_law_y"]) (js := [4]) rfl) rfl (di_seq (de_tup (da_cons de_int (da_cons de_int da_nil)))) (fun _ _ _ _ => dts_nil) (fun _ _ _ _ => (de_tup (da_cons (de_tup (da_cons (de_op od_mul de_int (dv 1)) (da_cons (dv 0) da_nil))) (da_cons (de_tup (da_cons (de_op od_add (de_op od_mul de_int (dv 1)) de_int) (da_cons (dv 0) da_nil))) da_nil)))))))))
      (dss_cons (ds_if (dt_cmp (od_eq hr.units) (de_call ((c_law_take T).mono (by decide)) hr (da_cons (dv 0) (da_cons de_int da_nil))) de_int) (dss_one (ds_ret (dv 3))) dss_nil)
      (dss_cons (ds_set 5 sc_law_squares.nd (de_lst da_nil))
      (dss_cons (ds_for PassesOwn.never rfl (di_seq (dv 3)) (dg_name 6 sc_law_squares.nd) (dss_one (ds_expr (de_m_insert (dv 5) (da_cons (de_call ((c_law_take T).mono (by decide)) hr (da_cons (dv 0) (da_cons (de_op od_add (de_callB cd_len rfl T.b_len bt_len (da_cons (dv 5) da_nil)) de_int) da_nil))) (da_cons (dv 6) da_nil))))))
      (dss_one (ds_ret (dv 5))))))))), fun ds M Q h => ?r⟩
  case r =>
    unfold sp_law_squares at h
    split at h
    case h_2 => exact h.elim
    obtain ⟨r, n, rfl, rfl, P0, hn, k⟩ := h
    refine ⟨_, rfl, _, rfl, trivial, r, 8, n, rfl, rfl, P0, by omega, by decide, bd64 (by decide), fun v o h0 h1 P1 => ?_⟩
    obtain ⟨m, rfl⟩ : ∃ m : Nat, v = (m : Int) := ⟨v.toNat, by omega⟩
    have kx1 : Kx [r] M (updM M r o) := Kx.refl.upd (by simp)
    have fr1 : ∀ a, (updM M r o) a = none → M a = none := fun a e => by
      cases h : M a with
      | none => rfl
      | some ob =>
        by_cases z : a = r
        · subst z; rw [updM_same] at e; cases e
        · rw [updM_ne z] at e; rw [h] at e; cases e
    generalize updM M r o = M1 at P1 kx1 fr1 ⊢
    refine ⟨_, rfl, 6 + m + 1, (by simp), by omega, ?_⟩
    refine ⟨by show 6 + m + 1 ≤ 1000000; omega, fun p hp => ?_⟩
    have nrp : r ≠ p := P1.ne hp
    refine ⟨fun j ys M2 => ys = ((List.range' 0 j).map fun k : Nat => sqV (k : Int)).map (gwl 12 0) ∧ M2 = updM M1 p (.lst ys), ⟨rfl, rfl⟩, fun _ _ _ _ _ => trivial, ?_, ?_⟩
    · rintro j ys d M2 hj hd ⟨rfl, rfl⟩
      have hd : some (D.int (j : Int)) = some d := hd
      cases hd
      refine ⟨_, rfl, ?_⟩
      dsimp only [SD.tTrueD]
      refine iteT ?_
      refine ⟨_, rfl, mulOk_l (bd64 (by decide)), Nat.le_of_ble_eq_true rfl, _, rfl, mulOk_l (bd64 (by decide)), Nat.le_of_ble_eq_true rfl, Nat.le_of_ble_eq_true rfl, _, .refl, updM_same, ?_, by rw [updM_updM]⟩
      rw [List.range'_concat, List.map_append, List.map_append]
      simp [gw_V]
    rintro ys M2 ⟨rfl, rfl⟩
    have hl2 : (updM M1 p (.lst (((List.range' 0 (6 + m + 1)).map fun k : Nat => sqV (k : Int)).map (gwl 12 0)))) p = some (.lst ((sqG (6 + m) 0).map (gwl 12 0))) := updM_same
    have kx2 : Kx [r] M (updM M1 p (.lst (((List.range' 0 (6 + m + 1)).map fun k : Nat => sqV (k : Int)).map (gwl 12 0)))) := kx1.new hp
    have P2 : Pot (updM M1 p (.lst (((List.range' 0 (6 + m + 1)).map fun k : Nat => sqV (k : Int)).map (gwl 12 0)))) r (n + 1) := P1.new hp
    generalize updM M1 p (.lst (((List.range' 0 (6 + m + 1)).map fun k : Nat => sqV (k : Int)).map (gwl 12 0))) = M2 at hl2 kx2 P2 ⊢
    (try dsimp only [SD.gNameD])
    refine seq_cut (fun δ M' => ∃ (l2 : Addr) (o4 o5 o6 : Option D), δ = [some (.ref r), some (.int 13), some (.int ((6 + m : Nat) : Int)), some (.ref l2), o4, o5, o6] ∧ Pot M' r (n + 1) ∧ Kx [r] M M' ∧ M' l2 = some (.lst ((sqG (6 + m) (6 + m)).map (gwl 12 0))) ∧ r ≠ l2 ∧ M l2 = none) ?_ (fun hu => ?_)
    rotate_left
    · refine ⟨_, rfl, 6 + m, by simp, by omega, fun i δ M' => ∃ (l2 : Addr) (o4 o5 o6 : Option D), δ = [some (.ref r), some (.int 13), some (.int ((6 + m : Nat) : Int)), some (.ref l2), o4, o5, o6] ∧ Pot M' r (n + 1) ∧ Kx [r] M M' ∧ M' l2 = some (.lst ((sqG (6 + m) i).map (gwl 12 0))) ∧ r ≠ l2 ∧ M l2 = none, ⟨p, _, _, _, by simp; rfl, P2, kx2, hl2, nrp, fr1 p hp⟩, ?_, fun δ M' h => hu _ _ h⟩
      rintro i δ M3 hi ⟨l2, o4, o5, o6, rfl, P3, kx3, hl3, nr3, hf3⟩
      refine ⟨_, rfl, Nat.le_of_ble_eq_true rfl, [.int 0, .int 12], rfl, ?_⟩
      refine ⟨by show 2 ≤ 1000000; decide, fun q hq => ?_⟩
      have n2q : l2 ≠ q := ne_fresh hl3 hq
      have nrq : r ≠ q := P3.ne hq
      refine ⟨fun j ys M4 => ys = (([sqH (i : Int) 0, sqH (i : Int) 1]).take j).map (gwl 12 0) ∧ M4 = updM M3 q (.lst ys), ⟨rfl, rfl⟩, fun _ _ _ _ _ => rfl, ?_, ?_⟩
      · rintro j ys d M4 hj hd ⟨rfl, rfl⟩
        have hj : j < 2 := hj
        have hd : [D.int 0, D.int 12][j]? = some d := hd
        obtain ⟨w1, w2⟩ := gw_H (i : Int)
        rcases (show j = 0 ∨ j = 1 by omega) with rfl | rfl
        · cases hd
          refine ⟨_, rfl, ?_⟩
          dsimp only [SD.tTrueD]
          refine iteT ?_
          refine ⟨_, rfl, mulOk_l (bd64 (by decide)), _, rfl, Nat.le_of_ble_eq_true rfl, _, rfl, mulOk_l (bd64 (by decide)), _, rfl, Nat.le_of_ble_eq_true rfl, Nat.le_of_ble_eq_true rfl, _, .refl, updM_same, ?_, by rw [updM_updM]⟩
          simp [w1]
        · cases hd
          refine ⟨_, rfl, ?_⟩
          dsimp only [SD.tTrueD]
          refine iteT ?_
          refine ⟨_, rfl, mulOk_l (bd64 (by decide)), _, rfl, Nat.le_of_ble_eq_true rfl, _, rfl, mulOk_l (bd64 (by decide)), _, rfl, Nat.le_of_ble_eq_true rfl, Nat.le_of_ble_eq_true rfl, _, .refl, updM_same, ?_, by rw [updM_updM]⟩
          simp [w1, w2]
      rintro ys M4 ⟨rfl, rfl⟩
      have hlen := sqG_len (6 + m) i
      refine ⟨_, _, (by rw [updM_ne n2q]; exact hl3), updM_same, (by rw [List.length_map, hlen]; show 6 + m + 1 + 2 * i + 2 ≤ sizeLine; have sz : 1000000 ≤ sizeLine := Nat.le_of_ble_eq_true rfl; omega), fun l4 hl4 => ?_⟩
      have hl4 : (updM M3 q (.lst ((([sqH (i : Int) 0, sqH (i : Int) 1]).take 2).map (gwl 12 0)))) l4 = none := hl4
      have P4 := (P3.new (o := .lst ((([sqH (i : Int) 0, sqH (i : Int) 1]).take 2).map (gwl 12 0))) hq)
      have kx4 := kx3.new (o := .lst ((([sqH (i : Int) 0, sqH (i : Int) 1]).take 2).map (gwl 12 0))) hq
      have hfr : M l4 = none := by
        cases h : M l4 with
        | none => rfl
        | some ob =>
          by_cases z : l4 = r
          · subst z; obtain ⟨_, _, _, e, _⟩ := P4; rw [hl4] at e; cases e
          · have := kx4 l4 ob (by simpa using z) h
            rw [hl4] at this; cases this
      exact ⟨l4, _, _, _, rfl, P4.new hl4, kx4.new hl4, by rw [updM_same, sqG, List.map_append]; rfl, P4.ne hl4, hfr⟩
    rintro δ M2' ⟨l2, o4, o5, o6, rfl, P3, kx3, hl3, nr3, hf3⟩
    have hlen := sqG_len (6 + m) (6 + m)
    refine seq_cut (fun δ M' => δ = [some (.ref r), some (.int 13), some (.int ((6 + m : Nat) : Int)), some (.ref l2), o4, o5, o6] ∧ Pot M' r (n + 2) ∧ Kx [r] M M' ∧ M' l2 = some (.lst ((sqG (6 + m) (6 + m)).map (gwl 12 0)))) ?_ (fun hu => ?_)
    rotate_left
    · refine ⟨_, rfl, r, 2, n + 1, rfl, rfl, P3, by omega, by decide, bd64 (by decide), fun v1 o5' d0 d1 P5 => ⟨_, rfl, ?_⟩⟩
      have hl5 : (updM M2' r o5') l2 = some (.lst ((sqG (6 + m) (6 + m)).map (gwl 12 0))) := by rw [updM_ne nr3.symm]; exact hl3
      refine ite2 (fun _ => ?_) (fun _ => hu _ _ ⟨rfl, P5, kx3.upd (by simp), hl5⟩)
      obtain ⟨q1, q2, q3⟩ := sq_pf (m := 6 + m) (by omega) (sqG_all (6 + m))
      exact ⟨_, rfl, rtn (k l2 _ _ nr3 hf3 (kx3.upd (by simp)) hl5 q2 q1 q3 (P5.le (by omega)))⟩
    rintro δ M3 ⟨rfl, P4, kx4, hl4⟩
    refine ⟨Nat.le_of_ble_eq_true rfl, fun l5 hl5 => ?_⟩
    have nr5 : r ≠ l5 := P4.ne hl5
    have n25 : l2 ≠ l5 := ne_fresh hl4 hl5
    have hfr : M l5 = none := by
      cases h : M l5 with
      | none => rfl
      | some ob =>
        have := kx4 l5 ob (by simpa using nr5.symm) h
        rw [hl5] at this; cases this
    have P5 : Pot (updM M3 l5 (.lst [])) r (n + 2) := P4.new hl5
    have hl6 : (updM M3 l5 (.lst [])) l2 = some (.lst ((sqG (6 + m) (6 + m)).map (gwl 12 0))) := by rw [updM_ne n25]; exact hl4
    have hf6 : (updM M3 l5 (.lst [])) l5 = some (.lst (([] : List Wl).map (gwl 12 0))) := updM_same
    have kx6 : Kx [r] M (updM M3 l5 (.lst [])) := kx4.new hl5
    generalize updM M3 l5 (.lst []) = M4 at P5 hl6 hf6 kx6 ⊢
    refine ⟨_, rfl, _, hl6, fun i δ M' => ∃ (ws : List Wl) (o6 : Option D), δ = [some (.ref r), some (.int 13), some (.int ((6 + m : Nat) : Int)), some (.ref l2), o4, some (.ref l5), o6] ∧ Pot M' r (n + 2 + i) ∧ Kx [r] M M' ∧ M' l2 = some (.lst ((sqG (6 + m) (6 + m)).map (gwl 12 0))) ∧ M' l5 = some (.lst (ws.map (gwl 12 0))) ∧ ws.Perm ((sqG (6 + m) (6 + m)).take i), ⟨[], _, rfl, P5, kx6, hl6, hf6, by simp⟩, fun i δ M' _ z => let ⟨_, _, _, _, _, h2, _⟩ := z; h2, ?_, ?_⟩
    rotate_left
    · rintro δ M' ⟨ws, o6, rfl, P', kx', hl', hf', pm⟩
      have pm : ws.Perm ((sqG (6 + m) (6 + m)).take ((sqG (6 + m) (6 + m)).map (gwl 12 0)).length) := pm
      have P' : Pot M' r (n + 2 + ((sqG (6 + m) (6 + m)).map (gwl 12 0)).length) := P'
      rw [List.length_map] at pm P'
      rw [List.take_length] at pm
      obtain ⟨q1, q2, q3⟩ := sq_pf (m := 6 + m) (by omega) (pm.trans (sqG_all (6 + m)))
      exact ⟨_, rfl, rtn (k l5 ws _ nr5 hfr kx' hf' q2 q1 q3 (P'.le (by omega)))⟩
    rintro i d δ M5 hi hd ⟨ws, o6, rfl, P', kx', hl', hf', pm⟩
    have hi : i < ((sqG (6 + m) (6 + m)).map (gwl 12 0)).length := hi
    rw [List.length_map] at hi
    have hwlen : ws.length = i := by rw [pm.length_eq, List.length_take]; omega
    have hd : ((sqG (6 + m) (6 + m)).map (gwl 12 0))[i]? = some d := hd
    rw [List.getElem?_map, List.getElem?_eq_getElem hi] at hd
    cases hd
    refine ⟨_, rfl, l5, _, rfl, hf', _, rfl, _, rfl, _, hf', r, (i : Int) + 1, n + 2 + i, rfl, by simp [hwlen], P', by omega, by omega, bd64 (by omega), fun v2 o7 h20 h21 P7 => ?_⟩
    obtain ⟨j, rfl⟩ : ∃ j : Nat, v2 = (j : Int) := ⟨v2.toNat, by omega⟩
    have hf7 : (updM M5 r o7) l5 = some (.lst (ws.map (gwl 12 0))) := by rw [updM_ne nr5.symm]; exact hf'
    refine ⟨_, rfl, _, _, j, rfl, hf7, by simp; omega, by simp; omega, ?_⟩
    refine ⟨insD ws j (sqG (6 + m) (6 + m))[i], _, rfl, P7.upd nr5, ?_, (by rw [updM_ne n25, updM_ne nr3.symm]; exact hl'), (by rw [updM_same, insD_map]), ?_⟩
    · intro a ob na e
      have hap : a ≠ l5 := fun z => by subst z; rw [hfr] at e; cases e
      rw [updM_ne hap]
      exact (kx'.upd (by simp)) a ob na e
    rw [List.take_succ, List.getElem?_eq_getElem hi]
    exact (insD_perm ws j _).trans ((List.Perm.cons _ pm).trans (List.perm_append_comm (l₁ := [(sqG (6 + m) (6 + m))[i]]) (l₂ := (sqG (6 + m) (6 + m)).take i)))
theorem sc_law_frame : FnScope ["_law_pot_here", "_law_many", "_law_kind", "_law_far"] ["_law_pot_here", "_law_many"] (defScope s_law_frame) := ⟨rfl, rfl, rfl, by decide, rfl, by decide, by decide⟩
noncomputable def sp_law_frame : SpD := fun ds M Q => match ds with
  | [u, v] => ∃ (r : Addr) (n : Nat) (m : Int), u = .ref r ∧ v = .int m ∧ Pot M r n ∧ n < 700000 ∧ ∀ (t b x y : Int) M', Scl t b x y → t ≤ 10 ^ 20 → b ≤ 10 ^ 25 → (-(10 ^ 27) ≤ x ∧ x ≤ 10 ^ 27) → (-(10 ^ 27) ≤ y ∧ y ≤ 10 ^ 27) → Kx [r] M M' → Pot M' r (n + 5) → Q (scl t b x y) M'
  | _ => False
theorem ln_law_frame : ∀ ds M Q, sp_law_frame ds M Q → ds.length = 2 := fun ds M Q h => by
  unfold sp_law_frame at h
  split at h
  · rfl
  · exact h.elim
set_option maxHeartbeats 4000000 in
theorem c_law_frame {P : Program} {w : World} {K : PySem.W.Frag} {mg : Str → Option Value} {base : Heap} (T : Tx K mg) : Cal P w K mg base 2 "_law_frame" sp_law_frame := by
  refine calD (k := 1) (N := ["_law_pot_here", "_law_many", "_law_kind", "_law_far"]) (ps := ["_law_pot_here", "_law_many"]) T.f_law_frame sc_law_frame (fun _ _ _ _ _ _ us hl => match us, hl with | [_, _], _ => rfl) ln_law_frame fun f cdv A outer s H E hr => ⟨_, (dss_cons (ds_set 2 sc_law_frame.nd (de_call ((c_law_take T).mono (by decide)) hr (da_cons (dv 0) (da_cons de_int da_nil))))
      (dss_cons (ds_if (dt_cmp (od_ltX hr.units) (dv 2) de_int) (dss_one (ds_ret (de_tup (da_cons de_int (da_cons de_int (da_cons de_int (da_cons de_int da_nil))))))) dss_nil)
      (dss_cons (ds_if (dt_w (dw_and (dt_cmp (od_eq hr.units) (dv 2) de_int) (dw_and1 (dt_cmp (od_ltX hr.units) (dv 1) de_int)))) (dss_cons (ds_comp1 3 sc_law_frame.nd (CScope.of (xs := ["_law_k"]) (js := [0]) rfl) rfl (di_range1 rfl T.b_range (da_cons de_int da_nil)) (fun _ _ _ _ => dts_nil) (fun _ _ _ _ => (de_op od_sub (de_call ((c_law_take T).mono (by decide)) hr (da_cons (dv 1) (da_cons (de_op od_add (de_op od_mul de_int (de_op od_pow de_int de_int)) de_int) da_nil))) (de_op od_pow de_int de_int))))
      (dss_one (ds_ret (de_tup (da_cons (de_op od_add de_int (de_call ((c_law_take T).mono (by decide)) hr (da_cons (dv 0) (da_cons (de_op od_pow de_int de_int) da_nil)))) (da_cons (de_op od_add de_int (de_call ((c_law_take T).mono (by decide)) hr (da_cons (dv 0) (da_cons (de_op od_pow de_int de_int) da_nil)))) (da_cons (de_ix (dv 3) de_int) (da_cons (de_ix (dv 3) de_int) da_nil)))))))) dss_nil)
      (dss_cons (ds_comp1 3 sc_law_frame.nd (CScope.of (xs := ["_law_k"]) (js := [0]) rfl) rfl (di_range1 rfl T.b_range (da_cons de_int da_nil)) (fun _ _ _ _ => dts_nil) (fun _ _ _ _ => (de_op od_sub (de_call ((c_law_take T).mono (by decide)) hr (da_cons (dv 1) (da_cons (de_op od_add (de_op od_mul de_int (de_op od_pow de_int de_int)) de_int) da_nil))) (de_op od_pow de_int de_int))))
      (dss_one (ds_ret (de_tup (da_cons (de_op od_add de_int (de_call ((c_law_take T).mono (by decide)) hr (da_cons (dv 0) (da_cons (de_op od_pow de_int de_int) da_nil)))) (da_cons (de_op od_add de_int (de_call ((c_law_take T).mono (by decide)) hr (da_cons (dv 0) (da_cons (de_op od_pow de_int de_int) da_nil)))) (da_cons (de_ix (dv 3) de_int) (da_cons (de_ix (dv 3) de_int) da_nil))))))))))), fun ds M Q h => ?r⟩
  case r =>
    unfold sp_law_frame at h
    split at h
    case h_2 => exact h.elim
    obtain ⟨r, n, m, rfl, rfl, P0, hn, k⟩ := h
    refine ⟨_, rfl, r, 16, n, rfl, rfl, P0, by omega, by decide, bd64 (by decide), fun kd o h0 h1 P1 => ?_⟩
    have kx1 : Kx [r] M (updM M r o) := Kx.refl.upd (by simp)
    generalize updM M r o = M1 at P1 kx1 ⊢
    refine ⟨_, rfl, trivial, _, rfl, ?_⟩
    refine ite2 (fun _ => ?_) (fun _ => ?_)
    · exact ⟨Nat.le_of_ble_eq_true rfl, rtn (k 1 1 0 0 M1 ⟨by decide, by decide, by decide, by decide, by decide, by decide, by decide, by decide⟩ (by decide) (by decide) (by decide) (by decide) kx1 (P1.le (by omega)))⟩
    (try dsimp only [SD.tSeqD, SD.tAsgD, SD.gNameD, SD.tIfSD, SD.tRetD, SD.tNextD, SD.tDropD, SD.tBD, SD.tNotD])
    refine ⟨_, rfl, _, rfl, ?_⟩
    refine ite2 (fun _ => ?_) (fun _ => ?_)
    · refine ⟨_, rfl, trivial, _, rfl, ?_⟩
      refine ite2 (fun _ => ?_) (fun _ => ?_)
      · refine ⟨2, rfl, by decide, ?_⟩
        refine ⟨by show 2 ≤ 1000000; omega, fun p hp => ?_⟩
        have nrp : r ≠ p := P1.ne hp
        refine ⟨fun j ys M2 => ∃ us : List Int, ys = us.map D.int ∧ us.length = j ∧ (∀ u ∈ us, -(10 ^ 27) ≤ u ∧ u ≤ 10 ^ 27) ∧ Kx [r] M M2 ∧ M2 p = some (.lst ys) ∧ Pot M2 r (n + 1 + j), ⟨[], rfl, rfl, fun u hu => absurd hu (by simp), kx1.new hp, updM_same, P1.new hp⟩, fun _ _ _ _ _ => trivial, ?_, ?_⟩
        · rintro j ys d M2 hj hd ⟨us, rfl, hj2, hB, kx4, hp4, P4⟩
          have hj : j < 2 := hj
          refine ⟨_, rfl, ?_⟩
          dsimp only [SD.tTrueD]
          refine iteT ?_
          refine ⟨_, rfl, ⟨by decide, by decide, by decide⟩, mulOk_l (bd64 (by decide)), r, 2 * 10 ^ 27 + 1, n + 1 + j, rfl, rfl, P4, by omega, by decide, Bd.mono (m := 100) (by show (2 * 10 ^ 27 + 1 : Int).natAbs < 2 ^ 100; decide) (by decide), fun v o5 a0 a1 P5 => ?_⟩
          have hp5 : (updM M2 r o5) p = some (.lst (us.map D.int)) := by rw [updM_ne nrp.symm]; exact hp4
          have kx5 : Kx [r] M (updM M2 r o5) := kx4.upd (by simp)
          generalize updM M2 r o5 = M5 at hp5 kx5 P5 ⊢
          refine ⟨⟨by decide, by decide, by decide⟩, trivial, M5, .refl, hp5, us ++ [v - 10 ^ 27], by simp, by simp [hj2], fun x hx => ?_, ?_, updM_same, P5.upd nrp⟩
          · rcases List.mem_append.mp hx with z | z
            · exact hB x z
            · have : x = v - 10 ^ 27 := by simpa using z
              subst this; omega
          · intro a ob na ea
            have hap : a ≠ p := fun z => by
              subst z
              have := kx1 a ob na ea
              rw [hp] at this; cases this
            rw [updM_ne hap]
            exact kx5 a ob na ea
        rintro ys M4 ⟨us, rfl, hus, hB, kx4, hp4, P4⟩
        have hus : us.length = 2 := hus
        have P4 : Pot M4 r (n + 3) := P4
        obtain ⟨x, y, rfl⟩ : ∃ x y, us = [x, y] := by
          match us, hus with
          | [x, y], _ => exact ⟨x, y, rfl⟩
        have hx := hB x (by simp)
        have hy := hB y (by simp)
        refine ⟨_, rfl, ⟨by decide, by decide, by decide⟩, r, 10 ^ 20, n + 3, rfl, rfl, P4, by omega, by decide, Bd.mono (m := 100) (by show (10 ^ 20 : Int).natAbs < 2 ^ 100; decide) (by decide), fun v o5 a0 a1 P5 => ?_⟩
        refine ⟨_, rfl, ⟨by decide, by decide, by decide⟩, r, 10 ^ 25, n + 4, rfl, rfl, P5, by omega, by decide, Bd.mono (m := 100) (by show (10 ^ 25 : Int).natAbs < 2 ^ 100; decide) (by decide), fun v2 o6 b0 b1 P6 => ?_⟩
        have hp6 : (updM (updM M4 r o5) r o6) p = some (.lst ([x, y].map D.int)) := by rw [updM_ne nrp.symm, updM_ne nrp.symm]; exact hp4
        have kx6 : Kx [r] M (updM (updM M4 r o5) r o6) := (kx4.upd (by simp)).upd (by simp)
        refine ⟨_, rfl, _, _, hp6, rfl, _, rfl, _, _, hp6, rfl, Nat.le_of_ble_eq_true rfl, ?_⟩
        exact rtn (k (1 + v) (1 + v2) x y _ ⟨by omega, by omega, by omega, by omega, by omega, by omega, by omega, by omega⟩ (by omega) (by omega) (by omega) (by omega) kx6 P6)
      · refine ⟨2, rfl, by decide, ?_⟩
        refine ⟨by show 2 ≤ 1000000; omega, fun p hp => ?_⟩
        have nrp : r ≠ p := P1.ne hp
        refine ⟨fun j ys M2 => ∃ us : List Int, ys = us.map D.int ∧ us.length = j ∧ (∀ u ∈ us, -(10 ^ 6) ≤ u ∧ u ≤ 10 ^ 6) ∧ Kx [r] M M2 ∧ M2 p = some (.lst ys) ∧ Pot M2 r (n + 1 + j), ⟨[], rfl, rfl, fun u hu => absurd hu (by simp), kx1.new hp, updM_same, P1.new hp⟩, fun _ _ _ _ _ => trivial, ?_, ?_⟩
        · rintro j ys d M2 hj hd ⟨us, rfl, hj2, hB, kx4, hp4, P4⟩
          have hj : j < 2 := hj
          refine ⟨_, rfl, ?_⟩
          dsimp only [SD.tTrueD]
          refine iteT ?_
          refine ⟨_, rfl, ⟨by decide, by decide, by decide⟩, mulOk_l (bd64 (by decide)), r, 2 * 10 ^ 6 + 1, n + 1 + j, rfl, rfl, P4, by omega, by decide, Bd.mono (m := 100) (by show (2 * 10 ^ 6 + 1 : Int).natAbs < 2 ^ 100; decide) (by decide), fun v o5 a0 a1 P5 => ?_⟩
          have hp5 : (updM M2 r o5) p = some (.lst (us.map D.int)) := by rw [updM_ne nrp.symm]; exact hp4
          have kx5 : Kx [r] M (updM M2 r o5) := kx4.upd (by simp)
          generalize updM M2 r o5 = M5 at hp5 kx5 P5 ⊢
          refine ⟨⟨by decide, by decide, by decide⟩, trivial, M5, .refl, hp5, us ++ [v - 10 ^ 6], by simp, by simp [hj2], fun x hx => ?_, ?_, updM_same, P5.upd nrp⟩
          · rcases List.mem_append.mp hx with z | z
            · exact hB x z
            · have : x = v - 10 ^ 6 := by simpa using z
              subst this; omega
          · intro a ob na ea
            have hap : a ≠ p := fun z => by
              subst z
              have := kx1 a ob na ea
              rw [hp] at this; cases this
            rw [updM_ne hap]
            exact kx5 a ob na ea
        rintro ys M4 ⟨us, rfl, hus, hB, kx4, hp4, P4⟩
        have hus : us.length = 2 := hus
        have P4 : Pot M4 r (n + 3) := P4
        obtain ⟨x, y, rfl⟩ : ∃ x y, us = [x, y] := by
          match us, hus with
          | [x, y], _ => exact ⟨x, y, rfl⟩
        have hx := hB x (by simp)
        have hy := hB y (by simp)
        refine ⟨_, rfl, ⟨by decide, by decide, by decide⟩, r, 10 ^ 4, n + 3, rfl, rfl, P4, by omega, by decide, Bd.mono (m := 100) (by show (10 ^ 4 : Int).natAbs < 2 ^ 100; decide) (by decide), fun v o5 a0 a1 P5 => ?_⟩
        refine ⟨_, rfl, ⟨by decide, by decide, by decide⟩, r, 10 ^ 4, n + 4, rfl, rfl, P5, by omega, by decide, Bd.mono (m := 100) (by show (10 ^ 4 : Int).natAbs < 2 ^ 100; decide) (by decide), fun v2 o6 b0 b1 P6 => ?_⟩
        have hp6 : (updM (updM M4 r o5) r o6) p = some (.lst ([x, y].map D.int)) := by rw [updM_ne nrp.symm, updM_ne nrp.symm]; exact hp4
        have kx6 : Kx [r] M (updM (updM M4 r o5) r o6) := (kx4.upd (by simp)).upd (by simp)
        refine ⟨_, rfl, _, _, hp6, rfl, _, rfl, _, _, hp6, rfl, Nat.le_of_ble_eq_true rfl, ?_⟩
        exact rtn (k (1 + v) (1 + v2) x y _ ⟨by omega, by omega, by omega, by omega, by omega, by omega, by omega, by omega⟩ (by omega) (by omega) (by omega) (by omega) kx6 P6)
    · refine ⟨2, rfl, by decide, ?_⟩
      refine ⟨by show 2 ≤ 1000000; omega, fun p hp => ?_⟩
      have nrp : r ≠ p := P1.ne hp
      refine ⟨fun j ys M2 => ∃ us : List Int, ys = us.map D.int ∧ us.length = j ∧ (∀ u ∈ us, -(10 ^ 6) ≤ u ∧ u ≤ 10 ^ 6) ∧ Kx [r] M M2 ∧ M2 p = some (.lst ys) ∧ Pot M2 r (n + 1 + j), ⟨[], rfl, rfl, fun u hu => absurd hu (by simp), kx1.new hp, updM_same, P1.new hp⟩, fun _ _ _ _ _ => trivial, ?_, ?_⟩
      · rintro j ys d M2 hj hd ⟨us, rfl, hj2, hB, kx4, hp4, P4⟩
        have hj : j < 2 := hj
        refine ⟨_, rfl, ?_⟩
        dsimp only [SD.tTrueD]
        refine iteT ?_
        refine ⟨_, rfl, ⟨by decide, by decide, by decide⟩, mulOk_l (bd64 (by decide)), r, 2 * 10 ^ 6 + 1, n + 1 + j, rfl, rfl, P4, by omega, by decide, Bd.mono (m := 100) (by show (2 * 10 ^ 6 + 1 : Int).natAbs < 2 ^ 100; decide) (by decide), fun v o5 a0 a1 P5 => ?_⟩
        have hp5 : (updM M2 r o5) p = some (.lst (us.map D.int)) := by rw [updM_ne nrp.symm]; exact hp4
        have kx5 : Kx [r] M (updM M2 r o5) := kx4.upd (by simp)
        generalize updM M2 r o5 = M5 at hp5 kx5 P5 ⊢
        refine ⟨⟨by decide, by decide, by decide⟩, trivial, M5, .refl, hp5, us ++ [v - 10 ^ 6], by simp, by simp [hj2], fun x hx => ?_, ?_, updM_same, P5.upd nrp⟩
        · rcases List.mem_append.mp hx with z | z
          · exact hB x z
          · have : x = v - 10 ^ 6 := by simpa using z
            subst this; omega
        · intro a ob na ea
          have hap : a ≠ p := fun z => by
            subst z
            have := kx1 a ob na ea
            rw [hp] at this; cases this
          rw [updM_ne hap]
          exact kx5 a ob na ea
      rintro ys M4 ⟨us, rfl, hus, hB, kx4, hp4, P4⟩
      have hus : us.length = 2 := hus
      have P4 : Pot M4 r (n + 3) := P4
      obtain ⟨x, y, rfl⟩ : ∃ x y, us = [x, y] := by
        match us, hus with
        | [x, y], _ => exact ⟨x, y, rfl⟩
      have hx := hB x (by simp)
      have hy := hB y (by simp)
      refine ⟨_, rfl, ⟨by decide, by decide, by decide⟩, r, 10 ^ 4, n + 3, rfl, rfl, P4, by omega, by decide, Bd.mono (m := 100) (by show (10 ^ 4 : Int).natAbs < 2 ^ 100; decide) (by decide), fun v o5 a0 a1 P5 => ?_⟩
      refine ⟨_, rfl, ⟨by decide, by decide, by decide⟩, r, 10 ^ 4, n + 4, rfl, rfl, P5, by omega, by decide, Bd.mono (m := 100) (by show (10 ^ 4 : Int).natAbs < 2 ^ 100; decide) (by decide), fun v2 o6 b0 b1 P6 => ?_⟩
      have hp6 : (updM (updM M4 r o5) r o6) p = some (.lst ([x, y].map D.int)) := by rw [updM_ne nrp.symm, updM_ne nrp.symm]; exact hp4
      have kx6 : Kx [r] M (updM (updM M4 r o5) r o6) := (kx4.upd (by simp)).upd (by simp)
      refine ⟨_, rfl, _, _, hp6, rfl, _, rfl, _, _, hp6, rfl, Nat.le_of_ble_eq_true rfl, ?_⟩
      exact rtn (k (1 + v) (1 + v2) x y _ ⟨by omega, by omega, by omega, by omega, by omega, by omega, by omega, by omega⟩ (by omega) (by omega) (by omega) (by omega) kx6 P6)
theorem sc_law_frames : FnScope ["_law_pot_here", "_law_many", "_law_p", "_law_q", "_law_s", "_law_t"] ["_law_pot_here", "_law_many"] (defScope s_law_frames) := ⟨rfl, rfl, rfl, by decide, rfl, by decide, by decide⟩
noncomputable def sp_law_frames : SpD := fun ds M Q => match ds with
  | [u, v] => ∃ (r : Addr) (n : Nat) (m : Int), u = .ref r ∧ v = .int m ∧ Pot M r n ∧ n < 600000 ∧ ∀ (t b x y : Int) (lf : Addr) M', Scl t b x y → t ≤ 10 ^ 20 → b ≤ 10 ^ 25 → (-(10 ^ 27) ≤ x ∧ x ≤ 10 ^ 27) → (-(10 ^ 27) ≤ y ∧ y ≤ 10 ^ 27) → Kx [r] M M' → Pot M' r (n + 5) → r ≠ lf → M lf = none → M' lf = some (.lst [scl t b x y, scl t b (0 - x) y, scl t b (0 - y) x]) → Q (.tup [scl t b x y, .ref lf]) M'
  | _ => False
theorem ln_law_frames : ∀ ds M Q, sp_law_frames ds M Q → ds.length = 2 := fun ds M Q h => by
  unfold sp_law_frames at h
  split at h
  · rfl
  · exact h.elim
set_option maxHeartbeats 4000000 in
theorem c_law_frames {P : Program} {w : World} {K : PySem.W.Frag} {mg : Str → Option Value} {base : Heap} (T : Tx K mg) : Cal P w K mg base 3 "_law_frames" sp_law_frames := by
  refine calD (k := 2) (N := ["_law_pot_here", "_law_many", "_law_p", "_law_q", "_law_s", "_law_t"]) (ps := ["_law_pot_here", "_law_many"]) T.f_law_frames sc_law_frames (fun _ _ _ _ _ _ us hl => match us, hl with | [_, _], _ => rfl) ln_law_frames fun f cdv A outer s H E hr => ⟨_, (dss_cons (ds_asg (de_call ((c_law_frame T).mono (by decide)) hr (da_cons (dv 0) (da_cons (dv 1) da_nil))) (dg_tup rfl (dgs_cons (dg_name 2 sc_law_frames.nd) (dgs_cons (dg_name 3 sc_law_frames.nd) (dgs_cons (dg_name 4 sc_law_frames.nd) (dgs_cons (dg_name 5 sc_law_frames.nd) dgs_nil))))))
      (dss_one (ds_ret (de_tup (da_cons (de_tup (da_cons (dv 2) (da_cons (dv 3) (da_cons (dv 4) (da_cons (dv 5) da_nil))))) (da_cons (de_lst (da_cons (de_tup (da_cons (dv 2) (da_cons (dv 3) (da_cons (dv 4) (da_cons (dv 5) da_nil))))) (da_cons (de_tup (da_cons (dv 2) (da_cons (dv 3) (da_cons (de_op od_sub de_int (dv 4)) (da_cons (dv 5) da_nil))))) (da_cons (de_tup (da_cons (dv 2) (da_cons (dv 3) (da_cons (de_op od_sub de_int (dv 5)) (da_cons (dv 4) da_nil))))) da_nil)))) da_nil)))))), fun ds M Q h => ?r⟩
  case r =>
    unfold sp_law_frames at h
    split at h
    case h_2 => exact h.elim
    obtain ⟨r, n, m, rfl, rfl, P0, hn, k⟩ := h
    refine ⟨_, rfl, _, rfl, r, n, m, rfl, rfl, P0, by omega, fun t b x y M1 S ht hb hx hy kx P1 => ?_⟩
    refine ⟨_, rfl, rfl, _, _, rfl, _, _, rfl, _, _, rfl, _, _, rfl, rfl, ?_⟩
    refine ⟨_, rfl, _, rfl, _, rfl, _, rfl, Nat.le_of_ble_eq_true rfl, ?_⟩
    refine ⟨_, rfl, _, rfl, _, rfl, _, rfl, Nat.le_of_ble_eq_true rfl, ?_⟩
    refine ⟨_, rfl, _, rfl, _, rfl, trivial, _, rfl, Nat.le_of_ble_eq_true rfl, ?_⟩
    refine ⟨_, rfl, _, rfl, _, rfl, trivial, _, rfl, Nat.le_of_ble_eq_true rfl, Nat.le_of_ble_eq_true rfl, fun lf hlf => ⟨Nat.le_of_ble_eq_true rfl, ?_⟩⟩
    have nlf : r ≠ lf := P1.ne hlf
    have fr : M lf = none := by
      cases h : M lf with
      | none => rfl
      | some ob =>
        have := kx lf ob (by simpa using nlf.symm) h
        rw [hlf] at this; cases this
    exact rtn (k t b x y lf _ S ht hb hx hy (kx.new hlf) (P1.new hlf) nlf fr updM_same)
theorem sc_law_frac : FnScope ["_law_top", "_law_bottom", "_law_one", "_law_other"] ["_law_top", "_law_bottom"] (defScope s_law_frac) := ⟨rfl, rfl, rfl, by decide, rfl, by decide, by decide⟩
noncomputable def sp_law_frac : SpD := fun ds M Q => match ds with
  | [x, y] => ∃ t b, x = .int t ∧ y = .int b ∧ 0 < b ∧ Bd 8000 t ∧ Bd 8000 b ∧ Q (Ma.fr (Rat.divInt t b)) M
  | _ => False
theorem ln_law_frac : ∀ ds M Q, sp_law_frac ds M Q → ds.length = 2 := fun ds M Q h => by
  unfold sp_law_frac at h
  split at h
  · rfl
  · exact h.elim
set_option maxHeartbeats 4000000 in
theorem c_law_frac {P : Program} {w : World} {K : PySem.W.Frag} {mg : Str → Option Value} {base : Heap} (T : Tx K mg) : Cal P w K mg base 1 "_law_frac" sp_law_frac := by
  refine calD (k := 0) (N := ["_law_top", "_law_bottom", "_law_one", "_law_other"]) (ps := ["_law_top", "_law_bottom"]) T.f_law_frac sc_law_frac (fun _ _ _ _ _ _ us hl => match us, hl with | [_, _], _ => rfl) ln_law_frac fun f cdv A outer s H E hr => ⟨_, (dss_cons (ds_set 2 sc_law_frac.nd (de_callB cd_abs rfl T.b_abs bt_abs (da_cons (dv 0) da_nil)))
      (dss_cons (ds_set 3 sc_law_frac.nd (dv 1))
      (dss_cons (ds_while PassesOwn.never (dt_cmp (od_gtX hr.units) (dv 3) de_int) (dss_one (ds_par 2 3 rfl sc_law_frac.nd (da_cons (dv 3) (da_cons (de_op od_mod (dv 2) (dv 3)) da_nil)))))
      (dss_one (ds_ret (de_tup (da_cons (de_op od_fd (dv 0) (dv 2)) (da_cons (de_op od_fd (dv 1) (dv 2)) da_nil)))))))), fun ds M Q h => ?r⟩
  case r =>
    unfold sp_law_frac at h
    split at h
    case h_2 => exact h.elim
    obtain ⟨t, b, rfl, rfl, hb, ht, hbb, q⟩ := h
    obtain ⟨n, rfl⟩ : ∃ n : Nat, b = (n : Int) := ⟨b.toNat, by omega⟩
    have hg := Ma.g_pos (t := t) (show (n : Int) ≠ 0 by omega)
    have hgd : Bd 8000 ((Nat.gcd t.natAbs (n : Int).natAbs : Nat) : Int) := hbb.of_le (by simpa using Nat.gcd_le_right t.natAbs (show 0 < (n : Int).natAbs by omega))
    refine ⟨_, rfl, _, rfl, ?_⟩
    refine ⟨fun m δ M' => M' = M ∧ ∃ x y : Nat, δ = [some (.int t), some (.int n), some (.int x), some (.int y)] ∧ Nat.gcd x y = Nat.gcd t.natAbs (n : Int).natAbs ∧ m = y, ⟨_, rfl, _, n, rfl, rfl, rfl⟩, ?_⟩
    rintro m δ M' ⟨rfl, x, y, rfl, hxy, hm⟩
    refine ⟨_, rfl, trivial, _, rfl, ?_⟩
    refine ite2 (fun h => ?_) (fun h => ?_)
    · have hy' : 0 < y := by
        have : (0 : Int) < (y : Int) := by simpa using h
        omega
      have hy : (y : Int) ≠ 0 := by omega
      refine ⟨_, rfl, _, rfl, _, rfl, hy, _, _, rfl, ?_⟩
      refine ⟨x % y, by rw [hm]; exact Nat.mod_lt _ hy', rfl, y, x % y, ?_, ?_, rfl⟩
      · rw [← Ma.mod_nat]
        rfl
      · rw [← hxy, Nat.gcd_comm x y, Nat.gcd_rec y x, Nat.gcd_comm]
    · have hy : y = 0 := by
        have : ¬ (0 : Int) < (y : Int) := by simpa using h
        omega
      subst hy
      rw [Nat.gcd_zero_right] at hxy
      subst hxy
      obtain ⟨e1, e2⟩ := Ma.low_pos (t := t) hb
      refine ⟨_, rfl, _, rfl, ⟨by omega, hgd⟩, _, rfl, _, rfl, ⟨by omega, hgd⟩, Nat.le_of_ble_eq_true rfl, ?_⟩
      dsimp only
      rw [e1, e2]
      exact rtn q
theorem sc_law_given : FnScope ["_law_frame_here", "_law_spot", "_law_p", "_law_q", "_law_s", "_law_t"] ["_law_frame_here", "_law_spot"] (defScope s_law_given) := ⟨rfl, rfl, rfl, by decide, rfl, by decide, by decide⟩
noncomputable def sp_law_given : SpD := fun ds M Q => match ds with
  | [s, v] => ∃ t b x y p q : Int, s = scl t b x y ∧ v = .tup [.int p, .int q] ∧ Scl t b x y ∧ (-(10 ^ 6) ≤ p ∧ p ≤ 10 ^ 6) ∧ (-(10 ^ 6) ≤ q ∧ q ≤ 10 ^ 6) ∧ Q (Ma.spt (Ma.ut t b x 1 p) (Ma.ut t b y 1 q)) M
  | _ => False
theorem ln_law_given : ∀ ds M Q, sp_law_given ds M Q → ds.length = 2 := fun ds M Q h => by
  unfold sp_law_given at h
  split at h
  · rfl
  · exact h.elim
set_option maxHeartbeats 4000000 in
theorem c_law_given {P : Program} {w : World} {K : PySem.W.Frag} {mg : Str → Option Value} {base : Heap} (T : Tx K mg) : Cal P w K mg base 2 "_law_given" sp_law_given := by
  refine calD (k := 1) (N := ["_law_frame_here", "_law_spot", "_law_p", "_law_q", "_law_s", "_law_t"]) (ps := ["_law_frame_here", "_law_spot"]) T.f_law_given sc_law_given (fun _ _ _ _ _ _ us hl => match us, hl with | [_, _], _ => rfl) ln_law_given fun f cdv A outer s H E hr => ⟨_, (dss_cons (ds_asg (dv 0) (dg_tup rfl (dgs_cons (dg_name 2 sc_law_given.nd) (dgs_cons (dg_name 3 sc_law_given.nd) (dgs_cons (dg_name 4 sc_law_given.nd) (dgs_cons (dg_name 5 sc_law_given.nd) dgs_nil))))))
      (dss_one (ds_ret (de_tup (da_cons (de_call ((c_law_frac T).mono (by decide)) hr (da_cons (de_op od_add (de_op od_mul (de_ix (dv 1) de_int) (dv 2)) (dv 4)) (da_cons (dv 3) da_nil))) (da_cons (de_call ((c_law_frac T).mono (by decide)) hr (da_cons (de_op od_add (de_op od_mul (de_ix (dv 1) de_int) (dv 2)) (dv 5)) (da_cons (dv 3) da_nil))) da_nil)))))), fun ds M Q h => ?r⟩
  case r =>
    unfold sp_law_given at h
    split at h
    case h_2 => exact h.elim
    obtain ⟨t, b, x, y, p, q, rfl, rfl, S, hp, hq, k⟩ := h
    have bt : Bd 100 t := by have := S.t0; have := S.t1; show t.natAbs < 2 ^ 100; omega
    have bp : ∀ {z : Int}, (-(10 ^ 6) ≤ z ∧ z ≤ 10 ^ 6) → Bd 64 z := fun {z} h => by show z.natAbs < 2 ^ 64; omega
    have bb : Bd 8000 b := by have := S.b0; have := S.b1; exact Bd.mono (m := 100) (by show b.natAbs < 2 ^ 100; omega) (by decide)
    have big : ∀ {z w : Int}, (-(10 ^ 6) ≤ z ∧ z ≤ 10 ^ 6) → (-(10 ^ 30) ≤ w ∧ w ≤ 10 ^ 30) → Bd 8000 (z * t + w) := fun {z w} h1 h2 => by
      have e1 : Bd 164 (z * t) := (bp h1).mul bt
      have e2 : Bd 164 w := by show w.natAbs < 2 ^ 164; omega
      exact (e1.add e2).mono (by decide)
    have hb0 : b ≠ 0 := by have := S.b0; omega
    refine ⟨_, rfl, _, rfl, rfl, _, _, rfl, _, _, rfl, _, _, rfl, _, _, rfl, rfl, ?_⟩
    refine ⟨_, rfl, _, rfl, _, rfl, mulOk_l (bp hp), _, rfl, _, rfl, p * t + x, b, rfl, rfl, S.b0, big hp ⟨S.x0, S.x1⟩, bb, ?_⟩
    refine ⟨_, rfl, _, rfl, _, rfl, mulOk_l (bp hq), _, rfl, _, rfl, q * t + y, b, rfl, rfl, S.b0, big hq ⟨S.y0, S.y1⟩, bb, Nat.le_of_ble_eq_true rfl, ?_⟩
    rw [Ma.ut_one, Ma.ut_one]
    exact rtn k
theorem sc_law_plot : FnScope ["_law_frame_here", "_law_shuts"] ["_law_frame_here", "_law_shuts"] (defScope s_law_plot) := ⟨rfl, rfl, rfl, by decide, rfl, by decide, by decide⟩
noncomputable def sp_law_plot : SpD := fun ds M Q => match ds with
  | [s, v] => ∃ (t b x y : Int) (l : Addr) (ws : List (Int × Int × Int × Int)), s = scl t b x y ∧ v = .ref l ∧ M l = some (.lst (ws.map uw)) ∧ Scl t b x y ∧ ws.length ≤ 1000 ∧ (∀ w ∈ ws, Uok (10 ^ 6) w) ∧ Q (.tup (ws.map (rwl t b x y))) M
  | _ => False
theorem ln_law_plot : ∀ ds M Q, sp_law_plot ds M Q → ds.length = 2 := fun ds M Q h => by
  unfold sp_law_plot at h
  split at h
  · rfl
  · exact h.elim
set_option maxHeartbeats 4000000 in
theorem c_law_plot {P : Program} {w : World} {K : PySem.W.Frag} {mg : Str → Option Value} {base : Heap} (T : Tx K mg) : Cal P w K mg base 3 "_law_plot" sp_law_plot := by
  refine calD (k := 2) (N := ["_law_frame_here", "_law_shuts"]) (ps := ["_law_frame_here", "_law_shuts"]) T.f_law_plot sc_law_plot (fun _ _ _ _ _ _ us hl => match us, hl with | [_, _], _ => rfl) ln_law_plot fun f cdv A outer s H E hr => ⟨_, (dss_one (ds_ret (de_callTy cd_tuple rfl T.b_tuple bt_tuple (da_cons (de_comp2 (CScope.of (xs := ["_law_first", "_law_second"]) (js := [0]) rfl) rfl (di_seq (dv 1)) (fun _ _ _ _ => dts_nil) (fun _ _ _ _ => (de_tup (da_cons (de_call ((c_law_given T).mono (by decide)) hr (da_cons (dv 2) (da_cons (dv 0) da_nil))) (da_cons (de_call ((c_law_given T).mono (by decide)) hr (da_cons (dv 2) (da_cons (dv 1) da_nil))) da_nil))))) da_nil)))), fun ds M Q h => ?r⟩
  case r =>
    unfold sp_law_plot at h
    split at h
    case h_2 => exact h.elim
    obtain ⟨t, b, x, y, l, ws, rfl, rfl, hM, S, hl, hw, k⟩ := h
    refine ⟨_, rfl, ws.map uw, hM, comp_map (fun i => ((ws.map (rwl t b x y))[i]?).getD .non) (by simp; omega) (fun p ys hp => ?_) ?_ (fun p hp => ⟨_, updM_same, ?_⟩)⟩
    · show (updM M p _) l = _
      rw [updM_ne (ne_fresh hM hp)]; exact hM
    · intro i e M' hi he _
      have he : (ws.map uw)[i]? = some e := he
      rw [List.getElem?_map] at he
      cases ew : ws[i]? with
      | none => rw [ew] at he; cases he
      | some w =>
        rw [ew] at he
        cases he
        obtain ⟨u1, u2, u3, u4⟩ := hw w (List.mem_of_getElem? ew)
        refine ⟨_, ⟨_, rfl, rfl, rfl⟩, fun K hK => ?_⟩
        have hK' := hK M' .refl
        rw [getD_map ew] at hK'
        refine ⟨_, rfl, _, rfl, t, b, x, y, w.1, w.2.1, rfl, rfl, S, u1, u2, ?_⟩
        exact ⟨_, rfl, _, rfl, t, b, x, y, w.2.2.1, w.2.2.2, rfl, rfl, S, u3, u4, Nat.le_of_ble_eq_true rfl, hK'⟩
    · refine ⟨_, .new hp .refl, ?_⟩
      have e : (List.range (ws.map uw).length).map (fun i => ((ws.map (rwl t b x y))[i]?).getD .non) = ws.map (rwl t b x y) := by
        have := SD.range_getD (ws.map (rwl t b x y))
        rw [List.length_map] at this ⊢
        exact this
      dsimp only
      rw [e]
      exact k
theorem sc_is_less : FnScope ["one", "other"] ["one", "other"] (defScope s_is_less) := ⟨rfl, rfl, rfl, by decide, rfl, by decide, by decide⟩
noncomputable def sp_is_less : SpD := fun ds M Q => match ds with
  | [x, y] => ∃ q r : Rat, x = Ma.fr q ∧ y = Ma.fr r ∧ Ma.Bq 100000 q ∧ Ma.Bq 100000 r ∧ Q (.bl (decide (q < r))) M
  | _ => False
theorem ln_is_less : ∀ ds M Q, sp_is_less ds M Q → ds.length = 2 := fun ds M Q h => by
  unfold sp_is_less at h
  split at h
  · rfl
  · exact h.elim
set_option maxHeartbeats 4000000 in
theorem c_is_less {P : Program} {w : World} {K : PySem.W.Frag} {mg : Str → Option Value} {base : Heap} (T : Tx K mg) : Cal P w K mg base 1 "is_less" sp_is_less := by
  refine calD (k := 0) (N := ["one", "other"]) (ps := ["one", "other"]) T.f_is_less sc_is_less (fun _ _ _ _ _ _ us hl => match us, hl with | [_, _], _ => rfl) ln_is_less fun f cdv A outer s H E hr => ⟨_, (dss_one (ds_ret (de_cmp (od_ltX hr.units) (de_op od_mul (de_ix (dv 0) de_int) (de_ix (dv 1) de_int)) (de_op od_mul (de_ix (dv 1) de_int) (de_ix (dv 0) de_int))))), fun ds M Q h => ?r⟩
  case r =>
    unfold sp_is_less at h
    split at h
    case h_2 => exact h.elim
    obtain ⟨q, r, rfl, rfl, h1, h2, k⟩ := h
    refine ⟨_, rfl, _, rfl, _, rfl, _, rfl, mulOk (h1.1.mono (by decide)) (h2.2.mono (by decide)), ?_⟩
    refine ⟨_, rfl, _, rfl, _, rfl, _, rfl, mulOk (h2.1.mono (by decide)) (h1.2.mono (by decide)), trivial, ?_⟩
    dsimp only
    rw [Ma.lt_fr]
    exact rtn k
theorem sc_is_ahead : FnScope ["one", "other"] ["one", "other"] (defScope s_is_ahead) := ⟨rfl, rfl, rfl, by decide, rfl, by decide, by decide⟩
noncomputable def sp_is_ahead : SpD := fun ds M Q => match ds with
  | [x, y] => ∃ a b c d : Rat, x = Ma.spt a b ∧ y = Ma.spt c d ∧ Ma.Bq 100000 a ∧ Ma.Bq 100000 b ∧ Ma.Bq 100000 c ∧ Ma.Bq 100000 d ∧ Q (.bl (decide (a < c ∨ a = c ∧ b < d))) M
  | _ => False
theorem ln_is_ahead : ∀ ds M Q, sp_is_ahead ds M Q → ds.length = 2 := fun ds M Q h => by
  unfold sp_is_ahead at h
  split at h
  · rfl
  · exact h.elim
set_option maxHeartbeats 4000000 in
theorem c_is_ahead {P : Program} {w : World} {K : PySem.W.Frag} {mg : Str → Option Value} {base : Heap} (T : Tx K mg) : Cal P w K mg base 2 "is_ahead" sp_is_ahead := by
  refine calD (k := 1) (N := ["one", "other"]) (ps := ["one", "other"]) T.f_is_ahead sc_is_ahead (fun _ _ _ _ _ _ us hl => match us, hl with | [_, _], _ => rfl) ln_is_ahead fun f cdv A outer s H E hr => ⟨_, (dss_cons (ds_if (dt_cmp (od_eq hr.units) (de_ix (dv 0) de_int) (de_ix (dv 1) de_int)) (dss_one (ds_ret (de_call ((c_is_less T).mono (by decide)) hr (da_cons (de_ix (dv 0) de_int) (da_cons (de_ix (dv 1) de_int) da_nil))))) dss_nil)
      (dss_one (ds_ret (de_call ((c_is_less T).mono (by decide)) hr (da_cons (de_ix (dv 0) de_int) (da_cons (de_ix (dv 1) de_int) da_nil)))))), fun ds M Q h => ?r⟩
  case r =>
    unfold sp_is_ahead at h
    split at h
    case h_2 => exact h.elim
    obtain ⟨a, b, c, d, rfl, rfl, h1, h2, h3, h4, k⟩ := h
    refine ⟨_, rfl, _, rfl, _, rfl, _, rfl, _, _, Pd.of rfl, Pd.of rfl, rfl, rfl, ?_⟩
    rw [Ma.eqv_fr]
    refine ⟨_, rfl, ?_⟩
    refine ite2 (fun h => ?_) (fun h => ?_)
    · have e : a = c := by simpa using h
      subst e
      refine ⟨_, rfl, _, rfl, _, rfl, _, rfl, b, d, rfl, rfl, h2, h4, ?_⟩
      have z : (a < a ∨ a = a ∧ b < d) ↔ b < d := by
        have := Rat.lt_irrefl (a := a)
        simp [this]
      rw [decide_eq_decide.mpr z] at k
      exact rtn k
    · have e : ¬ a = c := by simpa using h
      refine ⟨_, rfl, _, rfl, _, rfl, _, rfl, a, c, rfl, rfl, h1, h3, ?_⟩
      have z : (a < c ∨ a = c ∧ b < d) ↔ a < c := by simp [e]
      rw [decide_eq_decide.mpr z] at k
      exact rtn k
theorem sc_greatest_divisor : FnScope ["one", "other"] ["one", "other"] (defScope s_greatest_divisor) := ⟨rfl, rfl, rfl, by decide, rfl, by decide, by decide⟩
noncomputable def sp_greatest_divisor : SpD := fun ds M Q => match ds with
  | [x, y] => ∃ a b : Nat, x = .int (a : Int) ∧ y = .int (b : Int) ∧ Q (.int ((Nat.gcd a b : Nat) : Int)) M
  | _ => False
theorem ln_greatest_divisor : ∀ ds M Q, sp_greatest_divisor ds M Q → ds.length = 2 := fun ds M Q h => by
  unfold sp_greatest_divisor at h
  split at h
  · rfl
  · exact h.elim
set_option maxHeartbeats 4000000 in
theorem c_greatest_divisor {P : Program} {w : World} {K : PySem.W.Frag} {mg : Str → Option Value} {base : Heap} (T : Tx K mg) : Cal P w K mg base 1 "greatest_divisor" sp_greatest_divisor := by
  refine calD (k := 0) (N := ["one", "other"]) (ps := ["one", "other"]) T.f_greatest_divisor sc_greatest_divisor (fun _ _ _ _ _ _ us hl => match us, hl with | [_, _], _ => rfl) ln_greatest_divisor fun f cdv A outer s H E hr => ⟨_, (dss_cons (ds_while PassesOwn.never (dt_cmp (od_ne hr.units) (dv 1) de_int) (dss_one (ds_par 0 1 rfl sc_greatest_divisor.nd (da_cons (dv 1) (da_cons (de_op od_mod (dv 0) (dv 1)) da_nil)))))
      (dss_one (ds_ret (dv 0)))), fun ds M Q h => ?r⟩
  case r =>
    unfold sp_greatest_divisor at h
    split at h
    case h_2 => exact h.elim
    obtain ⟨a, b, rfl, rfl, q⟩ := h
    refine ⟨fun m δ M' => M' = M ∧ ∃ x y : Nat, δ = [some (.int x), some (.int y)] ∧ Nat.gcd x y = Nat.gcd a b ∧ m = y, ⟨_, rfl, _, _, rfl, rfl, rfl⟩, ?_⟩
    rintro m δ M' ⟨rfl, x, y, rfl, hxy, hm⟩
    refine ⟨_, rfl, _, rfl, ?_⟩
    refine ite2 (fun h => ?_) (fun h => ?_)
    · have hy : (y : Int) ≠ 0 := by simpa using h
      refine ⟨_, rfl, _, rfl, _, rfl, hy, _, _, rfl, ?_⟩
      have hy' : 0 < y := by omega
      refine ⟨x % y, by rw [hm]; exact Nat.mod_lt _ hy', rfl, y, x % y, ?_, ?_, rfl⟩
      · rw [← Ma.mod_nat]
        rfl
      · rw [← hxy, Nat.gcd_comm x y, Nat.gcd_rec y x, Nat.gcd_comm]
    · have hy : y = 0 := by simpa using h
      subst hy
      rw [Nat.gcd_zero_right] at hxy
      subst hxy
      exact ⟨_, rfl, rtn q⟩
theorem sc_fraction : FnScope ["top", "bottom", "divisor"] ["top", "bottom"] (defScope s_fraction) := ⟨rfl, rfl, rfl, by decide, rfl, by decide, by decide⟩
noncomputable def sp_fraction : SpD := fun ds M Q => match ds with
  | [x, y] => ∃ t b, x = .int t ∧ y = .int b ∧ b ≠ 0 ∧ Bd 8000 t ∧ Bd 8000 b ∧ Q (Ma.fr (Rat.divInt t b)) M
  | _ => False
theorem ln_fraction : ∀ ds M Q, sp_fraction ds M Q → ds.length = 2 := fun ds M Q h => by
  unfold sp_fraction at h
  split at h
  · rfl
  · exact h.elim
set_option maxHeartbeats 4000000 in
theorem c_fraction {P : Program} {w : World} {K : PySem.W.Frag} {mg : Str → Option Value} {base : Heap} (T : Tx K mg) : Cal P w K mg base 2 "fraction" sp_fraction := by
  refine calD (k := 1) (N := ["top", "bottom", "divisor"]) (ps := ["top", "bottom"]) T.f_fraction sc_fraction (fun _ _ _ _ _ _ us hl => match us, hl with | [_, _], _ => rfl) ln_fraction fun f cdv A outer s H E hr => ⟨_, (dss_cons (ds_if (dt_cmp (od_eq hr.units) (dv 1) de_int) (dss_one ds_never) dss_nil)
      (dss_cons (ds_set 2 sc_fraction.nd (de_call ((c_greatest_divisor T).mono (by decide)) hr (da_cons (de_callB cd_abs rfl T.b_abs bt_abs (da_cons (dv 0) da_nil)) (da_cons (de_callB cd_abs rfl T.b_abs bt_abs (da_cons (dv 1) da_nil)) da_nil))))
      (dss_cons (ds_if (dt_cmp (od_ltX hr.units) (dv 1) de_int) (dss_one (ds_set 2 sc_fraction.nd (de_un un_negD (dv 2)))) dss_nil)
      (dss_one (ds_ret (de_tup (da_cons (de_op od_fd (dv 0) (dv 2)) (da_cons (de_op od_fd (dv 1) (dv 2)) da_nil)))))))), fun ds M Q h => ?r⟩
  case r =>
    unfold sp_fraction at h
    split at h
    case h_2 => exact h.elim
    obtain ⟨t, b, rfl, rfl, hb, ht, hbb, q⟩ := h
    have hg := Ma.g_pos (t := t) hb
    have hgd : Bd 8000 ((Nat.gcd t.natAbs b.natAbs : Nat) : Int) := hbb.of_le (by simpa using Nat.gcd_le_right t.natAbs (show 0 < b.natAbs by omega))
    refine ⟨_, rfl, _, rfl, iteB (decide_eq_false hb) ?_⟩
    refine ⟨_, rfl, _, rfl, t.natAbs, b.natAbs, rfl, rfl, ?_⟩
    refine ⟨_, rfl, trivial, _, rfl, ?_⟩
    refine ite2 (fun h => ?_) (fun h => ?_)
    · have hneg : b < 0 := by simpa using h
      obtain ⟨e1, e2⟩ := Ma.low_neg (t := t) hneg
      refine ⟨_, rfl, _, rfl, _, rfl, ⟨by omega, hgd.neg⟩, _, rfl, _, rfl, ⟨by omega, hgd.neg⟩, Nat.le_of_ble_eq_true rfl, ?_⟩
      dsimp only
      rw [e1, e2]
      exact rtn q
    · have hpos : 0 < b := by
        have : ¬ b < 0 := by simpa using h
        omega
      obtain ⟨e1, e2⟩ := Ma.low_pos (t := t) hpos
      refine ⟨_, rfl, _, rfl, ⟨by omega, hgd⟩, _, rfl, _, rfl, ⟨by omega, hgd⟩, Nat.le_of_ble_eq_true rfl, ?_⟩
      dsimp only
      rw [e1, e2]
      exact rtn q
theorem sc_own_spot : FnScope ["spot", "x", "y"] ["spot"] (defScope s_own_spot) := ⟨rfl, rfl, rfl, by decide, rfl, by decide, by decide⟩
noncomputable def sp_own_spot : SpD := fun ds M Q => match ds with
  | [x] => ∃ a b : Rat, x = Ma.spt a b ∧ Ma.Bq 8000 a ∧ Ma.Bq 8000 b ∧ Q (Ma.spt a b) M
  | _ => False
theorem ln_own_spot : ∀ ds M Q, sp_own_spot ds M Q → ds.length = 1 := fun ds M Q h => by
  unfold sp_own_spot at h
  split at h
  · rfl
  · exact h.elim
set_option maxHeartbeats 4000000 in
theorem c_own_spot {P : Program} {w : World} {K : PySem.W.Frag} {mg : Str → Option Value} {base : Heap} (T : Tx K mg) : Cal P w K mg base 3 "own_spot" sp_own_spot := by
  refine calD (k := 2) (N := ["spot", "x", "y"]) (ps := ["spot"]) T.f_own_spot sc_own_spot (fun _ _ _ _ _ _ us hl => match us, hl with | [_], _ => rfl) ln_own_spot fun f cdv A outer s H E hr => ⟨_, (dss_cons (ds_asg (dv 0) (dg_tup rfl (dgs_cons (dg_name 1 sc_own_spot.nd) (dgs_cons (dg_name 2 sc_own_spot.nd) dgs_nil))))
      (dss_one (ds_ret (de_tup (da_cons (de_call ((c_fraction T).mono (by decide)) hr (da_cons (de_ix (dv 1) de_int) (da_cons (de_ix (dv 1) de_int) da_nil))) (da_cons (de_call ((c_fraction T).mono (by decide)) hr (da_cons (de_ix (dv 2) de_int) (da_cons (de_ix (dv 2) de_int) da_nil))) da_nil)))))), fun ds M Q h => ?r⟩
  case r =>
    unfold sp_own_spot at h
    split at h
    case h_2 => exact h.elim
    obtain ⟨a, b, rfl, h1, h2, k⟩ := h
    refine ⟨_, rfl, _, rfl, rfl, _, _, rfl, _, _, rfl, rfl, ?_⟩
    refine ⟨_, rfl, _, rfl, _, rfl, _, rfl, a.num, (a.den : Int), rfl, rfl, Ma.den_ne a, h1.1, h1.2, ?_⟩
    refine ⟨_, rfl, _, rfl, _, rfl, _, rfl, b.num, (b.den : Int), rfl, rfl, Ma.den_ne b, h2.1, h2.2, Nat.le_of_ble_eq_true rfl, ?_⟩
    rw [Rat.num_divInt_den, Rat.num_divInt_den]
    exact rtn k
theorem sc_own_wall : FnScope ["wall"] ["wall"] (defScope s_own_wall) := ⟨rfl, rfl, rfl, by decide, rfl, by decide, by decide⟩
noncomputable def sp_own_wall : SpD := fun ds M Q => match ds with
  | [x] => ∃ a b c d : Rat, x = Ma.wll a b c d ∧ Ma.Bq 8000 a ∧ Ma.Bq 8000 b ∧ Ma.Bq 8000 c ∧ Ma.Bq 8000 d ∧ Q (Ma.wll a b c d) M
  | _ => False
theorem ln_own_wall : ∀ ds M Q, sp_own_wall ds M Q → ds.length = 1 := fun ds M Q h => by
  unfold sp_own_wall at h
  split at h
  · rfl
  · exact h.elim
set_option maxHeartbeats 4000000 in
theorem c_own_wall {P : Program} {w : World} {K : PySem.W.Frag} {mg : Str → Option Value} {base : Heap} (T : Tx K mg) : Cal P w K mg base 4 "own_wall" sp_own_wall := by
  refine calD (k := 3) (N := ["wall"]) (ps := ["wall"]) T.f_own_wall sc_own_wall (fun _ _ _ _ _ _ us hl => match us, hl with | [_], _ => rfl) ln_own_wall fun f cdv A outer s H E hr => ⟨_, (dss_one (ds_ret (de_tup (da_cons (de_call ((c_own_spot T).mono (by decide)) hr (da_cons (de_ix (dv 0) de_int) da_nil)) (da_cons (de_call ((c_own_spot T).mono (by decide)) hr (da_cons (de_ix (dv 0) de_int) da_nil)) da_nil))))), fun ds M Q h => ?r⟩
  case r =>
    unfold sp_own_wall at h
    split at h
    case h_2 => exact h.elim
    obtain ⟨a, b, c, d, rfl, h1, h2, h3, h4, k⟩ := h
    exact ⟨_, rfl, _, rfl, a, b, rfl, h1, h2, _, rfl, _, rfl, c, d, rfl, h3, h4, Nat.le_of_ble_eq_true rfl, rtn k⟩
theorem sc_wall_of : FnScope ["one", "other"] ["one", "other"] (defScope s_wall_of) := ⟨rfl, rfl, rfl, by decide, rfl, by decide, by decide⟩
noncomputable def sp_wall_of : SpD := fun ds M Q => match ds with
  | [x, y] => ∃ a b c d : Rat, x = Ma.spt a b ∧ y = Ma.spt c d ∧ Ma.Bq 8000 a ∧ Ma.Bq 8000 b ∧ Ma.Bq 8000 c ∧ Ma.Bq 8000 d ∧ ¬ (a = c ∧ b = d) ∧ ((a < c ∨ a = c ∧ b < d) → Q (Ma.wll a b c d) M) ∧ (¬ (a < c ∨ a = c ∧ b < d) → Q (Ma.wll c d a b) M)
  | _ => False
theorem ln_wall_of : ∀ ds M Q, sp_wall_of ds M Q → ds.length = 2 := fun ds M Q h => by
  unfold sp_wall_of at h
  split at h
  · rfl
  · exact h.elim
set_option maxHeartbeats 4000000 in
theorem c_wall_of {P : Program} {w : World} {K : PySem.W.Frag} {mg : Str → Option Value} {base : Heap} (T : Tx K mg) : Cal P w K mg base 5 "wall_of" sp_wall_of := by
  refine calD (k := 4) (N := ["one", "other"]) (ps := ["one", "other"]) T.f_wall_of sc_wall_of (fun _ _ _ _ _ _ us hl => match us, hl with | [_, _], _ => rfl) ln_wall_of fun f cdv A outer s H E hr => ⟨_, (dss_cons (ds_if (dt_val (de_call ((c_is_ahead T).mono (by decide)) hr (da_cons (dv 0) (da_cons (dv 1) da_nil)))) (dss_one (ds_ret (de_call ((c_own_wall T).mono (by decide)) hr (da_cons (de_tup (da_cons (dv 0) (da_cons (dv 1) da_nil))) da_nil)))) dss_nil)
      (dss_cons (ds_if (dt_val (de_call ((c_is_ahead T).mono (by decide)) hr (da_cons (dv 1) (da_cons (dv 0) da_nil)))) (dss_one (ds_ret (de_call ((c_own_wall T).mono (by decide)) hr (da_cons (de_tup (da_cons (dv 1) (da_cons (dv 0) da_nil))) da_nil)))) dss_nil)
      (dss_one ds_never))), fun ds M Q h => ?r⟩
  case r =>
    unfold sp_wall_of at h
    split at h
    case h_2 => exact h.elim
    obtain ⟨a, b, c, d, rfl, rfl, h1, h2, h3, h4, hne, k1, k2⟩ := h
    refine ⟨_, rfl, _, rfl, a, b, c, d, rfl, rfl, h1.mono (by decide), h2.mono (by decide), h3.mono (by decide), h4.mono (by decide), _, rfl, ?_⟩
    refine ite2 (fun h => ?_) (fun h => ?_)
    · have h' : a < c ∨ a = c ∧ b < d := by simpa using h
      exact ⟨_, rfl, _, rfl, Nat.le_of_ble_eq_true rfl, a, b, c, d, rfl, h1, h2, h3, h4, rtn (k1 h')⟩
    · have h' : ¬ (a < c ∨ a = c ∧ b < d) := by simpa using h
      have h2' : c < a ∨ c = a ∧ d < b := by
        have := Ma.other_way a b c d
        have e : decide (c < a ∨ c = a ∧ d < b) = true := by rw [this]; simp only [decide_eq_false hne, decide_eq_false h']; rfl
        simpa using e
      refine ⟨_, rfl, _, rfl, c, d, a, b, rfl, rfl, h3.mono (by decide), h4.mono (by decide), h1.mono (by decide), h2.mono (by decide), _, rfl, iteA (decide_eq_true h2') ?_⟩
      exact ⟨_, rfl, _, rfl, Nat.le_of_ble_eq_true rfl, c, d, a, b, rfl, h3, h4, h1, h2, rtn (k2 h')⟩
theorem sc_with_spots : FnScope ["plot", "become"] ["plot", "become"] (defScope s_with_spots) := ⟨rfl, rfl, rfl, by decide, rfl, by decide, by decide⟩
noncomputable def Bn (n : Int) (u : Vc) : Prop := (-n ≤ u.1 ∧ u.1 ≤ n) ∧ (-n ≤ u.2 ∧ u.2 ≤ n)
noncomputable def sp_with_spots (g : Addr) (spg : SpD) (Mc : MH → Prop) : SpD := fun ds M Q => match ds with
  | [x, y] => ∃ (t b X Y X' Y' : Int) (ws : List Wl) (f : Vc → Vc), x = .tup (ws.map (rwl t b X Y)) ∧ y = .ref g ∧ Scl t b X Y ∧ Scl t b X' Y' ∧ (∀ w ∈ ws, Od w ∧ Uok (10 ^ 5) w) ∧ (∀ u v, f u = f v → u = v) ∧ (∀ u, Bn (10 ^ 5) u → Bn (10 ^ 6) (f u)) ∧ ws.length ≤ 1000 ∧ (∀ M', SD.Sub M M' → Mc M') ∧
      (∀ (u : Vc) (M' : MH) (Q' : DK), Bn (10 ^ 5) u → Q' (Ma.spt (Ma.ut t b X' 1 (f u).1) (Ma.ut t b Y' 1 (f u).2)) M' → spg [Ma.spt (Ma.ut t b X 1 u.1) (Ma.ut t b Y 1 u.2)] M' Q') ∧ Q (.tup (ws.map fun w => rwl t b X' Y' (ow f w))) M
  | _ => False
theorem ln_with_spots (g : Addr) (spg : SpD) (Mc : MH → Prop) : ∀ ds M Q, sp_with_spots g spg Mc ds M Q → ds.length = 2 := fun ds M Q h => by
  unfold sp_with_spots at h
  split at h
  · rfl
  · exact h.elim
set_option maxHeartbeats 4000000 in
theorem c_with_spots {P : Program} {w : World} {K : PySem.W.Frag} {mg : Str → Option Value} {base : Heap} (T : Tx K mg) {kg : Nat} {g : Addr} {spg : SpD} {Mc : MH → Prop} (hc0 : CalV P w K mg base kg g spg Mc) (hk : kg ≤ 5) : Cal P w K mg base 6 "with_spots" (sp_with_spots g spg Mc) := by
  have hc := hc0.mono hk
  refine calD (k := 5) (N := ["plot", "become"]) (ps := ["plot", "become"]) T.f_with_spots sc_with_spots (fun _ _ _ _ _ _ us hl => match us, hl with | [_, _], _ => rfl) (ln_with_spots g spg Mc) fun f cdv A outer s H E hr => ⟨_, (dss_one (ds_ret (de_callTy cd_tuple rfl T.b_tuple bt_tuple (da_cons (de_comp2 (CScope.of (xs := ["first", "second"]) (js := [1]) rfl) rfl (di_seq (dv 0)) (fun _ _ _ _ => dts_nil) (fun _ _ _ _ => (de_call ((c_wall_of T).mono (by decide)) hr (da_cons (de_callV 2 hc hr (da_cons (dv 0) da_nil)) (da_cons (de_callV 2 hc hr (da_cons (dv 1) da_nil)) da_nil))))) da_nil)))), fun ds M Q h => ?r⟩
  case r =>
    unfold sp_with_spots at h
    split at h
    case h_2 => exact h.elim
    obtain ⟨t, b, X, Y, X', Y', ws, f, rfl, rfl, S, S', hW, hf, hfb, hl, hMc, hg, k⟩ := h
    refine ⟨_, rfl, ws.map (rwl t b X Y), rfl, comp_map (fun i => ((ws.map fun w => rwl t b X' Y' (ow f w))[i]?).getD .non) (by show (ws.map (rwl t b X Y)).length ≤ 1000000; simp; omega) (fun p ys hp => rfl) ?_ (fun p hp => ⟨_, updM_same, ?_⟩)⟩
    · intro i e M' hi he sb
      have he : (ws.map (rwl t b X Y))[i]? = some e := he
      rw [List.getElem?_map] at he
      cases ew : ws[i]? with
      | none => rw [ew] at he; cases he
      | some w =>
        rw [ew] at he
        cases he
        obtain ⟨od, u1, u2, u3, u4⟩ := hW w (List.mem_of_getElem? ew)
        have one : (0 : Int) < 1 ∧ (1 : Int) ≤ 10 ^ 6 := by decide
        refine ⟨_, ⟨_, rfl, rfl, rfl⟩, fun K hK => ?_⟩
        have hK' := hK M' .refl
        rw [List.getElem?_map, ew] at hK'
        have ne : f (ea w) ≠ f (eb w) := fun z => od_unl od (hf _ _ z)
        obtain ⟨d1, d2, d3⟩ := wo_wll (X := X') (Y := Y') S.t0 S.b0 ne
        have ba := hfb (ea w) ⟨u1, u2⟩
        have bb := hfb (eb w) ⟨u3, u4⟩
        refine ⟨rfl, _, rfl, hMc _ sb, hg (ea w) M' _ ⟨u1, u2⟩ ?_⟩
        refine ⟨rfl, _, rfl, hMc _ sb, hg (eb w) M' _ ⟨u3, u4⟩ ?_⟩
        exact ⟨_, _, _, _, rfl, rfl, (S'.bx one ba.1).mono (by decide), (S'.by' one ba.2).mono (by decide), (S'.bx one bb.1).mono (by decide), (S'.by' one bb.2).mono (by decide), d1, fun z => by rw [← d2 z]; exact hK', fun z => by rw [← d3 z]; exact hK'⟩
    · refine ⟨_, .new hp .refl, ?_⟩
      have e : (List.range (ws.map (rwl t b X Y)).length).map (fun i => ((ws.map fun w => rwl t b X' Y' (ow f w))[i]?).getD .non) = ws.map fun w => rwl t b X' Y' (ow f w) := by
        have := SD.range_getD (ws.map fun w => rwl t b X' Y' (ow f w))
        rw [List.length_map] at this ⊢
        exact this
      dsimp only
      rw [e]
      exact k
theorem sc_turned_spot : FnScope ["spot", "x", "y"] ["spot"] (defScope s_turned_spot) := ⟨rfl, rfl, rfl, by decide, rfl, by decide, by decide⟩
noncomputable def sp_turned_spot : SpD := fun ds M Q => match ds with
  | [x] => ∃ a b : Rat, x = Ma.spt a b ∧ Q (Ma.spt (-b) a) M
  | _ => False
theorem ln_turned_spot : ∀ ds M Q, sp_turned_spot ds M Q → ds.length = 1 := fun ds M Q h => by
  unfold sp_turned_spot at h
  split at h
  · rfl
  · exact h.elim
set_option maxHeartbeats 4000000 in
theorem c_turned_spot {P : Program} {w : World} {K : PySem.W.Frag} {mg : Str → Option Value} {base : Heap} (T : Tx K mg) : Cal P w K mg base 1 "turned_spot" sp_turned_spot := by
  refine calD (k := 0) (N := ["spot", "x", "y"]) (ps := ["spot"]) T.f_turned_spot sc_turned_spot (fun _ _ _ _ _ _ us hl => match us, hl with | [_], _ => rfl) ln_turned_spot fun f cdv A outer s H E hr => ⟨_, (dss_cons (ds_asg (dv 0) (dg_tup rfl (dgs_cons (dg_name 1 sc_turned_spot.nd) (dgs_cons (dg_name 2 sc_turned_spot.nd) dgs_nil))))
      (dss_one (ds_ret (de_tup (da_cons (de_tup (da_cons (de_un un_negD (de_ix (dv 2) de_int)) (da_cons (de_ix (dv 2) de_int) da_nil))) (da_cons (dv 1) da_nil)))))), fun ds M Q h => ?r⟩
  case r =>
    unfold sp_turned_spot at h
    split at h
    case h_2 => exact h.elim
    obtain ⟨a, b, rfl, k⟩ := h
    refine ⟨_, rfl, _, rfl, rfl, _, _, rfl, _, _, rfl, rfl, ?_⟩
    refine ⟨_, rfl, _, rfl, _, rfl, _, rfl, Nat.le_of_ble_eq_true rfl, _, rfl, Nat.le_of_ble_eq_true rfl, ?_⟩
    rw [show Ma.spt (-b) a = .tup [.tup [.int (-b.num), .int (b.den : Int)], Ma.fr a] by unfold Ma.spt Ma.fr; rw [Rat.neg_num, Rat.neg_den]] at k
    exact rtn k
theorem sc_turned : FnScope ["plot"] ["plot"] (defScope s_turned) := ⟨rfl, rfl, rfl, by decide, rfl, by decide, by decide⟩
noncomputable def sp_turned : SpD := fun ds M Q => match ds with
  | [x] => ∃ (t b X Y : Int) (ws : List Wl), x = .tup (ws.map (rwl t b X Y)) ∧ Scl t b X Y ∧ (∀ w ∈ ws, Od w ∧ Uok (10 ^ 5) w) ∧ ws.length ≤ 1000 ∧ Q (.tup (ws.map fun w => rwl t b (-Y) X (ow ft w))) M
  | _ => False
theorem ln_turned : ∀ ds M Q, sp_turned ds M Q → ds.length = 1 := fun ds M Q h => by
  unfold sp_turned at h
  split at h
  · rfl
  · exact h.elim
set_option maxHeartbeats 4000000 in
theorem c_turned {P : Program} {w : World} {K : PySem.W.Frag} {mg : Str → Option Value} {base : Heap} (T : Tx K mg) : Cal P w K mg base 7 "turned" sp_turned := by
  obtain ⟨g, hg, hv⟩ := (c_turned_spot (P := P) (w := w) (base := base) T).val (fun _ => True)
  refine calD (k := 6) (N := ["plot"]) (ps := ["plot"]) T.f_turned sc_turned (fun _ _ _ _ _ _ us hl => match us, hl with | [_], _ => rfl) ln_turned fun f cdv A outer s H E hr => ⟨_, dss_one (ds_ret (de_call ((c_with_spots T hv (by decide)).mono (by decide)) hr (da_cons (dv 0) (da_cons (de_globF hg) da_nil)))), fun ds M Q h => ?r⟩
  case r =>
    unfold sp_turned at h
    split at h
    case h_2 => exact h.elim
    obtain ⟨t, b, X, Y, ws, rfl, S, hW, hl, k⟩ := h
    refine ⟨_, rfl, t, b, X, Y, -Y, X, ws, ft, rfl, rfl, S, ⟨S.t0, S.t1, S.b0, S.b1, by have := S.y1; omega, by have := S.y0; omega, S.x0, S.x1⟩, hW, ft_inj, fun u hu => ?_, hl, fun _ _ => trivial, fun u M' Q' hu q => ?_, rtn k⟩
    · obtain ⟨⟨a, b⟩, c, d⟩ := hu
      exact ⟨⟨by show -(10 ^ 6) ≤ -u.2; omega, by show -u.2 ≤ 10 ^ 6; omega⟩, by show -(10 ^ 6) ≤ u.1; omega, by show u.1 ≤ 10 ^ 6; omega⟩
    · refine ⟨_, _, rfl, ?_⟩
      rw [ut_neg S.b0]
      exact q
theorem sc_mirrored_spot : FnScope ["spot", "x", "y"] ["spot"] (defScope s_mirrored_spot) := ⟨rfl, rfl, rfl, by decide, rfl, by decide, by decide⟩
noncomputable def sp_mirrored_spot : SpD := fun ds M Q => match ds with
  | [x] => ∃ a b : Rat, x = Ma.spt a b ∧ Q (Ma.spt (-a) b) M
  | _ => False
theorem ln_mirrored_spot : ∀ ds M Q, sp_mirrored_spot ds M Q → ds.length = 1 := fun ds M Q h => by
  unfold sp_mirrored_spot at h
  split at h
  · rfl
  · exact h.elim
set_option maxHeartbeats 4000000 in
theorem c_mirrored_spot {P : Program} {w : World} {K : PySem.W.Frag} {mg : Str → Option Value} {base : Heap} (T : Tx K mg) : Cal P w K mg base 1 "mirrored_spot" sp_mirrored_spot := by
  refine calD (k := 0) (N := ["spot", "x", "y"]) (ps := ["spot"]) T.f_mirrored_spot sc_mirrored_spot (fun _ _ _ _ _ _ us hl => match us, hl with | [_], _ => rfl) ln_mirrored_spot fun f cdv A outer s H E hr => ⟨_, (dss_cons (ds_asg (dv 0) (dg_tup rfl (dgs_cons (dg_name 1 sc_mirrored_spot.nd) (dgs_cons (dg_name 2 sc_mirrored_spot.nd) dgs_nil))))
      (dss_one (ds_ret (de_tup (da_cons (de_tup (da_cons (de_un un_negD (de_ix (dv 1) de_int)) (da_cons (de_ix (dv 1) de_int) da_nil))) (da_cons (dv 2) da_nil)))))), fun ds M Q h => ?r⟩
  case r =>
    unfold sp_mirrored_spot at h
    split at h
    case h_2 => exact h.elim
    obtain ⟨a, b, rfl, k⟩ := h
    refine ⟨_, rfl, _, rfl, rfl, _, _, rfl, _, _, rfl, rfl, ?_⟩
    refine ⟨_, rfl, _, rfl, _, rfl, _, rfl, Nat.le_of_ble_eq_true rfl, _, rfl, Nat.le_of_ble_eq_true rfl, ?_⟩
    rw [show Ma.spt (-a) b = .tup [.tup [.int (-a.num), .int (a.den : Int)], Ma.fr b] by unfold Ma.spt Ma.fr; rw [Rat.neg_num, Rat.neg_den]] at k
    exact rtn k
theorem sc_mirrored : FnScope ["plot"] ["plot"] (defScope s_mirrored) := ⟨rfl, rfl, rfl, by decide, rfl, by decide, by decide⟩
noncomputable def sp_mirrored : SpD := fun ds M Q => match ds with
  | [x] => ∃ (t b X Y : Int) (ws : List Wl), x = .tup (ws.map (rwl t b X Y)) ∧ Scl t b X Y ∧ (∀ w ∈ ws, Od w ∧ Uok (10 ^ 5) w) ∧ ws.length ≤ 1000 ∧ Q (.tup (ws.map fun w => rwl t b (-X) Y (ow fi w))) M
  | _ => False
theorem ln_mirrored : ∀ ds M Q, sp_mirrored ds M Q → ds.length = 1 := fun ds M Q h => by
  unfold sp_mirrored at h
  split at h
  · rfl
  · exact h.elim
set_option maxHeartbeats 4000000 in
theorem c_mirrored {P : Program} {w : World} {K : PySem.W.Frag} {mg : Str → Option Value} {base : Heap} (T : Tx K mg) : Cal P w K mg base 7 "mirrored" sp_mirrored := by
  obtain ⟨g, hg, hv⟩ := (c_mirrored_spot (P := P) (w := w) (base := base) T).val (fun _ => True)
  refine calD (k := 6) (N := ["plot"]) (ps := ["plot"]) T.f_mirrored sc_mirrored (fun _ _ _ _ _ _ us hl => match us, hl with | [_], _ => rfl) ln_mirrored fun f cdv A outer s H E hr => ⟨_, dss_one (ds_ret (de_call ((c_with_spots T hv (by decide)).mono (by decide)) hr (da_cons (dv 0) (da_cons (de_globF hg) da_nil)))), fun ds M Q h => ?r⟩
  case r =>
    unfold sp_mirrored at h
    split at h
    case h_2 => exact h.elim
    obtain ⟨t, b, X, Y, ws, rfl, S, hW, hl, k⟩ := h
    refine ⟨_, rfl, t, b, X, Y, -X, Y, ws, fi, rfl, rfl, S, ⟨S.t0, S.t1, S.b0, S.b1, by have := S.x1; omega, by have := S.x0; omega, S.y0, S.y1⟩, hW, fi_inj, fun u hu => ?_, hl, fun _ _ => trivial, fun u M' Q' hu q => ?_, rtn k⟩
    · obtain ⟨⟨a, b⟩, c, d⟩ := hu
      exact ⟨⟨by show -(10 ^ 6) ≤ -u.1; omega, by show -u.1 ≤ 10 ^ 6; omega⟩, by show -(10 ^ 6) ≤ u.2; omega, by show u.2 ≤ 10 ^ 6; omega⟩
    · refine ⟨_, _, rfl, ?_⟩
      rw [ut_neg S.b0]
      exact q
theorem sc_plus : FnScope ["one", "other"] ["one", "other"] (defScope s_plus) := ⟨rfl, rfl, rfl, by decide, rfl, by decide, by decide⟩
noncomputable def sp_plus : SpD := fun ds M Q => match ds with
  | [x, y] => ∃ (n : Nat) (q r : Rat), x = Ma.fr q ∧ y = Ma.fr r ∧ Ma.Bq n q ∧ Ma.Bq n r ∧ 2 * n + 1 ≤ 8000 ∧ Q (Ma.fr (q + r)) M
  | _ => False
theorem ln_plus : ∀ ds M Q, sp_plus ds M Q → ds.length = 2 := fun ds M Q h => by
  unfold sp_plus at h
  split at h
  · rfl
  · exact h.elim
set_option maxHeartbeats 4000000 in
theorem c_plus {P : Program} {w : World} {K : PySem.W.Frag} {mg : Str → Option Value} {base : Heap} (T : Tx K mg) : Cal P w K mg base 3 "plus" sp_plus := by
  refine calD (k := 2) (N := ["one", "other"]) (ps := ["one", "other"]) T.f_plus sc_plus (fun _ _ _ _ _ _ us hl => match us, hl with | [_, _], _ => rfl) ln_plus fun f cdv A outer s H E hr => ⟨_, (dss_one (ds_ret (de_call ((c_fraction T).mono (by decide)) hr (da_cons (de_op od_add (de_op od_mul (de_ix (dv 0) de_int) (de_ix (dv 1) de_int)) (de_op od_mul (de_ix (dv 1) de_int) (de_ix (dv 0) de_int))) (da_cons (de_op od_mul (de_ix (dv 0) de_int) (de_ix (dv 1) de_int)) da_nil))))), fun ds M Q h => ?r⟩
  case r =>
    unfold sp_plus at h
    split at h
    case h_2 => exact h.elim
    obtain ⟨n, q, r, rfl, rfl, h1, h2, hn, k⟩ := h
    obtain ⟨m1, m2, m3, m4⟩ := h1.mOk h2 (by omega)
    refine ⟨_, rfl, _, rfl, _, rfl, _, rfl, m2, _, rfl, _, rfl, _, rfl, _, rfl, m3, _, rfl, _, rfl, _, rfl, _, rfl, m4, ?_⟩
    refine ⟨_, _, rfl, rfl, Ma.dd_ne q r, (h1.t_add h2).mono hn, (h1.t_den h2).mono hn, ?_⟩
    rw [Ma.add_eq]
    exact rtn k
theorem sc_moved : FnScope ["plot", "spot"] ["plot", "spot"] (defScope s_moved) := ⟨rfl, rfl, rfl, by decide, rfl, by decide, by decide⟩
noncomputable def lq : Str := (envOfC "moved" (defScope s_moved) 0 0 .none).qual ++ "<lambda>"
noncomputable abbrev Tb (M : MH) : Prop := TabM lq 133 ⟨53, 28, 53, 86⟩ M
noncomputable def sp_moved : SpD := fun ds M Q => match ds with
  | [x, y] => ∃ (t b X Y p q : Int) (ws : List Wl), x = .tup (ws.map (rwl t b X Y)) ∧ y = Ma.spt (Ma.ut t b 0 1 p) (Ma.ut t b 0 1 q) ∧ Scl t b X Y ∧ (∀ w ∈ ws, Od w ∧ Uok (10 ^ 5) w) ∧ ws.length ≤ 1000 ∧ (-49 ≤ p ∧ p ≤ 49) ∧ (-49 ≤ q ∧ q ≤ 49) ∧ Tb M ∧ ∀ M', Tb M' → SubT 133 M M' → Q (.tup (ws.map fun w => rwl t b X Y (ow (fm p q) w))) M'
  | _ => False
theorem ln_moved : ∀ ds M Q, sp_moved ds M Q → ds.length = 2 := fun ds M Q h => by
  unfold sp_moved at h
  split at h
  · rfl
  · exact h.elim
noncomputable def sp_lam (d : D) : SpD := fun ds M Q => match ds with
  | [x] => ∃ a b p q : Rat, x = Ma.spt a b ∧ d = Ma.spt p q ∧ Ma.Bq 300 a ∧ Ma.Bq 300 b ∧ Ma.Bq 300 p ∧ Ma.Bq 300 q ∧ Q (Ma.spt (a + p) (b + q)) M
  | _ => False
theorem ln_lam (d : D) : ∀ ds M Q, sp_lam d ds M Q → ds.length = 1 := fun ds M Q h => by
  unfold sp_lam at h
  split at h
  · rfl
  · exact h.elim
set_option maxHeartbeats 4000000 in
theorem c_moved {P : Program} {w : World} {K : PySem.W.Frag} {mg : Str → Option Value} {base : Heap} (T : Tx K mg) : Cal P w K mg base 7 "moved" sp_moved := by
  refine calC (k := 6) (N := ["plot", "spot"]) (ps := ["plot", "spot"]) T.fc_moved sc_moved (fun _ _ _ _ _ _ us hl => match us, hl with | [_, _], _ => rfl) ln_moved fun f A outer s H E hr => ⟨_, dss_one (ds_ret (de_callLam (k := 4) (kk := 6) (lx := "end") (y := "spot") (Pt := 133) (spg := sp_lam) (spw := fun g d Mc => sp_with_spots g (sp_lam d) Mc) 1 rfl T.lm (by refine ⟨rfl, rfl, rfl, by decide, rfl, rfl, ?_, ?_⟩ <;> decide) (fun _ _ _ _ _ _ _ => rfl) ln_lam
    (fun base g c c' d2 A outer s H hr => ⟨_, (de_tup (da_cons (de_call ((c_plus T).mono (by decide)) hr (da_cons (de_ix (dv 0) de_int) (da_cons (de_ix (dv 1) de_int) da_nil))) (da_cons (de_call ((c_plus T).mono (by decide)) hr (da_cons (de_ix (dv 0) de_int) (da_cons (de_ix (dv 1) de_int) da_nil))) da_nil))), fun d1 M Q h => ?l⟩)
    (fun base g d2 Mc CV => (c_with_spots T CV (by decide)).mono (by decide)) T.kf_with_spots hr (dv 0))), fun ds M Q h => ?r⟩
  case l =>
    unfold sp_lam at h
    obtain ⟨a, b, p, q, rfl, rfl, h1, h2, h3, h4, k⟩ := h
    exact ⟨_, rfl, _, rfl, _, rfl, _, rfl, 300, a, p, rfl, rfl, h1, h3, by decide, _, rfl, _, rfl, _, rfl, _, rfl, 300, b, q, rfl, rfl, h2, h4, by decide, Nat.le_of_ble_eq_true rfl, k⟩
  case r =>
    unfold sp_moved at h
    split at h
    case h_2 => exact h.elim
    obtain ⟨t, b, X, Y, p, q, ws, rfl, rfl, S, hW, hl, hp, hq, hT, k⟩ := h
    have one : (0 : Int) < 1 ∧ (1 : Int) ≤ 10 ^ 6 := by decide
    have S0 : Scl t b 0 0 := ⟨S.t0, S.t1, S.b0, S.b1, by decide, by decide, by decide, by decide⟩
    refine ⟨_, rfl, _, rfl, hT, fun g Mc M2 hMc hT2 hsub => ?_⟩
    refine ⟨t, b, X, Y, X, Y, ws, fm p q, rfl, rfl, S, S, hW, fm_inj, fun u hu => ?_, hl, hMc, fun u M' Q' hu z => ?_, rtn (k M2 hT2 hsub)⟩
    · obtain ⟨⟨a, b⟩, c, d⟩ := hu
      exact ⟨⟨by show -(10 ^ 6) ≤ u.1 + p; omega, by show u.1 + p ≤ 10 ^ 6; omega⟩, by show -(10 ^ 6) ≤ u.2 + q; omega, by show u.2 + q ≤ 10 ^ 6; omega⟩
    · obtain ⟨⟨a, b⟩, c, d⟩ := hu
      refine ⟨_, _, _, _, rfl, rfl, (S.bx one ⟨by omega, by omega⟩).mono (by decide), (S.by' one ⟨by omega, by omega⟩).mono (by decide), (S0.bx one ⟨by omega, by omega⟩).mono (by decide), (S0.by' one ⟨by omega, by omega⟩).mono (by decide), ?_⟩
      rw [ut_add S.b0, ut_add S.b0]
      exact z
theorem sc_law_same : FnScope ["_law_found", "_law_due"] ["_law_found", "_law_due"] (defScope s_law_same) := ⟨rfl, rfl, rfl, by decide, rfl, by decide, by decide⟩
noncomputable def sp_law_same : SpD := fun ds M Q => match ds with
  | [x, y] => ∃ P, Pd M x P ∧ Pd M y P ∧ isDisp P = true ∧ Shn P ∧ Q (.bl true) M
  | _ => False
theorem ln_law_same : ∀ ds M Q, sp_law_same ds M Q → ds.length = 2 := fun ds M Q h => by
  unfold sp_law_same at h
  split at h
  · rfl
  · exact h.elim
set_option maxHeartbeats 4000000 in
theorem c_law_same {P : Program} {w : World} {K : PySem.W.Frag} {mg : Str → Option Value} {base : Heap} (T : Tx K mg) : Cal P w K mg base 1 "_law_same" sp_law_same := by
  refine calD (k := 0) (N := ["_law_found", "_law_due"]) (ps := ["_law_found", "_law_due"]) T.f_law_same sc_law_same (fun _ _ _ _ _ _ us hl => match us, hl with | [_, _], _ => rfl) ln_law_same fun f cdv A outer s H E hr => ⟨_, (dss_one (ds_ret (de_cmp od_eqS (de_callB (cd_repr hr.gd hr.units) rfl T.b_repr bt_repr (da_cons (dv 0) da_nil)) (de_callB (cd_repr hr.gd hr.units) rfl T.b_repr bt_repr (da_cons (dv 1) da_nil))))), fun ds M Q h => ?r⟩
  case r =>
    unfold sp_law_same at h
    split at h
    case h_2 => exact h.elim
    obtain ⟨P, p1, p2, di, S, k⟩ := h
    exact ⟨_, rfl, P, p1, di, S, _, rfl, P, p2, di, S, rfl, rtn k⟩
theorem sc_law_moved_spot : FnScope ["_law_spot", "_law_kind", "_law_far"] ["_law_spot", "_law_kind", "_law_far"] (defScope s_law_moved_spot) := ⟨rfl, rfl, rfl, by decide, rfl, by decide, by decide⟩
noncomputable def sp_law_moved_spot : SpD := fun ds M Q => match ds with
  | [x, y, z] => ∃ (k p q : Int) (u : Vc), x = .tup [.int u.1, .int u.2] ∧ y = .int k ∧ z = .tup [.int p, .int q] ∧ (k = 0 ∨ k = 1 ∨ k = 2) ∧ Q (.tup [.int (fk k p q u).1, .int (fk k p q u).2]) M
  | _ => False
theorem ln_law_moved_spot : ∀ ds M Q, sp_law_moved_spot ds M Q → ds.length = 3 := fun ds M Q h => by
  unfold sp_law_moved_spot at h
  split at h
  · rfl
  · exact h.elim
set_option maxHeartbeats 4000000 in
theorem c_law_moved_spot {P : Program} {w : World} {K : PySem.W.Frag} {mg : Str → Option Value} {base : Heap} (T : Tx K mg) : Cal P w K mg base 1 "_law_moved_spot" sp_law_moved_spot := by
  refine calD (k := 0) (N := ["_law_spot", "_law_kind", "_law_far"]) (ps := ["_law_spot", "_law_kind", "_law_far"]) T.f_law_moved_spot sc_law_moved_spot (fun _ _ _ _ _ _ us hl => match us, hl with | [_, _, _], _ => rfl) ln_law_moved_spot fun f cdv A outer s H E hr => ⟨_, (dss_cons (ds_if (dt_cmp (od_eq hr.units) (dv 1) de_int) (dss_one (ds_ret (de_tup (da_cons (de_op od_add (de_ix (dv 0) de_int) (de_ix (dv 2) de_int)) (da_cons (de_op od_add (de_ix (dv 0) de_int) (de_ix (dv 2) de_int)) da_nil))))) dss_nil)
      (dss_cons (ds_if (dt_cmp (od_eq hr.units) (dv 1) de_int) (dss_one (ds_ret (de_tup (da_cons (de_op od_sub de_int (de_ix (dv 0) de_int)) (da_cons (de_ix (dv 0) de_int) da_nil))))) dss_nil)
      (dss_one (ds_ret (de_tup (da_cons (de_op od_sub de_int (de_ix (dv 0) de_int)) (da_cons (de_ix (dv 0) de_int) da_nil))))))), fun ds M Q h => ?r⟩
  case r =>
    unfold sp_law_moved_spot at h
    split at h
    case h_2 => exact h.elim
    obtain ⟨k, p, q, u, rfl, rfl, rfl, hk, kk⟩ := h
    refine ⟨_, rfl, _, rfl, ?_⟩
    refine ite2 (fun h => ?_) (fun h => ?_)
    · have e : k = 0 := by simpa using h
      subst e
      exact ⟨_, rfl, _, rfl, _, rfl, _, rfl, _, rfl, _, rfl, _, rfl, _, rfl, Nat.le_of_ble_eq_true rfl, rtn kk⟩
    have e0 : k ≠ 0 := by simpa using h
    refine ⟨_, rfl, _, rfl, ?_⟩
    refine ite2 (fun h => ?_) (fun h => ?_)
    · have e : k = 1 := by simpa using h
      subst e
      refine ⟨_, rfl, _, rfl, trivial, _, rfl, _, rfl, Nat.le_of_ble_eq_true rfl, ?_⟩
      rw [show (fk 1 p q u) = (0 - u.1, u.2) from Prod.ext (by show -u.1 = 0 - u.1; omega) rfl] at kk
      exact rtn kk
    · have e : k = 2 := by
        have : k ≠ 1 := by simpa using h
        omega
      subst e
      refine ⟨_, rfl, _, rfl, trivial, _, rfl, _, rfl, Nat.le_of_ble_eq_true rfl, ?_⟩
      rw [show (fk 2 p q u) = (0 - u.2, u.1) from Prod.ext (by show -u.2 = 0 - u.2; omega) rfl] at kk
      exact rtn kk
theorem sc_law_moved_shuts : FnScope ["_law_shuts", "_law_kind", "_law_far", "_law_found", "_law_shut", "_law_ends"] ["_law_shuts", "_law_kind", "_law_far"] (defScope s_law_moved_shuts) := ⟨rfl, rfl, rfl, by decide, rfl, by decide, by decide⟩
noncomputable def sp_law_moved_shuts : SpD := fun ds M Q => match ds with
  | [x, y, z] => ∃ (l : Addr) (k p q : Int) (ws : List Wl), x = .ref l ∧ y = .int k ∧ z = .tup [.int p, .int q] ∧ (k = 0 ∨ k = 1 ∨ k = 2) ∧ M l = some (.lst (ws.map uw)) ∧ ws.length ≤ 40 ∧ ∀ (l' : Addr) M', SD.Sub M M' → M l' = none → M' l' = some (.lst ((ws.map (ow (fk k p q))).map uw)) → Q (.ref l') M'
  | _ => False
theorem ln_law_moved_shuts : ∀ ds M Q, sp_law_moved_shuts ds M Q → ds.length = 3 := fun ds M Q h => by
  unfold sp_law_moved_shuts at h
  split at h
  · rfl
  · exact h.elim
set_option maxHeartbeats 4000000 in
theorem c_law_moved_shuts {P : Program} {w : World} {K : PySem.W.Frag} {mg : Str → Option Value} {base : Heap} (T : Tx K mg) : Cal P w K mg base 2 "_law_moved_shuts" sp_law_moved_shuts := by
  refine calD (k := 1) (N := ["_law_shuts", "_law_kind", "_law_far", "_law_found", "_law_shut", "_law_ends"]) (ps := ["_law_shuts", "_law_kind", "_law_far"]) T.f_law_moved_shuts sc_law_moved_shuts (fun _ _ _ _ _ _ us hl => match us, hl with | [_, _, _], _ => rfl) ln_law_moved_shuts fun f cdv A outer s H E hr => ⟨_, (dss_cons (ds_set 3 sc_law_moved_shuts.nd (de_lst da_nil))
      (dss_cons (ds_for PassesOwn.never rfl (di_seq (dv 0)) (dg_name 4 sc_law_moved_shuts.nd) (dss_cons (ds_comp1 5 sc_law_moved_shuts.nd (CScope.of (xs := ["_law_spot"]) (js := [1, 2]) rfl) rfl (di_seq (dv 4)) (fun _ _ _ _ => dts_nil) (fun _ _ _ _ => (de_call ((c_law_moved_spot T).mono (by decide)) hr (da_cons (dv 0) (da_cons (dv 1) (da_cons (dv 2) da_nil))))))
      (dss_one (ds_expr (de_m_append (dv 3) (da_cons (de_tup (da_cons (de_callB (cd_minZ rfl hr.units) rfl T.b_min bt_min (da_cons (dv 5) da_nil)) (da_cons (de_callB (cd_maxZ rfl hr.units) rfl T.b_max bt_max (da_cons (dv 5) da_nil)) da_nil))) da_nil))))))
      (dss_one (ds_ret (dv 3))))), fun ds M Q h => ?r⟩
  case r =>
    unfold sp_law_moved_shuts at h
    split at h
    case h_2 => exact h.elim
    obtain ⟨l, k, p, q, ws, rfl, rfl, rfl, hk, hl, hlen, kk⟩ := h
    refine ⟨Nat.le_of_ble_eq_true rfl, fun lf hlf => ?_⟩
    refine ⟨_, rfl, _, (show (updM M lf _) l = _ by rw [updM_ne (ne_fresh hl hlf)]; exact hl), fun i δ M' => ∃ (o4 o5 : Option D), δ = [some (.ref l), some (.int k), some (.tup [.int p, .int q]), some (.ref lf), o4, o5] ∧ SD.Sub M M' ∧ M' lf = some (.lst (((ws.take i).map (ow (fk k p q))).map uw)), ⟨_, _, rfl, .new hlf .refl, updM_same⟩, fun i δ M' _ z => let ⟨_, _, _, sb, _⟩ := z; sb _ _ hl, ?_, ?_⟩
    rotate_left
    · rintro δ M' ⟨o4, o5, rfl, sb, hf⟩
      have hf : M' lf = some (.lst (((ws.take (ws.map uw).length).map (ow (fk k p q))).map uw)) := hf
      rw [List.length_map, List.take_length] at hf
      exact ⟨_, rfl, rtn (kk lf M' sb hlf hf)⟩
    rintro i d δ M5 hi hd ⟨o4, o5, rfl, sb, hf⟩
    have hi : i < (ws.map uw).length := hi
    rw [List.length_map] at hi
    have hd : (ws.map uw)[i]? = some d := hd
    rw [List.getElem?_map, List.getElem?_eq_getElem hi] at hd
    cases hd
    generalize ew : ws[i] = w at *
    have nlf : lf ≠ l := fun z => by rw [z, hl] at hlf; cases hlf
    refine ⟨_, rfl, [.tup [.int (ea w).1, .int (ea w).2], .tup [.int (eb w).1, .int (eb w).2]], rfl, comp_map (fun j => ([(fk k p q (ea w)), (fk k p q (eb w))][j]?).elim .non fun u => .tup [.int u.1, .int u.2]) (by show 2 ≤ 1000000; decide) (fun p ys hp => rfl) ?_ (fun le hle => ?_)⟩
    · intro j e M' hj he _
      have hj : j < 2 := hj
      have he : [D.tup [.int (ea w).1, .int (ea w).2], .tup [.int (eb w).1, .int (eb w).2]][j]? = some e := he
      rcases (show j = 0 ∨ j = 1 by omega) with rfl | rfl
      · cases he
        exact ⟨_, rfl, fun K hK => ⟨_, rfl, _, rfl, _, rfl, k, p, q, ea w, rfl, rfl, rfl, hk, hK M' .refl⟩⟩
      · cases he
        exact ⟨_, rfl, fun K hK => ⟨_, rfl, _, rfl, _, rfl, k, p, q, eb w, rfl, rfl, rfl, hk, hK M' .refl⟩⟩
    have nle : lf ≠ le := ne_fresh hf hle
    have hlf5 : ∀ {G}, (updM M5 le G) lf = some (.lst (((ws.take i).map (ow (fk k p q))).map uw)) := fun {G} => by rw [updM_ne nle]; exact hf
    refine ⟨_, rfl, lf, _, rfl, hlf5, ?_⟩
    refine ⟨_, rfl, [(fk k p q (ea w)).1, (fk k p q (ea w)).2], [(fk k p q (eb w)).1, (fk k p q (eb w)).2], updM_same, ?_⟩
    refine ⟨_, rfl, [(fk k p q (ea w)).1, (fk k p q (ea w)).2], [(fk k p q (eb w)).1, (fk k p q (eb w)).2], updM_same, Nat.le_of_ble_eq_true rfl, ?_⟩
    refine ⟨_, _, rfl, hlf5, (by simp; omega), ?_⟩
    rw [← min_wo]
    refine ⟨_, _, rfl, fun a o e => ?_, ?_⟩
    · have h5 := sb a o e
      rw [updM_ne (fun z => by rw [z, hlf] at e; cases e), updM_ne (fun z => by rw [z, hle] at h5; cases h5)]; exact h5
    · rw [updM_same, List.take_succ, List.getElem?_eq_getElem hi, ew]
      simp [ow]
theorem sc_law_right : FnScope ["_law_plot_here", "_law_shuts", "_law_frames_here", "_law_far", "_law_told", "_law_kind"] ["_law_plot_here", "_law_shuts", "_law_frames_here", "_law_far", "_law_told"] (defScope s_law_right) := ⟨rfl, rfl, rfl, by decide, rfl, by decide, by decide⟩
noncomputable def sk (k X Y : Int) : Int × Int := if k = 0 then (X, Y) else if k = 1 then (0 - X, Y) else (0 - Y, X)
noncomputable def toD (t b X Y p q : Int) (ws : List Wl) (k : Int) : D := .tup ((ws.map (ow (fk k p q))).map (rwl t b (sk k X Y).1 (sk k X Y).2))
theorem sk_scl {t b X Y k : Int} (S : Scl t b X Y) : Scl t b (sk k X Y).1 (sk k X Y).2 := by
  have x0 := S.x0
  have x1 := S.x1
  have y0 := S.y0
  have y1 := S.y1
  unfold sk
  split
  · exact S
  · split
    · exact ⟨S.t0, S.t1, S.b0, S.b1, by show -(10 ^ 30) ≤ 0 - X; omega, by show 0 - X ≤ 10 ^ 30; omega, y0, y1⟩
    · exact ⟨S.t0, S.t1, S.b0, S.b1, by show -(10 ^ 30) ≤ 0 - Y; omega, by show 0 - Y ≤ 10 ^ 30; omega, x0, x1⟩
theorem fk_uok {k p q : Int} {w : Wl} (hp : -49 ≤ p ∧ p ≤ 49) (hq : -49 ≤ q ∧ q ≤ 49) (W : Uok (10 ^ 4) w) : Uok (10 ^ 5) (ow (fk k p q) w) := by
  obtain ⟨w1, w2, w3, w4⟩ := W
  refine uok_wo ?_ ?_
  · unfold fk
    split
    · exact ⟨⟨by show -(10 ^ 5) ≤ w.1 + p; omega, by show w.1 + p ≤ 10 ^ 5; omega⟩, by show -(10 ^ 5) ≤ w.2.1 + q; omega, by show w.2.1 + q ≤ 10 ^ 5; omega⟩
    · split
      · exact ⟨⟨by show -(10 ^ 5) ≤ -w.1; omega, by show -w.1 ≤ 10 ^ 5; omega⟩, by show -(10 ^ 5) ≤ w.2.1; omega, by show w.2.1 ≤ 10 ^ 5; omega⟩
      · exact ⟨⟨by show -(10 ^ 5) ≤ -w.2.1; omega, by show -w.2.1 ≤ 10 ^ 5; omega⟩, by show -(10 ^ 5) ≤ w.1; omega, by show w.1 ≤ 10 ^ 5; omega⟩
  · unfold fk
    split
    · exact ⟨⟨by show -(10 ^ 5) ≤ w.2.2.1 + p; omega, by show w.2.2.1 + p ≤ 10 ^ 5; omega⟩, by show -(10 ^ 5) ≤ w.2.2.2 + q; omega, by show w.2.2.2 + q ≤ 10 ^ 5; omega⟩
    · split
      · exact ⟨⟨by show -(10 ^ 5) ≤ -w.2.2.1; omega, by show -w.2.2.1 ≤ 10 ^ 5; omega⟩, by show -(10 ^ 5) ≤ w.2.2.2; omega, by show w.2.2.2 ≤ 10 ^ 5; omega⟩
      · exact ⟨⟨by show -(10 ^ 5) ≤ -w.2.2.2; omega, by show -w.2.2.2 ≤ 10 ^ 5; omega⟩, by show -(10 ^ 5) ≤ w.2.2.1; omega, by show w.2.2.1 ≤ 10 ^ 5; omega⟩
noncomputable def sp_law_right : SpD := fun ds M Q => match ds with
  | [_, c, d, e, f] => ∃ (l lf lt : Addr) (t b X Y p q : Int) (ws : List Wl), c = .ref l ∧ d = .ref lf ∧ e = .tup [.int p, .int q] ∧ f = .ref lt ∧ M l = some (.lst (ws.map uw)) ∧ M lf = some (.lst [scl t b X Y, scl t b (0 - X) Y, scl t b (0 - Y) X]) ∧ M lt = some (.lst [toD t b X Y p q ws 0, toD t b X Y p q ws 1, toD t b X Y p q ws 2]) ∧ Scl t b X Y ∧ (∀ w ∈ ws, Uok (10 ^ 4) w) ∧ (-49 ≤ p ∧ p ≤ 49) ∧ (-49 ≤ q ∧ q ≤ 49) ∧ ws.length ≤ 40 ∧ Q (.bl true) M
  | _ => False
theorem ln_law_right : ∀ ds M Q, sp_law_right ds M Q → ds.length = 5 := fun ds M Q h => by
  unfold sp_law_right at h
  split at h
  · rfl
  · exact h.elim
set_option maxHeartbeats 4000000 in
theorem c_law_right {P : Program} {w : World} {K : PySem.W.Frag} {mg : Str → Option Value} {base : Heap} (T : Tx K mg) : Cal P w K mg base 4 "_law_right" sp_law_right := by
  refine calD (k := 3) (N := ["_law_plot_here", "_law_shuts", "_law_frames_here", "_law_far", "_law_told", "_law_kind"]) (ps := ["_law_plot_here", "_law_shuts", "_law_frames_here", "_law_far", "_law_told"]) T.f_law_right sc_law_right (fun _ _ _ _ _ _ us hl => match us, hl with | [_, _, _, _, _], _ => rfl) ln_law_right fun f cdv A outer s H E hr => ⟨_, (dss_cons (ds_forR PassesOwn.never rfl rfl T.b_range (da_cons de_int da_nil) (dg_name 5 sc_law_right.nd) (dss_one (ds_if (dt_not (dt_val (de_call ((c_law_same T).mono (by decide)) hr (da_cons (de_ix (dv 4) (dv 5)) (da_cons (de_call ((c_law_plot T).mono (by decide)) hr (da_cons (de_ix (dv 2) (dv 5)) (da_cons (de_call ((c_law_moved_shuts T).mono (by decide)) hr (da_cons (dv 1) (da_cons (dv 5) (da_cons (dv 3) da_nil)))) da_nil))) da_nil))))) (dss_one (ds_ret de_bl)) dss_nil)))
      (dss_one (ds_ret de_bl))), fun ds M Q h => ?r⟩
  case r =>
    unfold sp_law_right at h
    split at h
    case h_2 => exact h.elim
    rename_i a0 c0 d0 e0 f0
    obtain ⟨l, lf, lt, t, b, X, Y, p, q, ws, rfl, rfl, rfl, rfl, hl, hlf, hlt, S, hW, hp, hq, hlen, k⟩ := h
    refine ⟨3, rfl, by decide, fun i δ M' => ∃ o5 : Option D, δ = [some a0, some (.ref l), some (.ref lf), some (.tup [.int p, .int q]), some (.ref lt), o5] ∧ SD.Sub M M', ⟨_, rfl, .refl⟩, ?_, ?_⟩
    rotate_left
    · rintro δ M' ⟨o5, rfl, sb⟩
      exact ⟨M, sb, k⟩
    rintro i δ M1 hi ⟨o5, rfl, sb⟩
    have hk : (i : Int) = 0 ∨ (i : Int) = 1 ∨ (i : Int) = 2 := by omega
    have e1 : atI [toD t b X Y p q ws 0, toD t b X Y p q ws 1, toD t b X Y p q ws 2] (i : Int) = some (toD t b X Y p q ws i) := by
      rcases (show i = 0 ∨ i = 1 ∨ i = 2 by omega) with rfl | rfl | rfl <;> rfl
    have e2 : atI [scl t b X Y, scl t b (0 - X) Y, scl t b (0 - Y) X] (i : Int) = some (scl t b (sk i X Y).1 (sk i X Y).2) := by
      rcases (show i = 0 ∨ i = 1 ∨ i = 2 by omega) with rfl | rfl | rfl <;> rfl
    refine ⟨_, rfl, _, rfl, _, _, sb _ _ hlt, e1, ?_⟩
    refine ⟨_, rfl, _, rfl, _, _, sb _ _ hlf, e2, ?_⟩
    refine ⟨_, rfl, _, rfl, _, rfl, l, i, p, q, ws, rfl, rfl, rfl, hk, sb _ _ hl, hlen, fun l' M2 sb2 fr hl2 => ?_⟩
    have hU : ∀ w ∈ ws.map (ow (fk i p q)), Uok (10 ^ 6) w := fun w hw => by
      obtain ⟨w0, h0, rfl⟩ := List.mem_map.mp hw
      obtain ⟨a1, a2, a3, a4⟩ := fk_uok (k := i) hp hq (hW w0 h0)
      exact ⟨by omega, by omega, by omega, by omega⟩
    refine ⟨t, b, _, _, l', ws.map (ow (fk i p q)), rfl, rfl, hl2, sk_scl S, by rw [List.length_map]; omega, hU, ?_⟩
    refine ⟨_, .tup (pds_rw _ _ _ _ _), .tup (pds_rw _ _ _ _ _), rfl, shn_rws (sk_scl S) hU (by rw [List.length_map]; exact hlen), _, rfl, ?_⟩
    refine ite2 (fun h => absurd h (by decide)) (fun _ => ?_)
    exact ⟨_, rfl, fun a o h => sb2 _ _ (sb _ _ h)⟩
theorem sc_law_order : FnScope ["_law_pot_here", "_law_many", "_law_found", "_law_k"] ["_law_pot_here", "_law_many"] (defScope s_law_order) := ⟨rfl, rfl, rfl, by decide, rfl, by decide, by decide⟩
noncomputable def sp_law_order : SpD := fun ds M Q => match ds with
  | [u, v] => ∃ (r : Addr) (n m : Nat), u = .ref r ∧ v = .int (m : Int) ∧ Pot M r n ∧ n < 500000 ∧ m ≤ 40 ∧ ∀ (l : Addr) (js : List Nat) M', r ≠ l → M l = none → Kx [r] M M' → M' l = some (.lst (js.map fun j : Nat => D.int (j : Int))) → js.length = m → (∀ j ∈ js, j < m) → Pot M' r (n + 40) → Q (.ref l) M'
  | _ => False
theorem ln_law_order : ∀ ds M Q, sp_law_order ds M Q → ds.length = 2 := fun ds M Q h => by
  unfold sp_law_order at h
  split at h
  · rfl
  · exact h.elim
set_option maxHeartbeats 4000000 in
theorem c_law_order {P : Program} {w : World} {K : PySem.W.Frag} {mg : Str → Option Value} {base : Heap} (T : Tx K mg) : Cal P w K mg base 2 "_law_order" sp_law_order := by
  refine calD (k := 1) (N := ["_law_pot_here", "_law_many", "_law_found", "_law_k"]) (ps := ["_law_pot_here", "_law_many"]) T.f_law_order sc_law_order (fun _ _ _ _ _ _ us hl => match us, hl with | [_, _], _ => rfl) ln_law_order fun f cdv A outer s H E hr => ⟨_, (dss_cons (ds_set 2 sc_law_order.nd (de_lst da_nil))
      (dss_cons (ds_forR PassesOwn.never rfl rfl T.b_range (da_cons (dv 1) da_nil) (dg_name 3 sc_law_order.nd) (dss_one (ds_expr (de_m_insert (dv 2) (da_cons (de_call ((c_law_take T).mono (by decide)) hr (da_cons (dv 0) (da_cons (de_op od_add (dv 3) de_int) da_nil))) (da_cons (dv 3) da_nil))))))
      (dss_one (ds_ret (dv 2))))), fun ds M Q h => ?r⟩
  case r =>
    unfold sp_law_order at h
    split at h
    case h_2 => exact h.elim
    obtain ⟨r, n, m, rfl, rfl, P0, hn, hm, k⟩ := h
    refine ⟨Nat.le_of_ble_eq_true rfl, fun l hl => ?_⟩
    have nrl : r ≠ l := P0.ne hl
    refine ⟨_, rfl, m, rfl, by omega, fun i δ M' => ∃ (js : List Nat) (o3 : Option D), δ = [some (.ref r), some (.int (m : Int)), some (.ref l), o3] ∧ Kx [r] M M' ∧ M' l = some (.lst (js.map fun j : Nat => D.int (j : Int))) ∧ js.length = i ∧ (∀ j ∈ js, j < i) ∧ Pot M' r (n + i), ⟨[], _, rfl, Kx.refl.new hl, updM_same, rfl, (fun j z => absurd z (by simp)), P0.new hl⟩, ?_, ?_⟩
    rotate_left
    · rintro δ M' ⟨js, o3, rfl, kx, hl', hj, hjs, P'⟩
      exact ⟨_, rfl, rtn (k l js M' nrl hl kx hl' hj hjs (P'.le (by omega)))⟩
    rintro i δ M3 hi ⟨js, o3, rfl, kx, hl', hj, hjs, P'⟩
    refine ⟨_, rfl, l, _, rfl, hl', _, rfl, _, rfl, r, (i : Int) + 1, n + i, rfl, rfl, P', by omega, by omega, bd64 (by omega), fun v o h0 h1 P7 => ?_⟩
    obtain ⟨j, rfl⟩ : ∃ j : Nat, v = (j : Int) := ⟨v.toNat, by omega⟩
    have hl7 : (updM M3 r o) l = some (.lst (js.map fun j : Nat => D.int (j : Int))) := by rw [updM_ne nrl.symm]; exact hl'
    refine ⟨_, rfl, _, _, j, rfl, hl7, by simp; omega, by simp; omega, ?_⟩
    refine ⟨insD js j i, _, rfl, ?_, (by rw [updM_same, insD_map]), (by rw [(insD_perm js j i).length_eq]; simp [hj]), fun x hx => ?_, P7.upd nrl⟩
    · intro a ob na e
      have hap : a ≠ l := fun z => by subst z; rw [hl] at e; cases e
      rw [updM_ne hap]
      exact (kx.upd (by simp)) a ob na e
    · have := (insD_perm js j i).mem_iff.mp hx
      rcases List.mem_cons.mp this with z | z
      · omega
      · have := hjs x z; omega
theorem sc_own_plot : FnScope ["walls"] ["walls"] (defScope s_own_plot) := ⟨rfl, rfl, rfl, by decide, rfl, by decide, by decide⟩
noncomputable def sp_own_plot : SpD := fun ds M Q => match ds with
  | [u] => ∃ (a : Addr) (t b X Y : Int) (us : List Wl), u = .ref a ∧ M a = some (.lst (us.map (rwl t b X Y))) ∧ Scl t b X Y ∧ (∀ U ∈ us, Uok (10 ^ 6) U) ∧ us.length ≤ 1000 ∧ Q (.tup (us.map (rwl t b X Y))) M
  | _ => False
theorem ln_own_plot : ∀ ds M Q, sp_own_plot ds M Q → ds.length = 1 := fun ds M Q h => by
  unfold sp_own_plot at h
  split at h
  · rfl
  · exact h.elim
set_option maxHeartbeats 4000000 in
theorem c_own_plot {P : Program} {w : World} {K : PySem.W.Frag} {mg : Str → Option Value} {base : Heap} (T : Tx K mg) : Cal P w K mg base 5 "own_plot" sp_own_plot := by
  refine calD (k := 4) (N := ["walls"]) (ps := ["walls"]) T.f_own_plot sc_own_plot (fun _ _ _ _ _ _ us hl => match us, hl with | [_], _ => rfl) ln_own_plot fun f cdv A outer s H E hr => ⟨_, (dss_one (ds_ret (de_callTy cd_tuple rfl T.b_tuple bt_tuple (da_cons (de_comp1 (CScope.of (xs := ["wall"]) (js := []) rfl) rfl (di_seq (dv 0)) (fun _ _ _ _ => dts_nil) (fun _ _ _ _ => (de_call ((c_own_wall T).mono (by decide)) hr (da_cons (dv 0) da_nil)))) da_nil)))), fun ds M Q h => ?r⟩
  case r =>
    unfold sp_own_plot at h
    split at h
    case h_2 => exact h.elim
    obtain ⟨a, t, b, X, Y, us, rfl, ha, S, hU, hl, k⟩ := h
    refine ⟨_, rfl, us.map (rwl t b X Y), ha, comp_map (fun j => (((us.map (rwl t b X Y))[j]?).getD .non)) (by show (us.map (rwl t b X Y)).length ≤ 1000000; simp; omega) (fun p ys hp => by show (updM M p _) a = _; rw [updM_ne (ne_fresh ha hp)]; exact ha) ?_ (fun p hp => ?_)⟩
    · intro i e' M2 hi he' _
      have he' : (us.map (rwl t b X Y))[i]? = some e' := he'
      rw [List.getElem?_map] at he'
      cases eu : us[i]? with
      | none => rw [eu] at he'; cases he'
      | some U =>
        rw [eu] at he'
        cases he'
        have W := hU U (List.mem_of_getElem? eu)
        have one : (0 : Int) < 1 ∧ (1 : Int) ≤ 10 ^ 6 := by decide
        have ev : ((us.map (rwl t b X Y))[i]?).getD D.non = rwl t b X Y U := by rw [List.getElem?_map, eu]; rfl
        refine ⟨_, rfl, fun K hK => ?_⟩
        rw [ev] at hK
        exact ⟨_, rfl, _, _, _, _, rfl, (S.bx one W.1).mono (by decide), (S.by' one W.2.1).mono (by decide), (S.bx one W.2.2.1).mono (by decide), (S.by' one W.2.2.2).mono (by decide), hK _ .refl⟩
    have e := SD.range_getD (us.map (rwl t b X Y))
    dsimp only
    rw [e]
    exact ⟨_, updM_same, M, .new hp .refl, k⟩
theorem sc_in_order : FnScope ["plot", "order"] ["plot", "order"] (defScope s_in_order) := ⟨rfl, rfl, rfl, by decide, rfl, by decide, by decide⟩
noncomputable def pk2 (ws : List Wl) (js : List Nat) : List Wl := js.map fun j => (ws[j]?).getD (0, 0, 0, 0)
noncomputable def sp_in_order : SpD := fun ds M Q => match ds with
  | [x, y] => ∃ (t b X Y : Int) (ws : List Wl) (l : Addr) (js : List Nat), x = .tup (ws.map (rwl t b X Y)) ∧ y = .ref l ∧ M l = some (.lst (js.map fun j : Nat => D.int (j : Int))) ∧ Scl t b X Y ∧ (∀ w ∈ ws, Uok (10 ^ 6) w) ∧ (∀ j ∈ js, j < ws.length) ∧ js.length ≤ 1000 ∧ Q (.tup ((pk2 ws js).map (rwl t b X Y))) M
  | _ => False
theorem pk2_at {ws : List Wl} {js : List Nat} {i j : Nat} (h : js[i]? = some j) (hj : j < ws.length) (f : Wl → D) : ((pk2 ws js).map f)[i]? = some (f ws[j]) := by
  unfold pk2
  rw [List.getElem?_map, List.getElem?_map, h]
  simp [hj]
theorem pk2_all {ws : List Wl} {js : List Nat} {p : Wl → Prop} (h : ∀ w ∈ ws, p w) (hj : ∀ j ∈ js, j < ws.length) : ∀ w ∈ pk2 ws js, p w := fun w hw => by
  obtain ⟨j, h1, rfl⟩ := List.mem_map.mp hw
  have := hj j h1
  rw [List.getElem?_eq_getElem this]
  exact h _ (List.getElem_mem this)
theorem ln_in_order : ∀ ds M Q, sp_in_order ds M Q → ds.length = 2 := fun ds M Q h => by
  unfold sp_in_order at h
  split at h
  · rfl
  · exact h.elim
set_option maxHeartbeats 4000000 in
theorem c_in_order {P : Program} {w : World} {K : PySem.W.Frag} {mg : Str → Option Value} {base : Heap} (T : Tx K mg) : Cal P w K mg base 6 "in_order" sp_in_order := by
  refine calD (k := 5) (N := ["plot", "order"]) (ps := ["plot", "order"]) T.f_in_order sc_in_order (fun _ _ _ _ _ _ us hl => match us, hl with | [_, _], _ => rfl) ln_in_order fun f cdv A outer s H E hr => ⟨_, (dss_one (ds_ret (de_call ((c_own_plot T).mono (by decide)) hr (da_cons (de_comp1 (CScope.of (xs := ["wall"]) (js := [0]) rfl) rfl (di_seq (dv 1)) (fun _ _ _ _ => dts_nil) (fun _ _ _ _ => (de_ix (dv 1) (dv 0)))) da_nil)))), fun ds M Q h => ?r⟩
  case r =>
    unfold sp_in_order at h
    split at h
    case h_2 => exact h.elim
    obtain ⟨t, b, X, Y, ws, l, js, rfl, rfl, hl, S, hW, hj, hlen, k⟩ := h
    refine ⟨_, rfl, _, hl, comp_map (fun i => (((pk2 ws js).map (rwl t b X Y))[i]?).getD .non) (by show (js.map fun j : Nat => D.int (j : Int)).length ≤ 1000000; simp; omega) (fun p ys hp => by show (updM M p _) l = _; rw [updM_ne (ne_fresh hl hp)]; exact hl) ?_ (fun p hp => ?_)⟩
    · intro i e M' hi he _
      have he : (js.map fun j : Nat => D.int (j : Int))[i]? = some e := he
      rw [List.getElem?_map] at he
      cases ej : js[i]? with
      | none => rw [ej] at he; cases he
      | some j =>
        rw [ej] at he
        cases he
        have hjw := hj j (List.mem_of_getElem? ej)
        refine ⟨_, rfl, fun K hK => ?_⟩
        have hK' := hK M' .refl
        rw [pk2_at ej hjw] at hK'
        exact ⟨_, rfl, _, rfl, _, atI_nat (by rw [List.getElem?_map, List.getElem?_eq_getElem hjw]; rfl), hK'⟩
    · have e : (List.range (js.map fun j : Nat => D.int (j : Int)).length).map (fun i => (((pk2 ws js).map (rwl t b X Y))[i]?).getD .non) = (pk2 ws js).map (rwl t b X Y) := by
        have := SD.range_getD ((pk2 ws js).map (rwl t b X Y))
        rw [List.length_map] at this ⊢
        unfold pk2 at this ⊢
        rw [List.length_map] at this
        exact this
      dsimp only
      rw [e]
      exact ⟨p, t, b, X, Y, pk2 ws js, rfl, updM_same, S, pk2_all hW hj, by unfold pk2; rw [List.length_map]; exact hlen, ⟨M, .new hp .refl, k⟩⟩
theorem sc_law : FnScope ["_law_script", "_law_k", "_law_pot_here", "_law_shuts", "_law_frame_here", "_law_frames_here", "_law_plot_here", "_law_far", "_law_by", "_law_back", "_law_told", "_law_order_here", "_law_handed", "_law_due"] ["_law_script"] (defScope s_law) := ⟨rfl, rfl, rfl, by decide, rfl, by decide, by decide⟩
theorem tbk {M M' : MH} {r : Addr} {n : Nat} (h : Tb M) (P : Pot M r n) (k : Kx [r] M M') : Tb M' := h.kx k fun a ha A e => by
  have z : a = r := by simpa using ha
  obtain ⟨_, _, _, h1, _⟩ := P
  rw [z, h1] at e; cases e
theorem tbu {M : MH} {r : Addr} {n : Nat} {o : MO} (h : Tb M) (P : Pot M r n) : Tb (updM M r o) := by
  obtain ⟨_, _, _, h1, _⟩ := P
  exact h.upd h1
theorem od_raw {g h : Int} (G : Gs g h) {w : Wl} (W : Un5 w) : Od (raw g h w) := by
  obtain ⟨⟨a0, a1⟩, ⟨b0, b1⟩, ⟨c0, c1⟩, ⟨d0, d1⟩, lt⟩ := W
  have g0 := G.g0
  unfold l1 l2 la at lt
  unfold Od
  rw [ll_iff]
  show g * w.1 - h < g * w.2.2.1 - h ∨ (g * w.1 - h = g * w.2.2.1 - h ∧ g * w.2.1 - h < g * w.2.2.2 - h)
  rcases (show w.1 < w.2.2.1 ∨ (w.1 = w.2.2.1 ∧ w.2.1 < w.2.2.2) by omega) with z | ⟨z, z2⟩
  · have := Int.mul_lt_mul_of_pos_left z g0
    exact .inl (by omega)
  · have := Int.mul_lt_mul_of_pos_left z2 g0
    rw [z]
    exact .inr ⟨rfl, by omega⟩
theorem toD0 (t b X Y p q : Int) (ws : List Wl) : D.tup (ws.map fun w => rwl t b X Y (ow (fm p q) w)) = toD t b X Y p q ws 0 := by
  unfold toD; rw [List.map_map]; rfl
theorem toD1 (t b X Y p q : Int) (ws : List Wl) : D.tup (ws.map fun w => rwl t b (-X) Y (ow fi w)) = toD t b X Y p q ws 1 := by
  unfold toD; rw [List.map_map]
  show _ = D.tup (ws.map fun w => rwl t b (0 - X) Y (ow fi w))
  rw [Int.zero_sub]
theorem toD2 (t b X Y p q : Int) (ws : List Wl) : D.tup (ws.map fun w => rwl t b (-Y) X (ow ft w)) = toD t b X Y p q ws 2 := by
  unfold toD; rw [List.map_map]
  show _ = D.tup (ws.map fun w => rwl t b (0 - Y) X (ow ft w))
  rw [Int.zero_sub]
theorem fk_inj {k p q : Int} : ∀ u v, fk k p q u = fk k p q v → u = v := by
  unfold fk
  split
  · exact fm_inj
  · split
    · exact fi_inj
    · exact ft_inj
theorem uok_ft {n : Int} {w : Wl} (h : Uok n w) : Uok n (ow ft w) := by
  obtain ⟨⟨a, b⟩, ⟨c, d⟩, ⟨e, f⟩, i, j⟩ := h
  exact uok_wo ⟨⟨by show -n ≤ -w.2.1; omega, by show -w.2.1 ≤ n; omega⟩, a, b⟩ ⟨⟨by show -n ≤ -w.2.2.2; omega, by show -w.2.2.2 ≤ n; omega⟩, e, f⟩
theorem scl_neg {t b X Y X' Y' : Int} (S : Scl t b X Y) (hx : -(10 ^ 30) ≤ X' ∧ X' ≤ 10 ^ 30) (hy : -(10 ^ 30) ≤ Y' ∧ Y' ≤ 10 ^ 30) : Scl t b X' Y' := ⟨S.t0, S.t1, S.b0, S.b1, hx.1, hx.2, hy.1, hy.2⟩
theorem eqv_is : ∀ ns : List Int, PyData.eqvAll (ns.map PyData.int) (ns.map PyData.int) = true
  | [] => by simp [PyData.eqvAll]
  | n :: ns => by rw [List.map_cons, PyData.eqvAll, eqv_is ns]; simp [PyData.eqv]
theorem tbn {M : MH} {a : Addr} {ds : List D} (h : Tb M) (e : M a = some (.lst ds)) : a ≠ 133 := fun z => by
  rw [z] at e
  rcases h with h | ⟨c, h, _⟩
  · rw [h] at e; cases e
  · rw [h] at e; cases e
theorem pts {M M' : MH} {r : Addr} {n : Nat} (P : Pot M r n) (h : Tb M) (s : SubT 133 M M') : Pot M' r n := by
  obtain ⟨a, b, c, e, z⟩ := P
  exact ⟨a, b, c, s _ _ (tbn h e) e, z⟩
theorem bk0 {t b X Y p q : Int} {ws : List Wl} (hO : ∀ w ∈ ws, Od w) : ((ws.map (ow (fk 0 p q))).map fun w => rwl t b X Y (ow (fm (0 - p) (0 - q)) w)) = ws.map (rwl t b X Y) := by
  rw [List.map_map]
  exact List.map_congr_left fun w hw => congrArg (rwl t b X Y) (ow_mm (hO w hw))
theorem bk1 {t b X Y p q : Int} {ws : List Wl} (hO : ∀ w ∈ ws, Od w) : ((ws.map (ow (fk 1 p q))).map fun w => rwl t b (-(0 - X)) Y (ow fi w)) = ws.map (rwl t b X Y) := by
  rw [List.map_map, show -(0 - X) = X by omega]
  exact List.map_congr_left fun w hw => congrArg (rwl t b X Y) (ow_ii (hO w hw))
theorem bk2 {t b X Y p q : Int} {ws : List Wl} (hO : ∀ w ∈ ws, Od w) : ((((ws.map (ow (fk 2 p q))).map (ow ft)).map (ow ft)).map fun w => rwl t b (- -X) (-(0 - Y)) (ow ft w)) = ws.map (rwl t b X Y) := by
  rw [List.map_map, List.map_map, List.map_map, show -(0 - Y) = Y by omega, Int.neg_neg]
  exact List.map_congr_left fun w hw => congrArg (rwl t b X Y) (ow_tttt (hO w hw))
theorem mft (t b X Y : Int) (us : List Wl) : (us.map fun w => rwl t b X Y (ow ft w)) = (us.map (ow ft)).map (rwl t b X Y) := by rw [List.map_map]; rfl
theorem oft {n : Int} {us : List Wl} (h : ∀ w ∈ us, Od w ∧ Uok n w) : ∀ w ∈ us.map (ow ft), Od w ∧ Uok n w := fun w hw => by
  obtain ⟨w0, h0, rfl⟩ := List.mem_map.mp hw
  exact ⟨ow_od (h w0 h0).1 ft_inj, uok_ft (h w0 h0).2⟩
noncomputable def sp_law : SpD := fun ds M Q => match ds with
  | [x] => ∃ ns, x = .rol (List.map D.int ns) ∧ ns.length ≤ 63 ∧ Tb M ∧ ∀ M', Q (.bl true) M'
  | _ => False
theorem ln_law : ∀ ds M Q, sp_law ds M Q → ds.length = 1 := fun ds M Q h => by
  unfold sp_law at h
  split at h
  · rfl
  · exact h.elim
set_option maxHeartbeats 4000000 in
theorem c_law {P : Program} {w : World} {K : PySem.W.Frag} {mg : Str → Option Value} {fa : Addr} (T : Tx K mg) (hfa : mg "law" = some (.ref fa)) : ∃ fd, (∀ (s : Shared) (u : Value), BindsTo s fd ⟨[u], []⟩ [("_law_script", u)]) ∧ ∀ base : Heap, FnOk P w K mg base CX0 8 fa fd ["_law_script"] (liftSp K sp_law) := by
  refine lawD (k := 7) (N := ["_law_script", "_law_k", "_law_pot_here", "_law_shuts", "_law_frame_here", "_law_frames_here", "_law_plot_here", "_law_far", "_law_by", "_law_back", "_law_told", "_law_order_here", "_law_handed", "_law_due"]) T.f_law hfa sc_law (fun _ _ _ _ _ _ us hl => match us, hl with | [_], _ => rfl) ln_law fun base f cdv A outer s H E hr => ⟨_, (dss_cons (ds_forR PassesOwn.never rfl rfl T.b_range (da_cons (de_op od_add de_int (de_callB (cd_minZ rfl hr.units) rfl T.b_min bt_min (da_cons de_int (da_cons (de_callB cd_len rfl T.b_len bt_len (da_cons (dv 0) da_nil)) da_nil)))) da_nil) (dg_name 1 sc_law.nd) (dss_cons (ds_set 2 sc_law.nd (de_call ((c_law_pot T).mono (by decide)) hr (da_cons (dv 0) (da_cons (dv 1) da_nil))))
      (dss_cons (ds_set 3 sc_law.nd (de_call ((c_law_shuts_here T).mono (by decide)) hr (da_cons (dv 2) (da_cons de_int da_nil))))
      (dss_cons (ds_if (dt_cmp (od_eq hr.units) (de_call ((c_law_take T).mono (by decide)) hr (da_cons (dv 2) (da_cons de_int da_nil))) de_int) (dss_one (ds_set 3 sc_law.nd (de_call ((c_law_squares T).mono (by decide)) hr (da_cons (dv 2) (da_cons de_int da_nil))))) dss_nil)
      (dss_cons (ds_asg (de_call ((c_law_frames T).mono (by decide)) hr (da_cons (dv 2) (da_cons (de_callB cd_len rfl T.b_len bt_len (da_cons (dv 3) da_nil)) da_nil))) (dg_tup rfl (dgs_cons (dg_name 4 sc_law.nd) (dgs_cons (dg_name 5 sc_law.nd) dgs_nil))))
      (dss_cons (ds_set 6 sc_law.nd (de_call ((c_law_plot T).mono (by decide)) hr (da_cons (dv 4) (da_cons (dv 3) da_nil))))
      (dss_cons (ds_set 7 sc_law.nd (de_tup (da_cons (de_op od_sub (de_call ((c_law_take T).mono (by decide)) hr (da_cons (dv 2) (da_cons de_int da_nil))) de_int) (da_cons (de_op od_sub (de_call ((c_law_take T).mono (by decide)) hr (da_cons (dv 2) (da_cons de_int da_nil))) de_int) da_nil))))
      (dss_cons (ds_set 8 sc_law.nd (de_call ((c_law_given T).mono (by decide)) hr (da_cons (de_tup (da_cons (de_ix (dv 4) de_int) (da_cons (de_ix (dv 4) de_int) (da_cons de_int (da_cons de_int da_nil))))) (da_cons (dv 7) da_nil))))
      (dss_cons (ds_set 9 sc_law.nd (de_call ((c_law_given T).mono (by decide)) hr (da_cons (de_tup (da_cons (de_ix (dv 4) de_int) (da_cons (de_ix (dv 4) de_int) (da_cons de_int (da_cons de_int da_nil))))) (da_cons (de_tup (da_cons (de_op od_sub de_int (de_ix (dv 7) de_int)) (da_cons (de_op od_sub de_int (de_ix (dv 7) de_int)) da_nil))) da_nil))))
      (dss_cons (ds_set 10 sc_law.nd (de_lst (da_cons (de_call ((c_moved T).mono (by decide)) hr (da_cons (dv 6) (da_cons (dv 8) da_nil))) (da_cons (de_call ((c_mirrored T).mono (by decide)) hr (da_cons (dv 6) da_nil)) (da_cons (de_call ((c_turned T).mono (by decide)) hr (da_cons (dv 6) da_nil)) da_nil)))))
      (dss_cons (ds_if (dt_w (dw_or (dt_not (dt_val (de_call ((c_law_right T).mono (by decide)) hr (da_cons (dv 6) (da_cons (dv 3) (da_cons (dv 5) (da_cons (dv 7) (da_cons (dv 10) da_nil)))))))) (dw_or1 (dt_cmp (od_ne hr.units) (dv 6) (de_call ((c_law_plot T).mono (by decide)) hr (da_cons (dv 4) (da_cons (dv 3) da_nil))))))) (dss_one (ds_ret de_bl)) dss_nil)
      (dss_cons (ds_if (dt_w (dw_or (dt_cmp (od_ne hr.units) (de_call ((c_moved T).mono (by decide)) hr (da_cons (de_ix (dv 10) de_int) (da_cons (dv 9) da_nil))) (dv 6)) (dw_or (dt_cmp (od_ne hr.units) (de_call ((c_mirrored T).mono (by decide)) hr (da_cons (de_ix (dv 10) de_int) da_nil)) (dv 6)) (dw_or1 (dt_cmp (od_ne hr.units) (de_call ((c_turned T).mono (by decide)) hr (da_cons (de_call ((c_turned T).mono (by decide)) hr (da_cons (de_call ((c_turned T).mono (by decide)) hr (da_cons (de_ix (dv 10) de_int) da_nil)) da_nil)) da_nil)) (dv 6)))))) (dss_one (ds_ret de_bl)) dss_nil)
      (dss_cons (ds_set 11 sc_law.nd (de_call ((c_law_order T).mono (by decide)) hr (da_cons (dv 2) (da_cons (de_callB cd_len rfl T.b_len bt_len (da_cons (dv 3) da_nil)) da_nil))))
      (dss_cons (ds_set 12 sc_law.nd (de_callTy cd_list rfl T.b_list bt_list (da_cons (dv 11) da_nil)))
      (dss_cons (ds_set 13 sc_law.nd (de_callTy cd_tuple rfl T.b_tuple bt_tuple (da_cons (de_comp1 (CScope.of (xs := ["_law_number"]) (js := [6]) rfl) rfl (di_seq (dv 11)) (fun _ _ _ _ => dts_nil) (fun _ _ _ _ => (de_ix (dv 1) (dv 0)))) da_nil)))
      (dss_one (ds_if (dt_w (dw_or (dt_not (dt_val (de_call ((c_law_same T).mono (by decide)) hr (da_cons (de_call ((c_in_order T).mono (by decide)) hr (da_cons (dv 6) (da_cons (dv 12) da_nil))) (da_cons (dv 13) da_nil))))) (dw_or1 (dt_cmp (od_ne hr.units) (dv 12) (dv 11))))) (dss_one (ds_ret de_bl)) dss_nil)))))))))))))))))
      (dss_one (ds_ret de_bl))), fun ds M Q h => ?r⟩
  case r =>
    unfold sp_law at h
    split at h
    case h_2 => exact h.elim
    obtain ⟨ns, rfl, hns, hT, k⟩ := h
    obtain ⟨m, hm, hm4⟩ : ∃ m : Nat, 1 + min (3 : Int) ((List.map D.int ns).length : Nat) = (m : Int) ∧ m ≤ 4 := ⟨(1 + min (3 : Int) ((List.map D.int ns).length : Nat)).toNat, by omega, by omega⟩
    refine ⟨_, rfl, m, (by rw [hm]), by omega, fun i δ M => (∃ o1 o2 o3 o4 o5 o6 o7 o8 o9 o10 o11 o12 o13, δ = [some (.rol (List.map D.int ns)), o1, o2, o3, o4, o5, o6, o7, o8, o9, o10, o11, o12, o13]) ∧ Tb M, ⟨⟨_, _, _, _, _, _, _, _, _, _, _, _, _, rfl⟩, hT⟩, ?_, fun _ _ _ => rtn (k _)⟩
    clear hT
    rintro i δ M hi ⟨⟨o1, o2, o3, o4, o5, o6, o7, o8, o9, o10, o11, o12, o13, rfl⟩, hT⟩
    refine ⟨_, rfl, _, rfl, ns, (i : Int), rfl, rfl, by omega, fun r ob hr P0 => ?_⟩
    have hT := hT.new hr (o := ob)
    generalize updM M r ob = Ma at P0 hT ⊢
    refine ⟨_, rfl, r, 0, 9, rfl, rfl, by decide, P0, by decide, fun l ws Mb nrl fl kx hl hU hF hlen P1 => ?_⟩
    have hT := tbk hT P0 kx
    (try dsimp only [SD.gNameD])
    refine seq_cut (fun δ M' => ∃ (g h : Int) (l : Addr) (ws : List Wl), Gs g h ∧ δ = [some (.rol (List.map D.int ns)), some (.int (i : Int)), some (.ref r), some (.ref l), o4, o5, o6, o7, o8, o9, o10, o11, o12, o13] ∧ r ≠ l ∧ M' l = some (.lst (ws.map (gwl g h))) ∧ (∀ w ∈ ws, Un5 w) ∧ ws.length ≤ 40 ∧ Pot M' r 500 ∧ Tb M') ?_ (fun hu => ?_)
    rotate_left
    · refine ⟨_, rfl, r, 10, 0 + 400, rfl, rfl, P1, by omega, by decide, bd64 (by decide), fun v o h0 h1 P2 => ⟨_, rfl, ?_⟩⟩
      have hT := tbu hT P1 (o := o)
      refine ite2 (fun _ => ?_) (fun _ => hu _ _ ⟨6, 24, l, ws, ⟨by decide, by decide, by decide, by decide⟩, rfl, nrl, by rw [updM_ne nrl.symm]; exact hl, hU, by omega, P2.le (by omega), hT⟩)
      exact ⟨_, rfl, r, 0 + 400 + 1, rfl, rfl, P2, by omega, fun l2 ws2 M4 n2 f2 kx2 hl2 U2 F2 len2 P3 => hu _ _ ⟨12, 0, l2, ws2, ⟨by decide, by decide, by decide, by decide⟩, rfl, n2, hl2, U2, len2, P3.le (by omega), tbk hT P2 kx2⟩⟩
    clear hl nrl fl kx hU hF hlen P1 hT
    rintro δ M3 ⟨g, h, l, ws0, G, rfl, nrl, hl, hU, hlen, P3, hT⟩
    rw [← uw_raw] at hl
    have hOU : ∀ w ∈ ws0.map (raw g h), Od w ∧ Uok (10 ^ 3) w := fun w hw => by
      obtain ⟨w0, hw0, rfl⟩ := List.mem_map.mp hw
      exact ⟨od_raw G (hU w0 hw0), raw_ok G (hU w0 hw0)⟩
    have hlen : (ws0.map (raw g h)).length ≤ 40 := by rw [List.length_map]; exact hlen
    generalize ws0.map (raw g h) = ws at hl hOU hlen
    clear hU G
    refine ⟨_, rfl, _, rfl, _, hl, r, 500, _, rfl, rfl, P3, by omega, fun t b X Y lf M4 S ht hb hx hy kx4 P4 nrf flf hlf => ?_⟩
    have hT := tbk hT P3 kx4
    have hl4 := kx4 l _ (by simpa using nrl.symm) hl
    have hO : ∀ w ∈ ws, Od w := fun w hw => (hOU w hw).1
    have U4 : ∀ w ∈ ws, Uok (10 ^ 4) w := fun w hw => by
      obtain ⟨a1, a2, a3, a4⟩ := (hOU w hw).2
      exact ⟨by omega, by omega, by omega, by omega⟩
    have U5 : ∀ w ∈ ws, Uok (10 ^ 5) w := fun w hw => by
      obtain ⟨a1, a2, a3, a4⟩ := (hOU w hw).2
      exact ⟨by omega, by omega, by omega, by omega⟩
    have U6 : ∀ w ∈ ws, Uok (10 ^ 6) w := fun w hw => by
      obtain ⟨a1, a2, a3, a4⟩ := (hOU w hw).2
      exact ⟨by omega, by omega, by omega, by omega⟩
    have S0 : Scl t b 0 0 := scl_neg S (by decide) (by decide)
    refine ⟨_, rfl, rfl, _, _, rfl, _, _, rfl, rfl, ?_⟩
    refine ⟨_, rfl, _, rfl, t, b, X, Y, l, ws, rfl, rfl, hl4, S, by omega, U6, ?_⟩
    refine ⟨_, rfl, r, 99, 500 + 5, rfl, rfl, P4, by omega, by decide, bd64 (by decide), fun v1 ob1 h10 h11 P5 => ?_⟩
    have hT := tbu hT P4 (o := ob1)
    refine ⟨trivial, _, rfl, r, 99, 500 + 5 + 1, rfl, rfl, P5, by omega, by decide, bd64 (by decide), fun v2 ob2 h20 h21 P6 => ?_⟩
    have hT := tbu hT P5 (o := ob2)
    have hl6 : (updM (updM M4 r ob1) r ob2) l = some (.lst (ws.map uw)) := by rw [updM_ne nrl.symm, updM_ne nrl.symm]; exact hl4
    have hlf6 : (updM (updM M4 r ob1) r ob2) lf = some (.lst [scl t b X Y, scl t b (0 - X) Y, scl t b (0 - Y) X]) := by rw [updM_ne nrf.symm, updM_ne nrf.symm]; exact hlf
    generalize updM (updM M4 r ob1) r ob2 = M6 at P6 hT hl6 hlf6 ⊢
    have hp : -49 ≤ v1 - 49 ∧ v1 - 49 ≤ 49 := by omega
    have hq : -49 ≤ v2 - 49 ∧ v2 - 49 ≤ 49 := by omega
    refine ⟨trivial, Nat.le_of_ble_eq_true rfl, ?_⟩
    refine ⟨_, rfl, _, rfl, _, rfl, _, rfl, Nat.le_of_ble_eq_true rfl, _, rfl, t, b, 0, 0, v1 - 49, v2 - 49, rfl, rfl, S0, ⟨by omega, by omega⟩, ⟨by omega, by omega⟩, ?_⟩
    refine ⟨_, rfl, _, rfl, _, rfl, _, rfl, Nat.le_of_ble_eq_true rfl, _, rfl, _, rfl, trivial, _, rfl, _, rfl, trivial, Nat.le_of_ble_eq_true rfl, t, b, 0, 0, 0 - (v1 - 49), 0 - (v2 - 49), rfl, rfl, S0, ⟨by omega, by omega⟩, ⟨by omega, by omega⟩, ?_⟩
    have OU5 : ∀ w ∈ ws, Od w ∧ Uok (10 ^ 5) w := fun w hw => ⟨hO w hw, U5 w hw⟩
    refine ⟨_, rfl, _, rfl, t, b, X, Y, v1 - 49, v2 - 49, ws, rfl, rfl, S, OU5, by omega, hp, hq, hT, fun M7 hT7 sb7 => ?_⟩
    rw [toD0]
    refine ⟨_, rfl, t, b, X, Y, ws, rfl, S, OU5, by omega, ?_⟩
    rw [toD1 t b X Y (v1 - 49) (v2 - 49)]
    refine ⟨_, rfl, t, b, X, Y, ws, rfl, S, OU5, by omega, ?_⟩
    rw [toD2 t b X Y (v1 - 49) (v2 - 49)]
    refine ⟨Nat.le_of_ble_eq_true rfl, fun lt hlt => ?_⟩
    have hT8 := hT7.new hlt (o := .lst [toD t b X Y (v1 - 49) (v2 - 49) ws 0, toD t b X Y (v1 - 49) (v2 - 49) ws 1, toD t b X Y (v1 - 49) (v2 - 49) ws 2])
    have P8 := (pts P6 hT sb7).new hlt (o := .lst [toD t b X Y (v1 - 49) (v2 - 49) ws 0, toD t b X Y (v1 - 49) (v2 - 49) ws 1, toD t b X Y (v1 - 49) (v2 - 49) ws 2])
    have hl7 := sb7 _ _ (tbn hT hl6) hl6
    have hlf7 := sb7 _ _ (tbn hT hlf6) hlf6
    have hl8 : (updM M7 lt (.lst [toD t b X Y (v1 - 49) (v2 - 49) ws 0, toD t b X Y (v1 - 49) (v2 - 49) ws 1, toD t b X Y (v1 - 49) (v2 - 49) ws 2])) l = some (.lst (ws.map uw)) := by rw [updM_ne (ne_fresh hl7 hlt)]; exact hl7
    have hlf8 : (updM M7 lt (.lst [toD t b X Y (v1 - 49) (v2 - 49) ws 0, toD t b X Y (v1 - 49) (v2 - 49) ws 1, toD t b X Y (v1 - 49) (v2 - 49) ws 2])) lf = some (.lst [scl t b X Y, scl t b (0 - X) Y, scl t b (0 - Y) X]) := by rw [updM_ne (ne_fresh hlf7 hlt)]; exact hlf7
    have hlt8 : (updM M7 lt (.lst [toD t b X Y (v1 - 49) (v2 - 49) ws 0, toD t b X Y (v1 - 49) (v2 - 49) ws 1, toD t b X Y (v1 - 49) (v2 - 49) ws 2])) lt = some (.lst [toD t b X Y (v1 - 49) (v2 - 49) ws 0, toD t b X Y (v1 - 49) (v2 - 49) ws 1, toD t b X Y (v1 - 49) (v2 - 49) ws 2]) := updM_same
    generalize updM M7 lt (.lst [toD t b X Y (v1 - 49) (v2 - 49) ws 0, toD t b X Y (v1 - 49) (v2 - 49) ws 1, toD t b X Y (v1 - 49) (v2 - 49) ws 2]) = M8 at hT8 P8 hl8 hlf8 hlt8 ⊢
    (try dsimp only [SD.tSeqD, SD.tAsgD, SD.gNameD, SD.tIfSD, SD.tRetD, SD.tNextD, SD.tDropD, SD.tBD, SD.tNotD])
    refine orT false false (fun K hK => ⟨_, rfl, _, rfl, _, rfl, _, rfl, _, rfl, l, lf, lt, t, b, X, Y, v1 - 49, v2 - 49, ws, rfl, rfl, rfl, rfl, hl8, hlf8, hlt8, S, U4, hp, hq, hlen, _, rfl, hK⟩) (fun _ K hK => ⟨_, rfl, _, rfl, _, rfl, t, b, X, Y, l, ws, rfl, rfl, hl8, S, by omega, U6, _, _, .tup (pds_rw _ _ _ _ _), .tup (pds_rw _ _ _ _ _), shaped_rw _ _ _ _ _, shaped_rw _ _ _ _ _, _, rfl, ?_⟩) ?_
    · rw [eqv_rws]; exact hK
    refine iteB rfl ?_
    have FK : ∀ k : Int, ∀ w ∈ ws.map (ow (fk k (v1 - 49) (v2 - 49))), Od w ∧ Uok (10 ^ 5) w := fun k w hw => by
      obtain ⟨w0, h0, rfl⟩ := List.mem_map.mp hw
      exact ⟨ow_od (hO w0 h0) fk_inj, fk_uok hp hq (U4 w0 h0)⟩
    (try dsimp only [SD.tSeqD, SD.tAsgD, SD.gNameD, SD.tIfSD, SD.tRetD, SD.tNextD, SD.tDropD, SD.tBD, SD.tNotD])
    refine ⟨_, rfl, _, _, hlt8, rfl, _, rfl, t, b, X, Y, 0 - (v1 - 49), 0 - (v2 - 49), ws.map (ow (fk 0 (v1 - 49) (v2 - 49))), rfl, rfl, S, FK 0, by rw [List.length_map]; omega, by omega, by omega, hT8, fun M9 hT9 sb9 => ?_⟩
    rw [bk0 hO]
    refine ⟨_, rfl, _, _, .tup (pds_rw _ _ _ _ _), .tup (pds_rw _ _ _ _ _), shaped_rw _ _ _ _ _, shaped_rw _ _ _ _ _, _, rfl, ?_⟩
    rw [eqv_rws]
    refine iteB rfl ?_
    have hlt9 := sb9 _ _ (tbn hT8 hlt8) hlt8
    have hl9 := sb9 _ _ (tbn hT8 hl8) hl8
    have P9 := pts P8 hT8 sb9
    refine ⟨_, rfl, _, _, hlt9, rfl, t, b, 0 - X, Y, ws.map (ow (fk 1 (v1 - 49) (v2 - 49))), rfl, scl_neg S (by omega) (by omega), FK 1, by rw [List.length_map]; omega, ?_⟩
    rw [bk1 hO]
    refine ⟨_, rfl, _, _, .tup (pds_rw _ _ _ _ _), .tup (pds_rw _ _ _ _ _), shaped_rw _ _ _ _ _, shaped_rw _ _ _ _ _, _, rfl, ?_⟩
    rw [eqv_rws]
    refine iteB rfl ?_
    refine ⟨_, rfl, _, _, hlt9, rfl, t, b, 0 - Y, X, ws.map (ow (fk 2 (v1 - 49) (v2 - 49))), rfl, scl_neg S (by omega) (by omega), FK 2, by rw [List.length_map]; omega, ?_⟩
    rw [mft]
    refine ⟨t, b, -X, 0 - Y, _, rfl, scl_neg S (by omega) (by omega), oft (FK 2), by rw [List.length_map, List.length_map]; omega, ?_⟩
    rw [mft]
    refine ⟨t, b, -(0 - Y), -X, _, rfl, scl_neg S (by omega) (by omega), oft (oft (FK 2)), by rw [List.length_map, List.length_map, List.length_map]; omega, ?_⟩
    rw [bk2 hO]
    refine ⟨_, rfl, _, _, .tup (pds_rw _ _ _ _ _), .tup (pds_rw _ _ _ _ _), shaped_rw _ _ _ _ _, shaped_rw _ _ _ _ _, _, rfl, ?_⟩
    rw [eqv_rws]
    refine iteB rfl ?_
    have hlen' : (ws.map uw).length ≤ 40 := by rw [List.length_map]; exact hlen
    refine ⟨_, rfl, _, rfl, _, hl9, r, 500 + 5 + 1 + 1, (ws.map uw).length, rfl, rfl, P9, by omega, hlen', fun lo js M10 nro fro kx10 hlo jl jlt P10 => ?_⟩
    have hT10 := tbk hT9 P9 kx10
    rw [List.length_map] at jl jlt
    refine ⟨_, rfl, _, hlo, fun lh hlh => ?_⟩
    have hT11 := hT10.new hlh (o := .lst (js.map fun j : Nat => D.int (j : Int)))
    have hlo11 : (updM M10 lh (.lst (js.map fun j : Nat => D.int (j : Int)))) lo = some (.lst (js.map fun j : Nat => D.int (j : Int))) := by rw [updM_ne (ne_fresh hlo hlh)]; exact hlo
    have hlh11 : (updM M10 lh (.lst (js.map fun j : Nat => D.int (j : Int)))) lh = some (.lst (js.map fun j : Nat => D.int (j : Int))) := updM_same
    generalize updM M10 lh (.lst (js.map fun j : Nat => D.int (j : Int))) = M11 at hT11 hlo11 hlh11 ⊢
    refine ⟨_, rfl, _, hlo11, comp_map (fun i => (((pk2 ws js).map (rwl t b X Y))[i]?).getD .non) (by show (js.map fun j : Nat => D.int (j : Int)).length ≤ 1000000; simp; omega) (fun p ys hp => by show (updM M11 p _) lo = _; rw [updM_ne (ne_fresh hlo11 hp)]; exact hlo11) ?_ (fun p hp => ?_)⟩
    · intro i e M' hi he _
      have he : (js.map fun j : Nat => D.int (j : Int))[i]? = some e := he
      rw [List.getElem?_map] at he
      cases ej : js[i]? with
      | none => rw [ej] at he; cases he
      | some j =>
        rw [ej] at he
        cases he
        have hjw := jlt j (List.mem_of_getElem? ej)
        refine ⟨_, rfl, fun K hK => ?_⟩
        have hK' := hK M' .refl
        rw [pk2_at ej hjw] at hK'
        exact ⟨_, rfl, _, rfl, _, atI_nat (by rw [List.getElem?_map, List.getElem?_eq_getElem hjw]; rfl), hK'⟩
    have e : (List.range (js.map fun j : Nat => D.int (j : Int)).length).map (fun i => (((pk2 ws js).map (rwl t b X Y))[i]?).getD .non) = (pk2 ws js).map (rwl t b X Y) := by
      have := SD.range_getD ((pk2 ws js).map (rwl t b X Y))
      rw [List.length_map] at this ⊢
      unfold pk2 at this ⊢
      rw [List.length_map] at this
      exact this
    dsimp only
    rw [e]
    have hT12 := hT11.new hp (o := .lst ((pk2 ws js).map (rwl t b X Y)))
    have hlo12 : (updM M11 p (.lst ((pk2 ws js).map (rwl t b X Y)))) lo = some (.lst (js.map fun j : Nat => D.int (j : Int))) := by rw [updM_ne (ne_fresh hlo11 hp)]; exact hlo11
    have hlh12 : (updM M11 p (.lst ((pk2 ws js).map (rwl t b X Y)))) lh = some (.lst (js.map fun j : Nat => D.int (j : Int))) := by rw [updM_ne (ne_fresh hlh11 hp)]; exact hlh11
    have hp12 : (updM M11 p (.lst ((pk2 ws js).map (rwl t b X Y)))) p = some (.lst ((pk2 ws js).map (rwl t b X Y))) := updM_same
    generalize updM M11 p (.lst ((pk2 ws js).map (rwl t b X Y))) = M12 at hT12 hlo12 hlh12 hp12 ⊢
    refine ⟨_, hp12, ?_⟩
    have e0 : (js.map fun j : Nat => D.int (j : Int)) = (js.map fun j : Nat => (j : Int)).map D.int := by rw [List.map_map]; rfl
    (try dsimp only [SD.tSeqD, SD.tAsgD, SD.gNameD, SD.tIfSD, SD.tRetD, SD.tNextD, SD.tDropD, SD.tBD, SD.tNotD])
    refine orT false false (fun K hK => ⟨_, rfl, _, rfl, t, b, X, Y, ws, lh, js, rfl, rfl, hlh12, S, U6, jlt, by omega, _, rfl, .tuple ((pk2 ws js).map (rwP t b X Y)), .tup (pds_rw _ _ _ _ _), .tup (pds_rw _ _ _ _ _), rfl, shn_rws S (pk2_all U6 jlt) (by unfold pk2; rw [List.length_map]; omega), _, rfl, hK⟩) (fun _ K hK => ⟨_, rfl, _, rfl, _, _, .lst (hlh12.trans (by rw [e0])) (pds_ints _), .lst (hlo12.trans (by rw [e0])) (pds_ints _), shaped_ints _, shaped_ints _, _, rfl, ?_⟩) ?_
    · rw [PyData.eqv, eqv_is]; exact hK
    exact iteB rfl ⟨⟨_, _, _, _, _, _, _, _, _, _, _, _, _, rfl⟩, hT12⟩
theorem law_sp (ns : List Int) (M : MH) (h : ns.length ≤ 63) (hM : M 133 = some (tabO #[])) : sp_law [.rol (ns.map D.int)] M (fun d _ => d = .bl true) := ⟨ns, rfl, h, .inl hM, fun _ => rfl⟩
noncomputable def kE (P : Params) (n : String) (k : Nat) (v : Value) : DictEntry := { hash := PyData.keyHash P (Str.ofString n), key := .str (Str.ofString n) k, val := v }
noncomputable def kF (i : Nat) (n m : String) (k c : Nat) : Obj := { cls := .type "function", data := .func { name := Str.ofString n, qualname := Str.ofString n, params := defArgs (top i), body := .stmts (defBody (top i)), scope := defScope (top i), globals := nat_lit 3, closure := [], defaults := .none, kwdefaults := .none, pyModule := .str (Str.ofString m) k, code := .ref c } }
noncomputable def kD0 (P : Params) : List DictEntry := [kE P "__name__" (nat_lit 165) (.str (Str.ofString "law_spotlook_k60_plots_moved_mirrored_turned") 371), kE P "__doc__" (nat_lit 166) (.none), kE P "__package__" (nat_lit 167) (.none), kE P "__loader__" (nat_lit 168) (.builtin "__main__.__loader__#opaque"), kE P "__spec__" (nat_lit 169) (.none), kE P "__annotations__" (nat_lit 170) (.ref (nat_lit 6)), kE P "__builtins__" (nat_lit 171) (.ref (nat_lit 4)), kE P "__file__" (nat_lit 173) (.str (Str.ofString "/claim/cut.py") 172)]
noncomputable def kD1 (P : Params) : List DictEntry := [kE P "__cached__" (nat_lit 174) (.none), kE P "SpotError" (nat_lit 206) (.ref (nat_lit 24)), kE P "NoFraction" (nat_lit 222) (.ref (nat_lit 37)), kE P "NoWall" (nat_lit 238) (.ref (nat_lit 49)), kE P "greatest_divisor" (nat_lit 248) (.ref (nat_lit 58)), kE P "fraction" (nat_lit 257) (.ref (nat_lit 65)), kE P "plus" (nat_lit 265) (.ref (nat_lit 72)), kE P "is_less" (nat_lit 273) (.ref (nat_lit 79))]
noncomputable def kD2 (P : Params) : List DictEntry := [kE P "is_ahead" (nat_lit 283) (.ref (nat_lit 86)), kE P "own_spot" (nat_lit 292) (.ref (nat_lit 93)), kE P "own_wall" (nat_lit 299) (.ref (nat_lit 100)), kE P "wall_of" (nat_lit 307) (.ref (nat_lit 107)), kE P "own_plot" (nat_lit 315) (.ref (nat_lit 112)), kE P "mirrored_spot" (nat_lit 326) (.ref (nat_lit 119)), kE P "turned_spot" (nat_lit 335) (.ref (nat_lit 126)), kE P "with_spots" (nat_lit 341) (.ref (nat_lit 131))]
noncomputable def kD3 (P : Params) : List DictEntry := [kE P "moved" (nat_lit 350) (.ref (nat_lit 138)), kE P "mirrored" (nat_lit 357) (.ref (nat_lit 145)), kE P "turned" (nat_lit 364) (.ref (nat_lit 152)), kE P "in_order" (nat_lit 370) (.ref (nat_lit 157)), kE P "_law_pot" (nat_lit 381) (.ref (nat_lit 164)), kE P "_law_take" (nat_lit 391) (.ref (nat_lit 171)), kE P "_law_side" (nat_lit 404) (.ref (nat_lit 178)), kE P "_law_on" (nat_lit 412) (.ref (nat_lit 185))]
noncomputable def kD4 (P : Params) : List DictEntry := [kE P "_law_apart" (nat_lit 424) (.ref (nat_lit 192)), kE P "_law_new_spot" (nat_lit 432) (.ref (nat_lit 199)), kE P "_law_some_spot" (nat_lit 441) (.ref (nat_lit 206)), kE P "_law_square" (nat_lit 452) (.ref (nat_lit 213)), kE P "_law_laid" (nat_lit 458) (.ref (nat_lit 218)), kE P "_law_shuts_here" (nat_lit 464) (.ref (nat_lit 223)), kE P "_law_frac" (nat_lit 474) (.ref (nat_lit 230)), kE P "_law_frame" (nat_lit 480) (.ref (nat_lit 235))]
noncomputable def kD5 (P : Params) : List DictEntry := [kE P "_law_given" (nat_lit 492) (.ref (nat_lit 242)), kE P "_law_plot" (nat_lit 498) (.ref (nat_lit 247)), kE P "_law_same" (nat_lit 506) (.ref (nat_lit 254)), kE P "_law_moved_spot" (nat_lit 515) (.ref (nat_lit 261)), kE P "_law_moved_shuts" (nat_lit 521) (.ref (nat_lit 266)), kE P "_law_frames" (nat_lit 533) (.ref (nat_lit 273)), kE P "_law_order" (nat_lit 543) (.ref (nat_lit 280)), kE P "_law_right" (nat_lit 555) (.ref (nat_lit 287))]
noncomputable def kD6 (P : Params) : List DictEntry := [kE P "_law_squares" (nat_lit 561) (.ref (nat_lit 292)), kE P "law" (nat_lit 567) (.ref (nat_lit 297))]
noncomputable def kG (P : Params) : Obj := { cls := .type "dict", data := .dict (List.toArray (kD0 P ++ (kD1 P ++ (kD2 P ++ (kD3 P ++ (kD4 P ++ (kD5 P ++ (kD6 P)))))))) 50 }
noncomputable def kCo (n : String) (a0 : Nat) (a1 : Nat) (a2 : Nat) (a3 : Nat) (a4 : Nat) (a8 : Nat) (a11 : Nat) (a13 : Nat) (a14 : Nat) (a15 : Nat) (a16 : Nat) (a17 : Nat) (a18 : Nat) : Obj := { cls := .type "code", data := .fields #[.str (Str.ofString n) a0, .str (Str.ofString n) a1, .str (Str.ofString "/claim/cut.py") a2, .int (Int.ofNat a3) 0, .int (Int.ofNat a4) 0, .int 0 0, .int 0 0, .int 3 0, .ref a8, .bool true, .int 181 0, .ref a11, .none, .ref a13, .ref a14, .ref a15, .int (Int.ofNat a16) 0, .int (Int.ofNat a17) 0, .str (Str.ofString "/claim/cut.py") a18] }
noncomputable def kN (l : List Obj) (i : Nat) : Obj := l.getD i { cls := .none, data := .dict #[] }
noncomputable def kL0 : List Obj := [{ cls := .type "module", dict := some (nat_lit 0), data := .plain }, kCo "greatest_divisor" (nat_lit 241) (nat_lit 242) (nat_lit 243) (nat_lit 9) (nat_lit 2) (nat_lit 52) (nat_lit 53) (nat_lit 54) (nat_lit 55) (nat_lit 56) (nat_lit 246) (nat_lit 9) (nat_lit 247), kF (nat_lit 5) "greatest_divisor" "spotlook.fractions" (nat_lit 239) (nat_lit 57), kCo "fraction" (nat_lit 249) (nat_lit 250) (nat_lit 251) (nat_lit 13) (nat_lit 2) (nat_lit 59) (nat_lit 60) (nat_lit 61) (nat_lit 62) (nat_lit 63) (nat_lit 255) (nat_lit 13) (nat_lit 256), kF (nat_lit 6) "fraction" "spotlook.fractions" (nat_lit 239) (nat_lit 64), kCo "plus" (nat_lit 258) (nat_lit 259) (nat_lit 260) (nat_lit 20) (nat_lit 2) (nat_lit 66) (nat_lit 67) (nat_lit 68) (nat_lit 69) (nat_lit 70) (nat_lit 263) (nat_lit 20) (nat_lit 264), kF (nat_lit 7) "plus" "spotlook.fractions" (nat_lit 239) (nat_lit 71), kCo "is_less" (nat_lit 266) (nat_lit 267) (nat_lit 268) (nat_lit 22) (nat_lit 2) (nat_lit 73) (nat_lit 74) (nat_lit 75) (nat_lit 76) (nat_lit 77) (nat_lit 271) (nat_lit 22) (nat_lit 272)]
noncomputable def kL1 : List Obj := [kF (nat_lit 8) "is_less" "spotlook.fractions" (nat_lit 239) (nat_lit 78), kCo "is_ahead" (nat_lit 276) (nat_lit 277) (nat_lit 278) (nat_lit 25) (nat_lit 2) (nat_lit 80) (nat_lit 81) (nat_lit 82) (nat_lit 83) (nat_lit 84) (nat_lit 281) (nat_lit 25) (nat_lit 282), kF (nat_lit 10) "is_ahead" "spotlook.spots" (nat_lit 274) (nat_lit 85), kCo "own_spot" (nat_lit 284) (nat_lit 285) (nat_lit 286) (nat_lit 29) (nat_lit 1) (nat_lit 87) (nat_lit 88) (nat_lit 89) (nat_lit 90) (nat_lit 91) (nat_lit 290) (nat_lit 29) (nat_lit 291), kF (nat_lit 11) "own_spot" "spotlook.spots" (nat_lit 274) (nat_lit 92), kCo "own_wall" (nat_lit 293) (nat_lit 294) (nat_lit 295) (nat_lit 32) (nat_lit 1) (nat_lit 94) (nat_lit 95) (nat_lit 96) (nat_lit 97) (nat_lit 98) (nat_lit 297) (nat_lit 32) (nat_lit 298), kF (nat_lit 12) "own_wall" "spotlook.spots" (nat_lit 274) (nat_lit 99), kCo "wall_of" (nat_lit 300) (nat_lit 301) (nat_lit 302) (nat_lit 34) (nat_lit 2) (nat_lit 101) (nat_lit 102) (nat_lit 103) (nat_lit 104) (nat_lit 105) (nat_lit 305) (nat_lit 34) (nat_lit 306)]
noncomputable def kL2 : List Obj := [kF (nat_lit 13) "wall_of" "spotlook.spots" (nat_lit 274) (nat_lit 106), { cls := .type "code", data := .fields #[(.str (Str.ofString "own_plot") 310), (.str (Str.ofString "own_plot") 311), (.str (Str.ofString "/claim/cut.py") 312), (.int 41 0), (.int 1 0), (.int 0 0), (.int 0 0), (.int 3 0), (.ref 108), (.bool true), (.int 181 0), (.ref 109), .none, .none, .none, (.ref 110), (.int 313 0), (.int 41 0), (.str (Str.ofString "/claim/cut.py") 314)] }, kF (nat_lit 15) "own_plot" "spotlook.plots" (nat_lit 308) (nat_lit 111), kCo "mirrored_spot" (nat_lit 318) (nat_lit 319) (nat_lit 320) (nat_lit 44) (nat_lit 1) (nat_lit 113) (nat_lit 114) (nat_lit 115) (nat_lit 116) (nat_lit 117) (nat_lit 324) (nat_lit 44) (nat_lit 325), kF (nat_lit 17) "mirrored_spot" "spotlook.moving" (nat_lit 316) (nat_lit 118), kCo "turned_spot" (nat_lit 327) (nat_lit 328) (nat_lit 329) (nat_lit 47) (nat_lit 1) (nat_lit 120) (nat_lit 121) (nat_lit 122) (nat_lit 123) (nat_lit 124) (nat_lit 333) (nat_lit 47) (nat_lit 334), kF (nat_lit 18) "turned_spot" "spotlook.moving" (nat_lit 316) (nat_lit 125), { cls := .type "code", data := .fields #[(.str (Str.ofString "with_spots") 336), (.str (Str.ofString "with_spots") 337), (.str (Str.ofString "/claim/cut.py") 338), (.int 50 0), (.int 2 0), (.int 0 0), (.int 0 0), (.int 3 0), (.ref 127), (.bool true), (.int 181 0), (.ref 128), .none, .none, .none, (.ref 129), (.int 339 0), (.int 50 0), (.str (Str.ofString "/claim/cut.py") 340)] }]
noncomputable def kL3 : List Obj := [kF (nat_lit 19) "with_spots" "spotlook.moving" (nat_lit 316) (nat_lit 130), kCo "moved" (nat_lit 342) (nat_lit 343) (nat_lit 344) (nat_lit 52) (nat_lit 2) (nat_lit 132) (nat_lit 133) (nat_lit 134) (nat_lit 135) (nat_lit 136) (nat_lit 348) (nat_lit 52) (nat_lit 349), kF (nat_lit 20) "moved" "spotlook.moving" (nat_lit 316) (nat_lit 137), kCo "mirrored" (nat_lit 351) (nat_lit 352) (nat_lit 353) (nat_lit 54) (nat_lit 1) (nat_lit 139) (nat_lit 140) (nat_lit 141) (nat_lit 142) (nat_lit 143) (nat_lit 355) (nat_lit 54) (nat_lit 356), kF (nat_lit 21) "mirrored" "spotlook.moving" (nat_lit 316) (nat_lit 144), kCo "turned" (nat_lit 358) (nat_lit 359) (nat_lit 360) (nat_lit 56) (nat_lit 1) (nat_lit 146) (nat_lit 147) (nat_lit 148) (nat_lit 149) (nat_lit 150) (nat_lit 362) (nat_lit 56) (nat_lit 363), kF (nat_lit 22) "turned" "spotlook.moving" (nat_lit 316) (nat_lit 151), { cls := .type "code", data := .fields #[(.str (Str.ofString "in_order") 365), (.str (Str.ofString "in_order") 366), (.str (Str.ofString "/claim/cut.py") 367), (.int 58 0), (.int 2 0), (.int 0 0), (.int 0 0), (.int 3 0), (.ref 153), (.bool true), (.int 181 0), (.ref 154), .none, .none, .none, (.ref 155), (.int 368 0), (.int 58 0), (.str (Str.ofString "/claim/cut.py") 369)] }]
noncomputable def kL4 : List Obj := [kF (nat_lit 23) "in_order" "spotlook.moving" (nat_lit 316) (nat_lit 156), kCo "_law_pot" (nat_lit 373) (nat_lit 374) (nat_lit 375) (nat_lit 61) (nat_lit 2) (nat_lit 158) (nat_lit 159) (nat_lit 160) (nat_lit 161) (nat_lit 162) (nat_lit 379) (nat_lit 61) (nat_lit 380), kF (nat_lit 25) "_law_pot" "law_spotlook_k60_plots_moved_mirrored_turned" (nat_lit 371) (nat_lit 163), kCo "_law_take" (nat_lit 382) (nat_lit 383) (nat_lit 384) (nat_lit 66) (nat_lit 2) (nat_lit 165) (nat_lit 166) (nat_lit 167) (nat_lit 168) (nat_lit 169) (nat_lit 389) (nat_lit 66) (nat_lit 390), kF (nat_lit 26) "_law_take" "law_spotlook_k60_plots_moved_mirrored_turned" (nat_lit 371) (nat_lit 170), kCo "_law_side" (nat_lit 392) (nat_lit 393) (nat_lit 394) (nat_lit 75) (nat_lit 2) (nat_lit 172) (nat_lit 173) (nat_lit 174) (nat_lit 175) (nat_lit 176) (nat_lit 402) (nat_lit 75) (nat_lit 403), kF (nat_lit 27) "_law_side" "law_spotlook_k60_plots_moved_mirrored_turned" (nat_lit 371) (nat_lit 177), kCo "_law_on" (nat_lit 405) (nat_lit 406) (nat_lit 407) (nat_lit 80) (nat_lit 2) (nat_lit 179) (nat_lit 180) (nat_lit 181) (nat_lit 182) (nat_lit 183) (nat_lit 410) (nat_lit 80) (nat_lit 411)]
noncomputable def kL5 : List Obj := [kF (nat_lit 28) "_law_on" "law_spotlook_k60_plots_moved_mirrored_turned" (nat_lit 371) (nat_lit 184), kCo "_law_apart" (nat_lit 413) (nat_lit 414) (nat_lit 415) (nat_lit 82) (nat_lit 2) (nat_lit 186) (nat_lit 187) (nat_lit 188) (nat_lit 189) (nat_lit 190) (nat_lit 422) (nat_lit 82) (nat_lit 423), kF (nat_lit 29) "_law_apart" "law_spotlook_k60_plots_moved_mirrored_turned" (nat_lit 371) (nat_lit 191), kCo "_law_new_spot" (nat_lit 425) (nat_lit 426) (nat_lit 427) (nat_lit 89) (nat_lit 2) (nat_lit 193) (nat_lit 194) (nat_lit 195) (nat_lit 196) (nat_lit 197) (nat_lit 430) (nat_lit 89) (nat_lit 431), kF (nat_lit 30) "_law_new_spot" "law_spotlook_k60_plots_moved_mirrored_turned" (nat_lit 371) (nat_lit 198), kCo "_law_some_spot" (nat_lit 433) (nat_lit 434) (nat_lit 435) (nat_lit 91) (nat_lit 3) (nat_lit 200) (nat_lit 201) (nat_lit 202) (nat_lit 203) (nat_lit 204) (nat_lit 439) (nat_lit 91) (nat_lit 440), kF (nat_lit 31) "_law_some_spot" "law_spotlook_k60_plots_moved_mirrored_turned" (nat_lit 371) (nat_lit 205), kCo "_law_square" (nat_lit 442) (nat_lit 443) (nat_lit 444) (nat_lit 95) (nat_lit 2) (nat_lit 207) (nat_lit 208) (nat_lit 209) (nat_lit 210) (nat_lit 211) (nat_lit 450) (nat_lit 95) (nat_lit 451)]
noncomputable def kL6 : List Obj := [kF (nat_lit 32) "_law_square" "law_spotlook_k60_plots_moved_mirrored_turned" (nat_lit 371) (nat_lit 212), { cls := .type "code", data := .fields #[(.str (Str.ofString "_law_laid") 453), (.str (Str.ofString "_law_laid") 454), (.str (Str.ofString "/claim/cut.py") 455), (.int 101 0), (.int 3 0), (.int 0 0), (.int 0 0), (.int 3 0), (.ref 214), (.bool true), (.int 181 0), (.ref 215), .none, .none, .none, (.ref 216), (.int 456 0), (.int 101 0), (.str (Str.ofString "/claim/cut.py") 457)] }, kF (nat_lit 33) "_law_laid" "law_spotlook_k60_plots_moved_mirrored_turned" (nat_lit 371) (nat_lit 217), { cls := .type "code", data := .fields #[(.str (Str.ofString "_law_shuts_here") 459), (.str (Str.ofString "_law_shuts_here") 460), (.str (Str.ofString "/claim/cut.py") 461), (.int 106 0), (.int 2 0), (.int 0 0), (.int 0 0), (.int 3 0), (.ref 219), (.bool true), (.int 181 0), (.ref 220), .none, .none, .none, (.ref 221), (.int 462 0), (.int 106 0), (.str (Str.ofString "/claim/cut.py") 463)] }, kF (nat_lit 34) "_law_shuts_here" "law_spotlook_k60_plots_moved_mirrored_turned" (nat_lit 371) (nat_lit 222), kCo "_law_frac" (nat_lit 465) (nat_lit 466) (nat_lit 467) (nat_lit 118) (nat_lit 2) (nat_lit 224) (nat_lit 225) (nat_lit 226) (nat_lit 227) (nat_lit 228) (nat_lit 472) (nat_lit 118) (nat_lit 473), kF (nat_lit 35) "_law_frac" "law_spotlook_k60_plots_moved_mirrored_turned" (nat_lit 371) (nat_lit 229), { cls := .type "code", data := .fields #[(.str (Str.ofString "_law_frame") 475), (.str (Str.ofString "_law_frame") 476), (.str (Str.ofString "/claim/cut.py") 477), (.int 124 0), (.int 2 0), (.int 0 0), (.int 0 0), (.int 3 0), (.ref 231), (.bool true), (.int 181 0), (.ref 232), .none, .none, .none, (.ref 233), (.int 478 0), (.int 124 0), (.str (Str.ofString "/claim/cut.py") 479)] }]
noncomputable def kL7 : List Obj := [kF (nat_lit 36) "_law_frame" "law_spotlook_k60_plots_moved_mirrored_turned" (nat_lit 371) (nat_lit 234), kCo "_law_given" (nat_lit 481) (nat_lit 482) (nat_lit 483) (nat_lit 133) (nat_lit 2) (nat_lit 236) (nat_lit 237) (nat_lit 238) (nat_lit 239) (nat_lit 240) (nat_lit 490) (nat_lit 133) (nat_lit 491), kF (nat_lit 37) "_law_given" "law_spotlook_k60_plots_moved_mirrored_turned" (nat_lit 371) (nat_lit 241), { cls := .type "code", data := .fields #[(.str (Str.ofString "_law_plot") 493), (.str (Str.ofString "_law_plot") 494), (.str (Str.ofString "/claim/cut.py") 495), (.int 136 0), (.int 2 0), (.int 0 0), (.int 0 0), (.int 3 0), (.ref 243), (.bool true), (.int 181 0), (.ref 244), .none, .none, .none, (.ref 245), (.int 496 0), (.int 136 0), (.str (Str.ofString "/claim/cut.py") 497)] }, kF (nat_lit 38) "_law_plot" "law_spotlook_k60_plots_moved_mirrored_turned" (nat_lit 371) (nat_lit 246), kCo "_law_same" (nat_lit 499) (nat_lit 500) (nat_lit 501) (nat_lit 138) (nat_lit 2) (nat_lit 248) (nat_lit 249) (nat_lit 250) (nat_lit 251) (nat_lit 252) (nat_lit 504) (nat_lit 138) (nat_lit 505), kF (nat_lit 39) "_law_same" "law_spotlook_k60_plots_moved_mirrored_turned" (nat_lit 371) (nat_lit 253), kCo "_law_moved_spot" (nat_lit 507) (nat_lit 508) (nat_lit 509) (nat_lit 140) (nat_lit 3) (nat_lit 255) (nat_lit 256) (nat_lit 257) (nat_lit 258) (nat_lit 259) (nat_lit 513) (nat_lit 140) (nat_lit 514)]
noncomputable def kL8 : List Obj := [kF (nat_lit 40) "_law_moved_spot" "law_spotlook_k60_plots_moved_mirrored_turned" (nat_lit 371) (nat_lit 260), { cls := .type "code", data := .fields #[(.str (Str.ofString "_law_moved_shuts") 516), (.str (Str.ofString "_law_moved_shuts") 517), (.str (Str.ofString "/claim/cut.py") 518), (.int 146 0), (.int 3 0), (.int 0 0), (.int 0 0), (.int 3 0), (.ref 262), (.bool true), (.int 181 0), (.ref 263), .none, .none, .none, (.ref 264), (.int 519 0), (.int 146 0), (.str (Str.ofString "/claim/cut.py") 520)] }, kF (nat_lit 41) "_law_moved_shuts" "law_spotlook_k60_plots_moved_mirrored_turned" (nat_lit 371) (nat_lit 265), kCo "_law_frames" (nat_lit 522) (nat_lit 523) (nat_lit 524) (nat_lit 152) (nat_lit 2) (nat_lit 267) (nat_lit 268) (nat_lit 269) (nat_lit 270) (nat_lit 271) (nat_lit 531) (nat_lit 152) (nat_lit 532), kF (nat_lit 42) "_law_frames" "law_spotlook_k60_plots_moved_mirrored_turned" (nat_lit 371) (nat_lit 272), kCo "_law_order" (nat_lit 534) (nat_lit 535) (nat_lit 536) (nat_lit 155) (nat_lit 2) (nat_lit 274) (nat_lit 275) (nat_lit 276) (nat_lit 277) (nat_lit 278) (nat_lit 541) (nat_lit 155) (nat_lit 542), kF (nat_lit 43) "_law_order" "law_spotlook_k60_plots_moved_mirrored_turned" (nat_lit 371) (nat_lit 279), kCo "_law_right" (nat_lit 544) (nat_lit 545) (nat_lit 546) (nat_lit 160) (nat_lit 5) (nat_lit 281) (nat_lit 282) (nat_lit 283) (nat_lit 284) (nat_lit 285) (nat_lit 553) (nat_lit 160) (nat_lit 554)]
noncomputable def kL9 : List Obj := [kF (nat_lit 44) "_law_right" "law_spotlook_k60_plots_moved_mirrored_turned" (nat_lit 371) (nat_lit 286), { cls := .type "code", data := .fields #[(.str (Str.ofString "_law_squares") 556), (.str (Str.ofString "_law_squares") 557), (.str (Str.ofString "/claim/cut.py") 558), (.int 165 0), (.int 2 0), (.int 0 0), (.int 0 0), (.int 3 0), (.ref 288), (.bool true), (.int 181 0), (.ref 289), .none, .none, .none, (.ref 290), (.int 559 0), (.int 165 0), (.str (Str.ofString "/claim/cut.py") 560)] }, kF (nat_lit 45) "_law_squares" "law_spotlook_k60_plots_moved_mirrored_turned" (nat_lit 371) (nat_lit 291), { cls := .type "code", data := .fields #[(.str (Str.ofString "law") 562), (.str (Str.ofString "law") 563), (.str (Str.ofString "/claim/cut.py") 564), (.int 176 0), (.int 1 0), (.int 0 0), (.int 0 0), (.int 3 0), (.ref 293), (.bool true), (.int 181 0), (.ref 294), .none, .none, .none, (.ref 295), (.int 565 0), (.int 176 0), (.str (Str.ofString "/claim/cut.py") 566)] }, kF (nat_lit 46) "law" "law_spotlook_k60_plots_moved_mirrored_turned" (nat_lit 371) (nat_lit 296)]
noncomputable def kK : Params → PySem.W.Frag := fun P => (nat_lit 3, kG P) :: (nat_lit 4, kN kL0 (nat_lit 0)) :: (nat_lit 57, kN kL0 (nat_lit 1)) :: (nat_lit 58, kN kL0 (nat_lit 2)) :: (nat_lit 64, kN kL0 (nat_lit 3)) :: (nat_lit 65, kN kL0 (nat_lit 4)) :: (nat_lit 71, kN kL0 (nat_lit 5)) :: (nat_lit 72, kN kL0 (nat_lit 6)) :: (nat_lit 78, kN kL0 (nat_lit 7)) :: (nat_lit 79, kN kL1 (nat_lit 0)) :: (nat_lit 85, kN kL1 (nat_lit 1)) :: (nat_lit 86, kN kL1 (nat_lit 2)) :: (nat_lit 92, kN kL1 (nat_lit 3)) :: (nat_lit 93, kN kL1 (nat_lit 4)) :: (nat_lit 99, kN kL1 (nat_lit 5)) :: (nat_lit 100, kN kL1 (nat_lit 6)) :: (nat_lit 106, kN kL1 (nat_lit 7)) :: (nat_lit 107, kN kL2 (nat_lit 0)) :: (nat_lit 111, kN kL2 (nat_lit 1)) :: (nat_lit 112, kN kL2 (nat_lit 2)) :: (nat_lit 118, kN kL2 (nat_lit 3)) :: (nat_lit 119, kN kL2 (nat_lit 4)) :: (nat_lit 125, kN kL2 (nat_lit 5)) :: (nat_lit 126, kN kL2 (nat_lit 6)) :: (nat_lit 130, kN kL2 (nat_lit 7)) :: (nat_lit 131, kN kL3 (nat_lit 0)) :: (nat_lit 137, kN kL3 (nat_lit 1)) :: (nat_lit 138, kN kL3 (nat_lit 2)) :: (nat_lit 144, kN kL3 (nat_lit 3)) :: (nat_lit 145, kN kL3 (nat_lit 4)) :: (nat_lit 151, kN kL3 (nat_lit 5)) :: (nat_lit 152, kN kL3 (nat_lit 6)) :: (nat_lit 156, kN kL3 (nat_lit 7)) :: (nat_lit 157, kN kL4 (nat_lit 0)) :: (nat_lit 163, kN kL4 (nat_lit 1)) :: (nat_lit 164, kN kL4 (nat_lit 2)) :: (nat_lit 170, kN kL4 (nat_lit 3)) :: (nat_lit 171, kN kL4 (nat_lit 4)) :: (nat_lit 177, kN kL4 (nat_lit 5)) :: (nat_lit 178, kN kL4 (nat_lit 6)) :: (nat_lit 184, kN kL4 (nat_lit 7)) :: (nat_lit 185, kN kL5 (nat_lit 0)) :: (nat_lit 191, kN kL5 (nat_lit 1)) :: (nat_lit 192, kN kL5 (nat_lit 2)) :: (nat_lit 198, kN kL5 (nat_lit 3)) :: (nat_lit 199, kN kL5 (nat_lit 4)) :: (nat_lit 205, kN kL5 (nat_lit 5)) :: (nat_lit 206, kN kL5 (nat_lit 6)) :: (nat_lit 212, kN kL5 (nat_lit 7)) :: (nat_lit 213, kN kL6 (nat_lit 0)) :: (nat_lit 217, kN kL6 (nat_lit 1)) :: (nat_lit 218, kN kL6 (nat_lit 2)) :: (nat_lit 222, kN kL6 (nat_lit 3)) :: (nat_lit 223, kN kL6 (nat_lit 4)) :: (nat_lit 229, kN kL6 (nat_lit 5)) :: (nat_lit 230, kN kL6 (nat_lit 6)) :: (nat_lit 234, kN kL6 (nat_lit 7)) :: (nat_lit 235, kN kL7 (nat_lit 0)) :: (nat_lit 241, kN kL7 (nat_lit 1)) :: (nat_lit 242, kN kL7 (nat_lit 2)) :: (nat_lit 246, kN kL7 (nat_lit 3)) :: (nat_lit 247, kN kL7 (nat_lit 4)) :: (nat_lit 253, kN kL7 (nat_lit 5)) :: (nat_lit 254, kN kL7 (nat_lit 6)) :: (nat_lit 260, kN kL7 (nat_lit 7)) :: (nat_lit 261, kN kL8 (nat_lit 0)) :: (nat_lit 265, kN kL8 (nat_lit 1)) :: (nat_lit 266, kN kL8 (nat_lit 2)) :: (nat_lit 272, kN kL8 (nat_lit 3)) :: (nat_lit 273, kN kL8 (nat_lit 4)) :: (nat_lit 279, kN kL8 (nat_lit 5)) :: (nat_lit 280, kN kL8 (nat_lit 6)) :: (nat_lit 286, kN kL8 (nat_lit 7)) :: (nat_lit 287, kN kL9 (nat_lit 0)) :: (nat_lit 291, kN kL9 (nat_lit 1)) :: (nat_lit 292, kN kL9 (nat_lit 2)) :: (nat_lit 296, kN kL9 (nat_lit 3)) :: (nat_lit 297, kN kL9 (nat_lit 4)) :: []
end Q_k60_plots_moved_mirrored_turned
namespace Q_k60_plots_moved_mirrored_turned
open PySem L2
inductive Tg {A : Type} (a : A) : Type where | mk : Tg a
noncomputable def pk {A : Type} {a : A} (_ : Tg a) : A := a
noncomputable def hE (P : Params) (n : Str) (k : Nat) (v : Value) : DictEntry := { hash := PyData.keyHash P n, key := .str n k, val := v }
noncomputable def kU (s : Stmt) (n q : Str) (g : Nat) (m c : Value) : FuncData := { name := n, qualname := q, params := defArgs s, body := .stmts (defBody s), scope := defScope s, globals := g, closure := [], defaults := .none, kwdefaults := .none, pyModule := m, code := c }
noncomputable def kC (s : Stmt) (i : Nat) : Stmt := match s with
  | .ClassDef (body := b) .. => b.getD i (.Pass ⟨0, 0, 0, 0⟩)
  | s => s
noncomputable def kTu (l : List Value) : Obj := { cls := .type "tuple", data := .seq l.toArray 0 }
noncomputable def kFd (l : List Value) : Obj := { cls := .none, data := .fields l.toArray }
noncomputable def st0 : Stmt := by
 refine' (?a : Tg (A := Stmt) _ → _) ?d
 case d =>
  have t : Tg (top 0) := .mk
  conv at t => arg 1; whnf
  exact t
 exact fun t => pk (.mk : type_of% t)
noncomputable def st1 : Stmt := by
 refine' (?a : Tg (A := Stmt) _ → _) ?d
 case d =>
  have t : Tg (top 1) := .mk
  conv at t => arg 1; whnf
  exact t
 exact fun t => pk (.mk : type_of% t)
noncomputable def st2 : Stmt := by
 refine' (?a : Tg (A := Stmt) _ → _) ?d
 case d =>
  have t : Tg (top 2) := .mk
  conv at t => arg 1; whnf
  exact t
 exact fun t => pk (.mk : type_of% t)
noncomputable def st3 : Stmt := by
 refine' (?a : Tg (A := Stmt) _ → _) ?d
 case d =>
  have t : Tg (top 3) := .mk
  conv at t => arg 1; whnf
  exact t
 exact fun t => pk (.mk : type_of% t)
noncomputable def st4 : Stmt := by
 refine' (?a : Tg (A := Stmt) _ → _) ?d
 case d =>
  have t : Tg (top 4) := .mk
  conv at t => arg 1; whnf
  exact t
 exact fun t => pk (.mk : type_of% t)
noncomputable def st5 : Stmt := by
 refine' (?a : Tg (A := Stmt) _ → _) ?d
 case d =>
  have t : Tg (top 5) := .mk
  conv at t => arg 1; whnf
  exact t
 exact fun t => pk (.mk : type_of% t)
noncomputable def st6 : Stmt := by
 refine' (?a : Tg (A := Stmt) _ → _) ?d
 case d =>
  have t : Tg (top 6) := .mk
  conv at t => arg 1; whnf
  exact t
 exact fun t => pk (.mk : type_of% t)
noncomputable def st7 : Stmt := by
 refine' (?a : Tg (A := Stmt) _ → _) ?d
 case d =>
  have t : Tg (top 7) := .mk
  conv at t => arg 1; whnf
  exact t
 exact fun t => pk (.mk : type_of% t)
noncomputable def st8 : Stmt := by
 refine' (?a : Tg (A := Stmt) _ → _) ?d
 case d =>
  have t : Tg (top 8) := .mk
  conv at t => arg 1; whnf
  exact t
 exact fun t => pk (.mk : type_of% t)
noncomputable def st9 : Stmt := by
 refine' (?a : Tg (A := Stmt) _ → _) ?d
 case d =>
  have t : Tg (top 9) := .mk
  conv at t => arg 1; whnf
  exact t
 exact fun t => pk (.mk : type_of% t)
noncomputable def st10 : Stmt := by
 refine' (?a : Tg (A := Stmt) _ → _) ?d
 case d =>
  have t : Tg (top 10) := .mk
  conv at t => arg 1; whnf
  exact t
 exact fun t => pk (.mk : type_of% t)
noncomputable def st11 : Stmt := by
 refine' (?a : Tg (A := Stmt) _ → _) ?d
 case d =>
  have t : Tg (top 11) := .mk
  conv at t => arg 1; whnf
  exact t
 exact fun t => pk (.mk : type_of% t)
noncomputable def st12 : Stmt := by
 refine' (?a : Tg (A := Stmt) _ → _) ?d
 case d =>
  have t : Tg (top 12) := .mk
  conv at t => arg 1; whnf
  exact t
 exact fun t => pk (.mk : type_of% t)
noncomputable def st13 : Stmt := by
 refine' (?a : Tg (A := Stmt) _ → _) ?d
 case d =>
  have t : Tg (top 13) := .mk
  conv at t => arg 1; whnf
  exact t
 exact fun t => pk (.mk : type_of% t)
noncomputable def st14 : Stmt := by
 refine' (?a : Tg (A := Stmt) _ → _) ?d
 case d =>
  have t : Tg (top 14) := .mk
  conv at t => arg 1; whnf
  exact t
 exact fun t => pk (.mk : type_of% t)
noncomputable def st15 : Stmt := by
 refine' (?a : Tg (A := Stmt) _ → _) ?d
 case d =>
  have t : Tg (top 15) := .mk
  conv at t => arg 1; whnf
  exact t
 exact fun t => pk (.mk : type_of% t)
noncomputable def st16 : Stmt := by
 refine' (?a : Tg (A := Stmt) _ → _) ?d
 case d =>
  have t : Tg (top 16) := .mk
  conv at t => arg 1; whnf
  exact t
 exact fun t => pk (.mk : type_of% t)
noncomputable def st17 : Stmt := by
 refine' (?a : Tg (A := Stmt) _ → _) ?d
 case d =>
  have t : Tg (top 17) := .mk
  conv at t => arg 1; whnf
  exact t
 exact fun t => pk (.mk : type_of% t)
noncomputable def st18 : Stmt := by
 refine' (?a : Tg (A := Stmt) _ → _) ?d
 case d =>
  have t : Tg (top 18) := .mk
  conv at t => arg 1; whnf
  exact t
 exact fun t => pk (.mk : type_of% t)
noncomputable def st19 : Stmt := by
 refine' (?a : Tg (A := Stmt) _ → _) ?d
 case d =>
  have t : Tg (top 19) := .mk
  conv at t => arg 1; whnf
  exact t
 exact fun t => pk (.mk : type_of% t)
noncomputable def st20 : Stmt := by
 refine' (?a : Tg (A := Stmt) _ → _) ?d
 case d =>
  have t : Tg (top 20) := .mk
  conv at t => arg 1; whnf
  exact t
 exact fun t => pk (.mk : type_of% t)
noncomputable def st21 : Stmt := by
 refine' (?a : Tg (A := Stmt) _ → _) ?d
 case d =>
  have t : Tg (top 21) := .mk
  conv at t => arg 1; whnf
  exact t
 exact fun t => pk (.mk : type_of% t)
noncomputable def st22 : Stmt := by
 refine' (?a : Tg (A := Stmt) _ → _) ?d
 case d =>
  have t : Tg (top 22) := .mk
  conv at t => arg 1; whnf
  exact t
 exact fun t => pk (.mk : type_of% t)
noncomputable def st23 : Stmt := by
 refine' (?a : Tg (A := Stmt) _ → _) ?d
 case d =>
  have t : Tg (top 23) := .mk
  conv at t => arg 1; whnf
  exact t
 exact fun t => pk (.mk : type_of% t)
noncomputable def st24 : Stmt := by
 refine' (?a : Tg (A := Stmt) _ → _) ?d
 case d =>
  have t : Tg (top 24) := .mk
  conv at t => arg 1; whnf
  exact t
 exact fun t => pk (.mk : type_of% t)
noncomputable def st25 : Stmt := by
 refine' (?a : Tg (A := Stmt) _ → _) ?d
 case d =>
  have t : Tg (top 25) := .mk
  conv at t => arg 1; whnf
  exact t
 exact fun t => pk (.mk : type_of% t)
noncomputable def st26 : Stmt := by
 refine' (?a : Tg (A := Stmt) _ → _) ?d
 case d =>
  have t : Tg (top 26) := .mk
  conv at t => arg 1; whnf
  exact t
 exact fun t => pk (.mk : type_of% t)
noncomputable def st27 : Stmt := by
 refine' (?a : Tg (A := Stmt) _ → _) ?d
 case d =>
  have t : Tg (top 27) := .mk
  conv at t => arg 1; whnf
  exact t
 exact fun t => pk (.mk : type_of% t)
noncomputable def st28 : Stmt := by
 refine' (?a : Tg (A := Stmt) _ → _) ?d
 case d =>
  have t : Tg (top 28) := .mk
  conv at t => arg 1; whnf
  exact t
 exact fun t => pk (.mk : type_of% t)
noncomputable def st29 : Stmt := by
 refine' (?a : Tg (A := Stmt) _ → _) ?d
 case d =>
  have t : Tg (top 29) := .mk
  conv at t => arg 1; whnf
  exact t
 exact fun t => pk (.mk : type_of% t)
noncomputable def st30 : Stmt := by
 refine' (?a : Tg (A := Stmt) _ → _) ?d
 case d =>
  have t : Tg (top 30) := .mk
  conv at t => arg 1; whnf
  exact t
 exact fun t => pk (.mk : type_of% t)
noncomputable def st31 : Stmt := by
 refine' (?a : Tg (A := Stmt) _ → _) ?d
 case d =>
  have t : Tg (top 31) := .mk
  conv at t => arg 1; whnf
  exact t
 exact fun t => pk (.mk : type_of% t)
noncomputable def st32 : Stmt := by
 refine' (?a : Tg (A := Stmt) _ → _) ?d
 case d =>
  have t : Tg (top 32) := .mk
  conv at t => arg 1; whnf
  exact t
 exact fun t => pk (.mk : type_of% t)
noncomputable def st33 : Stmt := by
 refine' (?a : Tg (A := Stmt) _ → _) ?d
 case d =>
  have t : Tg (top 33) := .mk
  conv at t => arg 1; whnf
  exact t
 exact fun t => pk (.mk : type_of% t)
noncomputable def st34 : Stmt := by
 refine' (?a : Tg (A := Stmt) _ → _) ?d
 case d =>
  have t : Tg (top 34) := .mk
  conv at t => arg 1; whnf
  exact t
 exact fun t => pk (.mk : type_of% t)
noncomputable def st35 : Stmt := by
 refine' (?a : Tg (A := Stmt) _ → _) ?d
 case d =>
  have t : Tg (top 35) := .mk
  conv at t => arg 1; whnf
  exact t
 exact fun t => pk (.mk : type_of% t)
noncomputable def st36 : Stmt := by
 refine' (?a : Tg (A := Stmt) _ → _) ?d
 case d =>
  have t : Tg (top 36) := .mk
  conv at t => arg 1; whnf
  exact t
 exact fun t => pk (.mk : type_of% t)
noncomputable def st37 : Stmt := by
 refine' (?a : Tg (A := Stmt) _ → _) ?d
 case d =>
  have t : Tg (top 37) := .mk
  conv at t => arg 1; whnf
  exact t
 exact fun t => pk (.mk : type_of% t)
noncomputable def st38 : Stmt := by
 refine' (?a : Tg (A := Stmt) _ → _) ?d
 case d =>
  have t : Tg (top 38) := .mk
  conv at t => arg 1; whnf
  exact t
 exact fun t => pk (.mk : type_of% t)
noncomputable def st39 : Stmt := by
 refine' (?a : Tg (A := Stmt) _ → _) ?d
 case d =>
  have t : Tg (top 39) := .mk
  conv at t => arg 1; whnf
  exact t
 exact fun t => pk (.mk : type_of% t)
noncomputable def st40 : Stmt := by
 refine' (?a : Tg (A := Stmt) _ → _) ?d
 case d =>
  have t : Tg (top 40) := .mk
  conv at t => arg 1; whnf
  exact t
 exact fun t => pk (.mk : type_of% t)
noncomputable def st41 : Stmt := by
 refine' (?a : Tg (A := Stmt) _ → _) ?d
 case d =>
  have t : Tg (top 41) := .mk
  conv at t => arg 1; whnf
  exact t
 exact fun t => pk (.mk : type_of% t)
noncomputable def st42 : Stmt := by
 refine' (?a : Tg (A := Stmt) _ → _) ?d
 case d =>
  have t : Tg (top 42) := .mk
  conv at t => arg 1; whnf
  exact t
 exact fun t => pk (.mk : type_of% t)
noncomputable def st43 : Stmt := by
 refine' (?a : Tg (A := Stmt) _ → _) ?d
 case d =>
  have t : Tg (top 43) := .mk
  conv at t => arg 1; whnf
  exact t
 exact fun t => pk (.mk : type_of% t)
noncomputable def st44 : Stmt := by
 refine' (?a : Tg (A := Stmt) _ → _) ?d
 case d =>
  have t : Tg (top 44) := .mk
  conv at t => arg 1; whnf
  exact t
 exact fun t => pk (.mk : type_of% t)
noncomputable def st45 : Stmt := by
 refine' (?a : Tg (A := Stmt) _ → _) ?d
 case d =>
  have t : Tg (top 45) := .mk
  conv at t => arg 1; whnf
  exact t
 exact fun t => pk (.mk : type_of% t)
noncomputable def st46 : Stmt := by
 refine' (?a : Tg (A := Stmt) _ → _) ?d
 case d =>
  have t : Tg (top 46) := .mk
  conv at t => arg 1; whnf
  exact t
 exact fun t => pk (.mk : type_of% t)
noncomputable def scp : Scope := by
 refine' (?a : Tg (A := Scope) _ → _) ?d
 case d =>
  have t : Tg (PySem.Challenge.pw_spotlook_k60_plots_moved_mirrored_turned.main.scope) := .mk
  conv at t => arg 1; whnf
  exact t
 exact fun t => pk (.mk : type_of% t)
noncomputable def fil : Str := by
 refine' (?a : Tg (A := Str) _ → _) ?d
 case d =>
  have t : Tg (PySem.Challenge.pw_spotlook_k60_plots_moved_mirrored_turned.main.file) := .mk
  conv at t => arg 1; whnf
  exact t
 exact fun t => pk (.mk : type_of% t)
noncomputable def giv : Given := by
 refine' (?a : Tg (A := Given) _ → _) ?d
 case d =>
  have t : Tg (PySem.Challenge.pw_spotlook_k60_plots_moved_mirrored_turned.given) := .mk
  conv at t => arg 1; whnf
  exact t
 exact fun t => pk (.mk : type_of% t)
noncomputable def pw2 : Program := { main := { body := [st0, st1, st2, st3, st4, st5, st6, st7, st8, st9, st10, st11, st12, st13, st14, st15, st16, st17, st18, st19, st20, st21, st22, st23, st24, st25, st26, st27, st28, st29, st30, st31, st32, st33, st34, st35, st36, st37, st38, st39, st40, st41, st42, st43, st44, st45, st46], scope := scp, futureAnnotations := false, file := fil, more := [] }, modules := [], parses := [], absent := [], harvested := [], given := giv }
noncomputable def vw : Program := { pw2 with main := { pw2.main with body := [st1, st2, st3, st5, st6, st7, st8, st10, st11, st12, st13, st15, st17, st18, st19, st20, st21, st22, st23, st25, st26, st27, st28, st29, st30, st31, st32, st33, st34, st35, st36, st37, st38, st39, st40, st41, st42, st43, st44, st45, st46] } }
noncomputable def sx0 : List Stmt := [st0, st1]
noncomputable def sx1 : List Stmt := [st2]
noncomputable def sx2 : List Stmt := [st3, st4, st5, st6, st7, st8, st9, st10]
noncomputable def sx3 : List Stmt := [st11, st12, st13, st14, st15, st16, st17, st18, st19, st20, st21, st22, st23, st24, st25]
noncomputable def sx4 : List Stmt := [st26, st27, st28, st29, st30, st31, st32, st33, st34, st35, st36, st37, st38]
noncomputable def sx5 : List Stmt := [st39, st40, st41, st42, st43, st44, st45, st46]
noncomputable def en3_0 (P : Params) : List DictEntry := [hE P (Str.ofString "__doc__") 166 .none, hE P (Str.ofString "__package__") 167 .none, hE P (Str.ofString "__loader__") 168 (.builtin "__main__.__loader__#opaque"), hE P (Str.ofString "__spec__") 169 .none, hE P (Str.ofString "__annotations__") 170 (.ref 6), hE P (Str.ofString "__builtins__") 171 (.ref 4), hE P (Str.ofString "__file__") 173 (.str (Str.ofString "/claim/cut.py") 172), hE P (Str.ofString "__cached__") 174 .none]
noncomputable def en3_1 (P : Params) : List DictEntry := [hE P (Str.ofString "SpotError") 206 (.ref 24), hE P (Str.ofString "NoFraction") 222 (.ref 37), hE P (Str.ofString "NoWall") 238 (.ref 49), hE P (Str.ofString "greatest_divisor") 248 (.ref 58), hE P (Str.ofString "fraction") 257 (.ref 65), hE P (Str.ofString "plus") 265 (.ref 72), hE P (Str.ofString "is_less") 273 (.ref 79), hE P (Str.ofString "is_ahead") 283 (.ref 86)]
noncomputable def en3_2 (P : Params) : List DictEntry := [hE P (Str.ofString "own_spot") 292 (.ref 93), hE P (Str.ofString "own_wall") 299 (.ref 100), hE P (Str.ofString "wall_of") 307 (.ref 107), hE P (Str.ofString "own_plot") 315 (.ref 112), hE P (Str.ofString "mirrored_spot") 326 (.ref 119), hE P (Str.ofString "turned_spot") 335 (.ref 126), hE P (Str.ofString "with_spots") 341 (.ref 131), hE P (Str.ofString "moved") 350 (.ref 138)]
noncomputable def en3_3 (P : Params) : List DictEntry := [hE P (Str.ofString "mirrored") 357 (.ref 145), hE P (Str.ofString "turned") 364 (.ref 152), hE P (Str.ofString "in_order") 370 (.ref 157), hE P (Str.ofString "_law_pot") 381 (.ref 164), hE P (Str.ofString "_law_take") 391 (.ref 171), hE P (Str.ofString "_law_side") 404 (.ref 178), hE P (Str.ofString "_law_on") 412 (.ref 185), hE P (Str.ofString "_law_apart") 424 (.ref 192)]
noncomputable def en3_4 (P : Params) : List DictEntry := [hE P (Str.ofString "_law_new_spot") 432 (.ref 199), hE P (Str.ofString "_law_some_spot") 441 (.ref 206), hE P (Str.ofString "_law_square") 452 (.ref 213), hE P (Str.ofString "_law_laid") 458 (.ref 218), hE P (Str.ofString "_law_shuts_here") 464 (.ref 223), hE P (Str.ofString "_law_frac") 474 (.ref 230), hE P (Str.ofString "_law_frame") 480 (.ref 235), hE P (Str.ofString "_law_given") 492 (.ref 242)]
noncomputable def en3_5 (P : Params) : List DictEntry := [hE P (Str.ofString "_law_plot") 498 (.ref 247), hE P (Str.ofString "_law_same") 506 (.ref 254), hE P (Str.ofString "_law_moved_spot") 515 (.ref 261), hE P (Str.ofString "_law_moved_shuts") 521 (.ref 266), hE P (Str.ofString "_law_frames") 533 (.ref 273), hE P (Str.ofString "_law_order") 543 (.ref 280), hE P (Str.ofString "_law_right") 555 (.ref 287), hE P (Str.ofString "_law_squares") 561 (.ref 292)]
noncomputable def en3_6 (P : Params) : List DictEntry := [hE P (Str.ofString "law") 567 (.ref 297)]
noncomputable def en3 (P : Params) : List DictEntry := en3_0 P ++ (en3_1 P ++ (en3_2 P ++ (en3_3 P ++ (en3_4 P ++ (en3_5 P ++ (en3_6 P))))))
noncomputable def fl12 : List Value := [(.int 2 0), (.int 0 0), (.ref 20), (.int 4 0), (.int 0 0), (.ref 33), (.int 6 0), (.int 0 0), (.ref 45), (.int 9 0), (.int 0 0), (.ref 57), (.int 13 0), (.int 0 0), (.ref 64), (.int 20 0), (.int 0 0), (.ref 71), (.int 22 0), (.int 0 0), (.ref 78), (.int 25 0), (.int 0 0), (.ref 85), (.int 29 0), (.int 0 0), (.ref 92), (.int 32 0), (.int 0 0), (.ref 99), (.int 34 0), (.int 0 0), (.ref 106), (.int 41 0), (.int 0 0), (.ref 111), (.int 44 0), (.int 0 0), (.ref 118), (.int 47 0), (.int 0 0), (.ref 125), (.int 50 0), (.int 0 0), (.ref 130), (.int 52 0), (.int 0 0), (.ref 137), (.int 54 0), (.int 0 0), (.ref 144), (.int 56 0), (.int 0 0), (.ref 151), (.int 58 0), (.int 0 0), (.ref 156), (.int 61 0), (.int 0 0), (.ref 163), (.int 66 0), (.int 0 0), (.ref 170), (.int 75 0), (.int 0 0), (.ref 177), (.int 80 0), (.int 0 0), (.ref 184), (.int 82 0), (.int 0 0), (.ref 191), (.int 89 0), (.int 0 0), (.ref 198), (.int 91 0), (.int 0 0), (.ref 205), (.int 95 0), (.int 0 0), (.ref 212), (.int 101 0), (.int 0 0), (.ref 217), (.int 106 0), (.int 0 0), (.ref 222), (.int 118 0), (.int 0 0), (.ref 229), (.int 124 0), (.int 0 0), (.ref 234), (.int 133 0), (.int 0 0), (.ref 241), (.int 136 0), (.int 0 0), (.ref 246), (.int 138 0), (.int 0 0), (.ref 253), (.int 140 0), (.int 0 0), (.ref 260), (.int 146 0), (.int 0 0), (.ref 265), (.int 152 0), (.int 0 0), (.ref 272), (.int 155 0), (.int 0 0), (.ref 279), (.int 160 0), (.int 0 0), (.ref 286), (.int 165 0), (.int 0 0), (.ref 291), (.int 176 0), (.int 0 0), (.ref 296)]
noncomputable def hC (n : Str) (s0 s1 s2 s18 r8 r11 r13 r14 r15 i3 i4 i5 i6 i7 i10 i16 i17 : Nat) (b9 : Bool) : Obj := { cls := .type "code", data := .fields #[.str n s0, .str n s1, .str (Str.ofString "/claim/cut.py") s2, .int (Int.ofNat i3) 0, .int (Int.ofNat i4) 0, .int (Int.ofNat i5) 0, .int (Int.ofNat i6) 0, .int (Int.ofNat i7) 0, .ref r8, .bool b9, .int (Int.ofNat i10) 0, .ref r11, .none, .ref r13, .ref r14, .ref r15, .int (Int.ofNat i16) 0, .int (Int.ofNat i17) 0, .str (Str.ofString "/claim/cut.py") s18] }
noncomputable def hF (t : Value) (s : Stmt) (n : Str) (g : Nat) (m c : Value) : Obj := { cls := t, data := .func (kU s n n g m c) }
noncomputable def ob11 : Obj := kTu []
noncomputable def ob12 : Obj := { cls := .none, data := .fields (List.toArray (fl12.take 0)) }
noncomputable def ob13 : Obj := { cls := (.type "code"), data := (.fields #[(.str (Str.ofString "<module>") 182), (.str (Str.ofString "<module>") 183), (.str (Str.ofString "/claim/cut.py") 184), (.int 1 0), (.int 0 0), (.int 0 0), (.int 0 0), (.int 0 0), (.ref 11), (.bool false), (.int 181 0), (.ref 12), .none, .none, .none, .none, (.int 185 0), (.int 1 0), (.str (Str.ofString "/claim/cut.py") 186)]) }
noncomputable def ob14 : Obj := { cls := (.type "frame"), slots := #[(some (.ref 13)), (some (.ref 3)), (some (.ref 3)), none, (some (.str (Str.ofString "__main__") 164)), none, (some (.ref 0))] }
noncomputable def ob15 (P : Params) : Obj := { cls := (.type "dict"), data := .dict (List.toArray (hE P (Str.ofString "__name__") 165 (.str (Str.ofString "spotlook.errors") 187) :: (en3 P).take 9)) 10 }
noncomputable def ob16 : Obj := { cls := .none, data := .fields (List.toArray (fl12.take 3)) }
noncomputable def ob17 : Obj := kTu [(.type "ValueError")]
noncomputable def ob18 : Obj := { cls := (.type "builtin_function_or_method"), data := (.fields #[(.builtin "type.__prepare__"), (.type "type")]) }
noncomputable def ob19 (P : Params) : Obj := { cls := (.type "dict"), data := .dict (List.toArray [hE P (Str.ofString "__module__") 196 (.str (Str.ofString "spotlook.errors") 187), hE P (Str.ofString "__qualname__") 198 (.str (Str.ofString "SpotError") 197), hE P (Str.ofString "__firstlineno__") 200 (.int 2 199), hE P (Str.ofString "__static_attributes__") 201 (.ref 22)]) 4 }
noncomputable def ob20 : Obj := { cls := (.type "code"), data := (.fields #[(.str (Str.ofString "SpotError") 191), (.str (Str.ofString "SpotError") 192), (.str (Str.ofString "/claim/cut.py") 193), (.int 2 0), (.int 0 0), (.int 0 0), (.int 0 0), (.int 0 0), (.ref 18), (.bool false), (.int 181 0), (.ref 19), .none, .none, .none, .none, (.int 194 0), (.int 2 0), (.str (Str.ofString "/claim/cut.py") 195)]) }
noncomputable def ob21 : Obj := { cls := (.type "frame"), slots := #[(some (.ref 20)), (some (.ref 3)), (some (.ref 17)), none, (some (.str (Str.ofString "spotlook.errors") 187)), none, (some (.ref 0))] }
noncomputable def ob22 (P : Params) : Obj := { cls := (.type "dict"), data := .dict (List.toArray [hE P (Str.ofString "__module__") 196 (.str (Str.ofString "spotlook.errors") 187), hE P (Str.ofString "__firstlineno__") 200 (.int 2 199), hE P (Str.ofString "__static_attributes__") 201 (.ref 22), hE P (Str.ofString "__weakref__") 203 (.ref 25), hE P (Str.ofString "__doc__") 204 .none]) 3 }
noncomputable def ob23 : Obj := { cls := (.type "type"), data := (.cls { name := (Str.ofString "SpotError"), bases := [(.type "ValueError")], mro := [(.ref 24), (.type "ValueError"), (.type "Exception"), (.type "BaseException"), (.type "object")], ns := 23, qualname := (Str.ofString "SpotError"), hasDict := true, slotNames := [], subclasses := [], abstract := false, collection := none, hasDel := false }), slots := #[(some (.ref 15)), none, (some (.str (Str.ofString "SpotError") 189)), (some (.str (Str.ofString "SpotError") 197)), (some (.builtin "ValueError.__new__")), (some (.bool true))] }
noncomputable def ob24 : Obj := { cls := (.type "getset_descriptor"), data := (.fields #[(.str (Str.ofString "__weakref__") 202), (.ref 24), (.builtin "ExceptionGroup.__weakref__"), .none]) }
noncomputable def ob25 : Obj := { cls := (.type "super"), data := (.fields #[(.ref 24), (.ref 24), (.ref 24)]) }
noncomputable def ob26 : Obj := { cls := (.type "builtin_function_or_method"), data := (.fields #[(.builtin "object.__init_subclass__"), (.ref 24)]) }
noncomputable def ob27 (P : Params) : Obj := { cls := (.type "dict"), data := .dict (List.toArray (hE P (Str.ofString "__name__") 165 (.str (Str.ofString "spotlook.errors") 187) :: (en3 P).take 10)) 11 }
noncomputable def ob28 : Obj := { cls := .none, data := .fields (List.toArray (fl12.take 6)) }
noncomputable def ob29 : Obj := { cls := (.type "type"), data := (.cls { name := (Str.ofString "SpotError"), bases := [(.type "ValueError")], mro := [(.ref 24), (.type "ValueError"), (.type "Exception"), (.type "BaseException"), (.type "object")], ns := 23, qualname := (Str.ofString "SpotError"), hasDict := true, slotNames := [], subclasses := [(.ref 37)], abstract := false, collection := none, hasDel := false }), slots := #[(some (.ref 15)), none, (some (.str (Str.ofString "SpotError") 189)), (some (.str (Str.ofString "SpotError") 197)), (some (.builtin "ValueError.__new__")), (some (.bool true))] }
noncomputable def ob30 : Obj := kTu [(.ref 24)]
noncomputable def ob31 (P : Params) : Obj := { cls := (.type "dict"), data := .dict (List.toArray [hE P (Str.ofString "__module__") 214 (.str (Str.ofString "spotlook.errors") 187), hE P (Str.ofString "__qualname__") 216 (.str (Str.ofString "NoFraction") 215), hE P (Str.ofString "__firstlineno__") 218 (.int 4 217), hE P (Str.ofString "__static_attributes__") 219 (.ref 35)]) 4 }
noncomputable def ob32 : Obj := { cls := (.type "code"), data := (.fields #[(.str (Str.ofString "NoFraction") 209), (.str (Str.ofString "NoFraction") 210), (.str (Str.ofString "/claim/cut.py") 211), (.int 4 0), (.int 0 0), (.int 0 0), (.int 0 0), (.int 0 0), (.ref 31), (.bool false), (.int 181 0), (.ref 32), .none, .none, .none, .none, (.int 212 0), (.int 4 0), (.str (Str.ofString "/claim/cut.py") 213)]) }
noncomputable def ob33 : Obj := { cls := (.type "frame"), slots := #[(some (.ref 33)), (some (.ref 3)), (some (.ref 30)), none, (some (.str (Str.ofString "spotlook.errors") 187)), none, (some (.ref 0))] }
noncomputable def ob34 (P : Params) : Obj := { cls := (.type "dict"), data := .dict (List.toArray [hE P (Str.ofString "__module__") 214 (.str (Str.ofString "spotlook.errors") 187), hE P (Str.ofString "__firstlineno__") 218 (.int 4 217), hE P (Str.ofString "__static_attributes__") 219 (.ref 35), hE P (Str.ofString "__doc__") 220 .none]) 2 }
noncomputable def ob35 : Obj := { cls := (.type "type"), data := (.cls { name := (Str.ofString "NoFraction"), bases := [(.ref 24)], mro := [(.ref 37), (.ref 24), (.type "ValueError"), (.type "Exception"), (.type "BaseException"), (.type "object")], ns := 36, qualname := (Str.ofString "NoFraction"), hasDict := true, slotNames := [], subclasses := [], abstract := false, collection := none, hasDel := false }), slots := #[(some (.ref 28)), none, (some (.str (Str.ofString "NoFraction") 207)), (some (.str (Str.ofString "NoFraction") 215)), (some (.builtin "ValueError.__new__")), (some (.bool true))] }
noncomputable def ob36 : Obj := { cls := (.type "super"), data := (.fields #[(.ref 37), (.ref 37), (.ref 37)]) }
noncomputable def ob37 : Obj := { cls := (.type "builtin_function_or_method"), data := (.fields #[(.builtin "object.__init_subclass__"), (.ref 37)]) }
noncomputable def ob38 (P : Params) : Obj := { cls := (.type "dict"), data := .dict (List.toArray (hE P (Str.ofString "__name__") 165 (.str (Str.ofString "spotlook.spots") 274) :: (en3 P).take 16)) 17 }
noncomputable def ob39 : Obj := { cls := .none, data := .fields (List.toArray (fl12.take 24)) }
noncomputable def ob40 : Obj := { cls := (.type "type"), data := (.cls { name := (Str.ofString "SpotError"), bases := [(.type "ValueError")], mro := [(.ref 24), (.type "ValueError"), (.type "Exception"), (.type "BaseException"), (.type "object")], ns := 23, qualname := (Str.ofString "SpotError"), hasDict := true, slotNames := [], subclasses := [(.ref 37), (.ref 49)], abstract := false, collection := none, hasDel := false }), slots := #[(some (.ref 15)), none, (some (.str (Str.ofString "SpotError") 189)), (some (.str (Str.ofString "SpotError") 197)), (some (.builtin "ValueError.__new__")), (some (.bool true))] }
noncomputable def ob41 (P : Params) : Obj := { cls := (.type "dict"), data := .dict (List.toArray [hE P (Str.ofString "__module__") 230 (.str (Str.ofString "spotlook.errors") 187), hE P (Str.ofString "__qualname__") 232 (.str (Str.ofString "NoWall") 231), hE P (Str.ofString "__firstlineno__") 234 (.int 6 233), hE P (Str.ofString "__static_attributes__") 235 (.ref 47)]) 4 }
noncomputable def ob42 : Obj := { cls := (.type "code"), data := (.fields #[(.str (Str.ofString "NoWall") 225), (.str (Str.ofString "NoWall") 226), (.str (Str.ofString "/claim/cut.py") 227), (.int 6 0), (.int 0 0), (.int 0 0), (.int 0 0), (.int 0 0), (.ref 43), (.bool false), (.int 181 0), (.ref 44), .none, .none, .none, .none, (.int 228 0), (.int 6 0), (.str (Str.ofString "/claim/cut.py") 229)]) }
noncomputable def ob43 : Obj := { cls := (.type "frame"), slots := #[(some (.ref 45)), (some (.ref 3)), (some (.ref 42)), none, (some (.str (Str.ofString "spotlook.errors") 187)), none, (some (.ref 0))] }
noncomputable def ob44 (P : Params) : Obj := { cls := (.type "dict"), data := .dict (List.toArray [hE P (Str.ofString "__module__") 230 (.str (Str.ofString "spotlook.errors") 187), hE P (Str.ofString "__firstlineno__") 234 (.int 6 233), hE P (Str.ofString "__static_attributes__") 235 (.ref 47), hE P (Str.ofString "__doc__") 236 .none]) 2 }
noncomputable def ob45 : Obj := { cls := (.type "type"), data := (.cls { name := (Str.ofString "NoWall"), bases := [(.ref 24)], mro := [(.ref 49), (.ref 24), (.type "ValueError"), (.type "Exception"), (.type "BaseException"), (.type "object")], ns := 48, qualname := (Str.ofString "NoWall"), hasDict := true, slotNames := [], subclasses := [], abstract := false, collection := none, hasDel := false }), slots := #[(some (.ref 40)), none, (some (.str (Str.ofString "NoWall") 223)), (some (.str (Str.ofString "NoWall") 231)), (some (.builtin "ValueError.__new__")), (some (.bool true))] }
noncomputable def ob46 : Obj := { cls := (.type "super"), data := (.fields #[(.ref 49), (.ref 49), (.ref 49)]) }
noncomputable def ob47 : Obj := { cls := (.type "builtin_function_or_method"), data := (.fields #[(.builtin "object.__init_subclass__"), (.ref 49)]) }
noncomputable def ob48 : Obj := kTu [(.str (Str.ofString "one") 244), (.str (Str.ofString "other") 245)]
noncomputable def ob49 : Obj := hF .none st5 (Str.ofString "greatest_divisor") 0 .none .none
noncomputable def ob50 : Obj := hC (Str.ofString "greatest_divisor") 241 242 243 247 52 53 54 55 56 9 2 0 0 3 181 246 9 true
noncomputable def ob51 : Obj := hF (.type "function") st5 (Str.ofString "greatest_divisor") 3 (.str (Str.ofString "spotlook.fractions") 239) (.ref 57)
noncomputable def ob52 : Obj := kTu [(.str (Str.ofString "top") 252), (.str (Str.ofString "bottom") 253), (.str (Str.ofString "divisor") 254)]
noncomputable def ob53 : Obj := hF .none st6 (Str.ofString "fraction") 0 .none .none
noncomputable def ob54 : Obj := hC (Str.ofString "fraction") 249 250 251 256 59 60 61 62 63 13 2 0 0 3 181 255 13 true
noncomputable def ob55 : Obj := hF (.type "function") st6 (Str.ofString "fraction") 3 (.str (Str.ofString "spotlook.fractions") 239) (.ref 64)
noncomputable def ob56 : Obj := kTu [(.str (Str.ofString "one") 261), (.str (Str.ofString "other") 262)]
noncomputable def ob57 : Obj := hF .none st7 (Str.ofString "plus") 0 .none .none
noncomputable def ob58 : Obj := hC (Str.ofString "plus") 258 259 260 264 66 67 68 69 70 20 2 0 0 3 181 263 20 true
noncomputable def ob59 : Obj := hF (.type "function") st7 (Str.ofString "plus") 3 (.str (Str.ofString "spotlook.fractions") 239) (.ref 71)
noncomputable def ob60 : Obj := kTu [(.str (Str.ofString "one") 269), (.str (Str.ofString "other") 270)]
noncomputable def ob61 : Obj := hF .none st8 (Str.ofString "is_less") 0 .none .none
noncomputable def ob62 : Obj := hC (Str.ofString "is_less") 266 267 268 272 73 74 75 76 77 22 2 0 0 3 181 271 22 true
noncomputable def ob63 : Obj := hF (.type "function") st8 (Str.ofString "is_less") 3 (.str (Str.ofString "spotlook.fractions") 239) (.ref 78)
noncomputable def ob64 : Obj := kTu [(.str (Str.ofString "one") 279), (.str (Str.ofString "other") 280)]
noncomputable def ob65 : Obj := hF .none st10 (Str.ofString "is_ahead") 0 .none .none
noncomputable def ob66 : Obj := hC (Str.ofString "is_ahead") 276 277 278 282 80 81 82 83 84 25 2 0 0 3 181 281 25 true
noncomputable def ob67 : Obj := hF (.type "function") st10 (Str.ofString "is_ahead") 3 (.str (Str.ofString "spotlook.spots") 274) (.ref 85)
noncomputable def ob68 (P : Params) : Obj := { cls := (.type "dict"), data := .dict (List.toArray (hE P (Str.ofString "__name__") 165 (.str (Str.ofString "law_spotlook_k60_plots_moved_mirrored_turned") 371) :: (en3 P).take 28)) 29 }
noncomputable def ob69 : Obj := { cls := .none, data := .fields (List.toArray (fl12.take 60)) }
noncomputable def ob70 : Obj := kTu [(.str (Str.ofString "spot") 287), (.str (Str.ofString "x") 288), (.str (Str.ofString "y") 289)]
noncomputable def ob71 : Obj := hF .none st11 (Str.ofString "own_spot") 0 .none .none
noncomputable def ob72 : Obj := hC (Str.ofString "own_spot") 284 285 286 291 87 88 89 90 91 29 1 0 0 3 181 290 29 true
noncomputable def ob73 : Obj := hF (.type "function") st11 (Str.ofString "own_spot") 3 (.str (Str.ofString "spotlook.spots") 274) (.ref 92)
noncomputable def ob74 : Obj := kTu [(.str (Str.ofString "wall") 296)]
noncomputable def ob75 : Obj := hF .none st12 (Str.ofString "own_wall") 0 .none .none
noncomputable def ob76 : Obj := hC (Str.ofString "own_wall") 293 294 295 298 94 95 96 97 98 32 1 0 0 3 181 297 32 true
noncomputable def ob77 : Obj := hF (.type "function") st12 (Str.ofString "own_wall") 3 (.str (Str.ofString "spotlook.spots") 274) (.ref 99)
noncomputable def ob78 : Obj := kTu [(.str (Str.ofString "one") 303), (.str (Str.ofString "other") 304)]
noncomputable def ob79 : Obj := hF .none st13 (Str.ofString "wall_of") 0 .none .none
noncomputable def ob80 : Obj := hC (Str.ofString "wall_of") 300 301 302 306 101 102 103 104 105 34 2 0 0 3 181 305 34 true
noncomputable def ob81 : Obj := hF (.type "function") st13 (Str.ofString "wall_of") 3 (.str (Str.ofString "spotlook.spots") 274) (.ref 106)
noncomputable def ob82 : Obj := hF .none st15 (Str.ofString "own_plot") 0 .none .none
noncomputable def ob83 : Obj := { cls := (.type "code"), data := (.fields #[(.str (Str.ofString "own_plot") 310), (.str (Str.ofString "own_plot") 311), (.str (Str.ofString "/claim/cut.py") 312), (.int 41 0), (.int 1 0), (.int 0 0), (.int 0 0), (.int 3 0), (.ref 108), (.bool true), (.int 181 0), (.ref 109), .none, .none, .none, (.ref 110), (.int 313 0), (.int 41 0), (.str (Str.ofString "/claim/cut.py") 314)]) }
noncomputable def ob84 : Obj := hF (.type "function") st15 (Str.ofString "own_plot") 3 (.str (Str.ofString "spotlook.plots") 308) (.ref 111)
noncomputable def ob85 : Obj := kTu [(.str (Str.ofString "spot") 321), (.str (Str.ofString "x") 322), (.str (Str.ofString "y") 323)]
noncomputable def ob86 : Obj := hF .none st17 (Str.ofString "mirrored_spot") 0 .none .none
noncomputable def ob87 : Obj := hC (Str.ofString "mirrored_spot") 318 319 320 325 113 114 115 116 117 44 1 0 0 3 181 324 44 true
noncomputable def ob88 : Obj := hF (.type "function") st17 (Str.ofString "mirrored_spot") 3 (.str (Str.ofString "spotlook.moving") 316) (.ref 118)
noncomputable def ob89 : Obj := kTu [(.str (Str.ofString "spot") 330), (.str (Str.ofString "x") 331), (.str (Str.ofString "y") 332)]
noncomputable def ob90 : Obj := hF .none st18 (Str.ofString "turned_spot") 0 .none .none
noncomputable def ob91 : Obj := hC (Str.ofString "turned_spot") 327 328 329 334 120 121 122 123 124 47 1 0 0 3 181 333 47 true
noncomputable def ob92 : Obj := hF (.type "function") st18 (Str.ofString "turned_spot") 3 (.str (Str.ofString "spotlook.moving") 316) (.ref 125)
noncomputable def ob93 : Obj := hF .none st19 (Str.ofString "with_spots") 0 .none .none
noncomputable def ob94 : Obj := { cls := (.type "code"), data := (.fields #[(.str (Str.ofString "with_spots") 336), (.str (Str.ofString "with_spots") 337), (.str (Str.ofString "/claim/cut.py") 338), (.int 50 0), (.int 2 0), (.int 0 0), (.int 0 0), (.int 3 0), (.ref 127), (.bool true), (.int 181 0), (.ref 128), .none, .none, .none, (.ref 129), (.int 339 0), (.int 50 0), (.str (Str.ofString "/claim/cut.py") 340)]) }
noncomputable def ob95 : Obj := hF (.type "function") st19 (Str.ofString "with_spots") 3 (.str (Str.ofString "spotlook.moving") 316) (.ref 130)
noncomputable def ob96 : Obj := kTu [(.str (Str.ofString "plot") 345), (.str (Str.ofString "spot") 346)]
noncomputable def ob97 : Obj := kTu [(.str (Str.ofString "spot") 347)]
noncomputable def ob98 : Obj := hF .none st20 (Str.ofString "moved") 0 .none .none
noncomputable def ob99 : Obj := hC (Str.ofString "moved") 342 343 344 349 132 133 134 135 136 52 2 0 0 3 181 348 52 true
noncomputable def ob100 : Obj := hF (.type "function") st20 (Str.ofString "moved") 3 (.str (Str.ofString "spotlook.moving") 316) (.ref 137)
noncomputable def ob101 : Obj := kTu [(.str (Str.ofString "plot") 354)]
noncomputable def ob102 : Obj := hF .none st21 (Str.ofString "mirrored") 0 .none .none
noncomputable def ob103 : Obj := hC (Str.ofString "mirrored") 351 352 353 356 139 140 141 142 143 54 1 0 0 3 181 355 54 true
noncomputable def ob104 : Obj := hF (.type "function") st21 (Str.ofString "mirrored") 3 (.str (Str.ofString "spotlook.moving") 316) (.ref 144)
noncomputable def ob105 : Obj := kTu [(.str (Str.ofString "plot") 361)]
noncomputable def ob106 : Obj := hF .none st22 (Str.ofString "turned") 0 .none .none
noncomputable def ob107 : Obj := hC (Str.ofString "turned") 358 359 360 363 146 147 148 149 150 56 1 0 0 3 181 362 56 true
noncomputable def ob108 : Obj := hF (.type "function") st22 (Str.ofString "turned") 3 (.str (Str.ofString "spotlook.moving") 316) (.ref 151)
noncomputable def ob109 : Obj := hF .none st23 (Str.ofString "in_order") 0 .none .none
noncomputable def ob110 : Obj := { cls := (.type "code"), data := (.fields #[(.str (Str.ofString "in_order") 365), (.str (Str.ofString "in_order") 366), (.str (Str.ofString "/claim/cut.py") 367), (.int 58 0), (.int 2 0), (.int 0 0), (.int 0 0), (.int 3 0), (.ref 153), (.bool true), (.int 181 0), (.ref 154), .none, .none, .none, (.ref 155), (.int 368 0), (.int 58 0), (.str (Str.ofString "/claim/cut.py") 369)]) }
noncomputable def ob111 : Obj := hF (.type "function") st23 (Str.ofString "in_order") 3 (.str (Str.ofString "spotlook.moving") 316) (.ref 156)
noncomputable def ob112 : Obj := kTu [(.str (Str.ofString "_law_script") 376), (.str (Str.ofString "_law_k") 377), (.str (Str.ofString "_law_cell") 378)]
noncomputable def ob113 : Obj := hF .none st25 (Str.ofString "_law_pot") 0 .none .none
noncomputable def ob114 : Obj := hC (Str.ofString "_law_pot") 373 374 375 380 158 159 160 161 162 61 2 0 0 3 181 379 61 true
noncomputable def ob115 : Obj := hF (.type "function") st25 (Str.ofString "_law_pot") 3 (.str (Str.ofString "law_spotlook_k60_plots_moved_mirrored_turned") 371) (.ref 163)
noncomputable def ob116 (P : Params) : Obj := { cls := (.type "dict"), data := .dict (List.toArray (hE P (Str.ofString "__name__") 165 (.str (Str.ofString "law_spotlook_k60_plots_moved_mirrored_turned") 371) :: (en3 P).take 41)) 42 }
noncomputable def ob117 : Obj := { cls := .none, data := .fields (List.toArray (fl12.take 99)) }
noncomputable def ob118 : Obj := kTu [(.str (Str.ofString "_law_pot_here") 385), (.str (Str.ofString "_law_size") 386), (.str (Str.ofString "_law_digit") 387), (.str (Str.ofString "_law_mixed") 388)]
noncomputable def ob119 : Obj := hF .none st26 (Str.ofString "_law_take") 0 .none .none
noncomputable def ob120 : Obj := hC (Str.ofString "_law_take") 382 383 384 390 165 166 167 168 169 66 2 0 0 3 181 389 66 true
noncomputable def ob121 : Obj := hF (.type "function") st26 (Str.ofString "_law_take") 3 (.str (Str.ofString "law_spotlook_k60_plots_moved_mirrored_turned") 371) (.ref 170)
noncomputable def ob122 : Obj := kTu [(.str (Str.ofString "_law_shut") 395), (.str (Str.ofString "_law_spot") 396), (.str (Str.ofString "_law_a") 397), (.str (Str.ofString "_law_b") 398), (.str (Str.ofString "_law_c") 399), (.str (Str.ofString "_law_d") 400), (.str (Str.ofString "_law_way") 401)]
noncomputable def ob123 : Obj := hF .none st27 (Str.ofString "_law_side") 0 .none .none
noncomputable def ob124 : Obj := hC (Str.ofString "_law_side") 392 393 394 403 172 173 174 175 176 75 2 0 0 3 181 402 75 true
noncomputable def ob125 : Obj := hF (.type "function") st27 (Str.ofString "_law_side") 3 (.str (Str.ofString "law_spotlook_k60_plots_moved_mirrored_turned") 371) (.ref 177)
noncomputable def ob126 : Obj := kTu [(.str (Str.ofString "_law_shut") 408), (.str (Str.ofString "_law_spot") 409)]
noncomputable def ob127 : Obj := hF .none st28 (Str.ofString "_law_on") 0 .none .none
noncomputable def ob128 : Obj := hC (Str.ofString "_law_on") 405 406 407 411 179 180 181 182 183 80 2 0 0 3 181 410 80 true
noncomputable def ob129 : Obj := hF (.type "function") st28 (Str.ofString "_law_on") 3 (.str (Str.ofString "law_spotlook_k60_plots_moved_mirrored_turned") 371) (.ref 184)
noncomputable def ob130 : Obj := kTu [(.str (Str.ofString "_law_one") 416), (.str (Str.ofString "_law_other") 417), (.str (Str.ofString "_law_shut") 418), (.str (Str.ofString "_law_ends") 419), (.str (Str.ofString "_law_spot") 420), (.str (Str.ofString "_law_both") 421)]
noncomputable def ob131 : Obj := hF .none st29 (Str.ofString "_law_apart") 0 .none .none
noncomputable def ob132 : Obj := hC (Str.ofString "_law_apart") 413 414 415 423 186 187 188 189 190 82 2 0 0 3 181 422 82 true
noncomputable def ob133 : Obj := hF (.type "function") st29 (Str.ofString "_law_apart") 3 (.str (Str.ofString "law_spotlook_k60_plots_moved_mirrored_turned") 371) (.ref 191)
noncomputable def ob134 : Obj := kTu [(.str (Str.ofString "_law_pot_here") 428), (.str (Str.ofString "_law_wide") 429)]
noncomputable def ob135 : Obj := hF .none st30 (Str.ofString "_law_new_spot") 0 .none .none
noncomputable def ob136 : Obj := hC (Str.ofString "_law_new_spot") 425 426 427 431 193 194 195 196 197 89 2 0 0 3 181 430 89 true
noncomputable def ob137 : Obj := hF (.type "function") st30 (Str.ofString "_law_new_spot") 3 (.str (Str.ofString "law_spotlook_k60_plots_moved_mirrored_turned") 371) (.ref 198)
noncomputable def ob138 : Obj := kTu [(.str (Str.ofString "_law_pot_here") 436), (.str (Str.ofString "_law_shuts") 437), (.str (Str.ofString "_law_wide") 438)]
noncomputable def ob139 : Obj := hF .none st31 (Str.ofString "_law_some_spot") 0 .none .none
noncomputable def ob140 : Obj := hC (Str.ofString "_law_some_spot") 433 434 435 440 200 201 202 203 204 91 3 0 0 3 181 439 91 true
noncomputable def ob141 : Obj := hF (.type "function") st31 (Str.ofString "_law_some_spot") 3 (.str (Str.ofString "law_spotlook_k60_plots_moved_mirrored_turned") 371) (.ref 205)
noncomputable def ob142 : Obj := kTu [(.str (Str.ofString "_law_pot_here") 445), (.str (Str.ofString "_law_wide") 446), (.str (Str.ofString "_law_x") 447), (.str (Str.ofString "_law_y") 448), (.str (Str.ofString "_law_far") 449)]
noncomputable def ob143 : Obj := hF .none st32 (Str.ofString "_law_square") 0 .none .none
noncomputable def ob144 : Obj := hC (Str.ofString "_law_square") 442 443 444 451 207 208 209 210 211 95 2 0 0 3 181 450 95 true
noncomputable def ob145 : Obj := hF (.type "function") st32 (Str.ofString "_law_square") 3 (.str (Str.ofString "law_spotlook_k60_plots_moved_mirrored_turned") 371) (.ref 212)
noncomputable def ob146 : Obj := hF .none st33 (Str.ofString "_law_laid") 0 .none .none
noncomputable def ob147 : Obj := { cls := (.type "code"), data := (.fields #[(.str (Str.ofString "_law_laid") 453), (.str (Str.ofString "_law_laid") 454), (.str (Str.ofString "/claim/cut.py") 455), (.int 101 0), (.int 3 0), (.int 0 0), (.int 0 0), (.int 3 0), (.ref 214), (.bool true), (.int 181 0), (.ref 215), .none, .none, .none, (.ref 216), (.int 456 0), (.int 101 0), (.str (Str.ofString "/claim/cut.py") 457)]) }
noncomputable def ob148 : Obj := hF (.type "function") st33 (Str.ofString "_law_laid") 3 (.str (Str.ofString "law_spotlook_k60_plots_moved_mirrored_turned") 371) (.ref 217)
noncomputable def ob149 : Obj := hF .none st34 (Str.ofString "_law_shuts_here") 0 .none .none
noncomputable def ob150 : Obj := { cls := (.type "code"), data := (.fields #[(.str (Str.ofString "_law_shuts_here") 459), (.str (Str.ofString "_law_shuts_here") 460), (.str (Str.ofString "/claim/cut.py") 461), (.int 106 0), (.int 2 0), (.int 0 0), (.int 0 0), (.int 3 0), (.ref 219), (.bool true), (.int 181 0), (.ref 220), .none, .none, .none, (.ref 221), (.int 462 0), (.int 106 0), (.str (Str.ofString "/claim/cut.py") 463)]) }
noncomputable def ob151 : Obj := hF (.type "function") st34 (Str.ofString "_law_shuts_here") 3 (.str (Str.ofString "law_spotlook_k60_plots_moved_mirrored_turned") 371) (.ref 222)
noncomputable def ob152 : Obj := kTu [(.str (Str.ofString "_law_top") 468), (.str (Str.ofString "_law_bottom") 469), (.str (Str.ofString "_law_one") 470), (.str (Str.ofString "_law_other") 471)]
noncomputable def ob153 : Obj := hF .none st35 (Str.ofString "_law_frac") 0 .none .none
noncomputable def ob154 : Obj := hC (Str.ofString "_law_frac") 465 466 467 473 224 225 226 227 228 118 2 0 0 3 181 472 118 true
noncomputable def ob155 : Obj := hF (.type "function") st35 (Str.ofString "_law_frac") 3 (.str (Str.ofString "law_spotlook_k60_plots_moved_mirrored_turned") 371) (.ref 229)
noncomputable def ob156 : Obj := hF .none st36 (Str.ofString "_law_frame") 0 .none .none
noncomputable def ob157 : Obj := { cls := (.type "code"), data := (.fields #[(.str (Str.ofString "_law_frame") 475), (.str (Str.ofString "_law_frame") 476), (.str (Str.ofString "/claim/cut.py") 477), (.int 124 0), (.int 2 0), (.int 0 0), (.int 0 0), (.int 3 0), (.ref 231), (.bool true), (.int 181 0), (.ref 232), .none, .none, .none, (.ref 233), (.int 478 0), (.int 124 0), (.str (Str.ofString "/claim/cut.py") 479)]) }
noncomputable def ob158 : Obj := hF (.type "function") st36 (Str.ofString "_law_frame") 3 (.str (Str.ofString "law_spotlook_k60_plots_moved_mirrored_turned") 371) (.ref 234)
noncomputable def ob159 : Obj := kTu [(.str (Str.ofString "_law_frame_here") 484), (.str (Str.ofString "_law_spot") 485), (.str (Str.ofString "_law_p") 486), (.str (Str.ofString "_law_q") 487), (.str (Str.ofString "_law_s") 488), (.str (Str.ofString "_law_t") 489)]
noncomputable def ob160 : Obj := hF .none st37 (Str.ofString "_law_given") 0 .none .none
noncomputable def ob161 : Obj := hC (Str.ofString "_law_given") 481 482 483 491 236 237 238 239 240 133 2 0 0 3 181 490 133 true
noncomputable def ob162 : Obj := hF (.type "function") st37 (Str.ofString "_law_given") 3 (.str (Str.ofString "law_spotlook_k60_plots_moved_mirrored_turned") 371) (.ref 241)
noncomputable def ob163 : Obj := hF .none st38 (Str.ofString "_law_plot") 0 .none .none
noncomputable def ob164 : Obj := { cls := (.type "code"), data := (.fields #[(.str (Str.ofString "_law_plot") 493), (.str (Str.ofString "_law_plot") 494), (.str (Str.ofString "/claim/cut.py") 495), (.int 136 0), (.int 2 0), (.int 0 0), (.int 0 0), (.int 3 0), (.ref 243), (.bool true), (.int 181 0), (.ref 244), .none, .none, .none, (.ref 245), (.int 496 0), (.int 136 0), (.str (Str.ofString "/claim/cut.py") 497)]) }
noncomputable def ob165 : Obj := hF (.type "function") st38 (Str.ofString "_law_plot") 3 (.str (Str.ofString "law_spotlook_k60_plots_moved_mirrored_turned") 371) (.ref 246)
noncomputable def ob166 (P : Params) : Obj := { cls := (.type "dict"), data := .dict (List.toArray (hE P (Str.ofString "__name__") 165 (.str (Str.ofString "law_spotlook_k60_plots_moved_mirrored_turned") 371) :: (en3 P).take 49)) 50 }
noncomputable def ob167 : Obj := { cls := .none, data := .fields (List.toArray (fl12.take 123)) }
noncomputable def ob168 : Obj := kTu [(.str (Str.ofString "_law_found") 502), (.str (Str.ofString "_law_due") 503)]
noncomputable def ob169 : Obj := hF .none st39 (Str.ofString "_law_same") 0 .none .none
noncomputable def ob170 : Obj := hC (Str.ofString "_law_same") 499 500 501 505 248 249 250 251 252 138 2 0 0 3 181 504 138 true
noncomputable def ob171 : Obj := hF (.type "function") st39 (Str.ofString "_law_same") 3 (.str (Str.ofString "law_spotlook_k60_plots_moved_mirrored_turned") 371) (.ref 253)
noncomputable def ob172 : Obj := kTu [(.str (Str.ofString "_law_spot") 510), (.str (Str.ofString "_law_kind") 511), (.str (Str.ofString "_law_far") 512)]
noncomputable def ob173 : Obj := hF .none st40 (Str.ofString "_law_moved_spot") 0 .none .none
noncomputable def ob174 : Obj := hC (Str.ofString "_law_moved_spot") 507 508 509 514 255 256 257 258 259 140 3 0 0 3 181 513 140 true
noncomputable def ob175 : Obj := hF (.type "function") st40 (Str.ofString "_law_moved_spot") 3 (.str (Str.ofString "law_spotlook_k60_plots_moved_mirrored_turned") 371) (.ref 260)
noncomputable def ob176 : Obj := hF .none st41 (Str.ofString "_law_moved_shuts") 0 .none .none
noncomputable def ob177 : Obj := { cls := (.type "code"), data := (.fields #[(.str (Str.ofString "_law_moved_shuts") 516), (.str (Str.ofString "_law_moved_shuts") 517), (.str (Str.ofString "/claim/cut.py") 518), (.int 146 0), (.int 3 0), (.int 0 0), (.int 0 0), (.int 3 0), (.ref 262), (.bool true), (.int 181 0), (.ref 263), .none, .none, .none, (.ref 264), (.int 519 0), (.int 146 0), (.str (Str.ofString "/claim/cut.py") 520)]) }
noncomputable def ob178 : Obj := hF (.type "function") st41 (Str.ofString "_law_moved_shuts") 3 (.str (Str.ofString "law_spotlook_k60_plots_moved_mirrored_turned") 371) (.ref 265)
noncomputable def ob179 : Obj := kTu [(.str (Str.ofString "_law_pot_here") 525), (.str (Str.ofString "_law_many") 526), (.str (Str.ofString "_law_p") 527), (.str (Str.ofString "_law_q") 528), (.str (Str.ofString "_law_s") 529), (.str (Str.ofString "_law_t") 530)]
noncomputable def ob180 : Obj := hF .none st42 (Str.ofString "_law_frames") 0 .none .none
noncomputable def ob181 : Obj := hC (Str.ofString "_law_frames") 522 523 524 532 267 268 269 270 271 152 2 0 0 3 181 531 152 true
noncomputable def ob182 : Obj := hF (.type "function") st42 (Str.ofString "_law_frames") 3 (.str (Str.ofString "law_spotlook_k60_plots_moved_mirrored_turned") 371) (.ref 272)
noncomputable def ob183 : Obj := kTu [(.str (Str.ofString "_law_pot_here") 537), (.str (Str.ofString "_law_many") 538), (.str (Str.ofString "_law_found") 539), (.str (Str.ofString "_law_k") 540)]
noncomputable def ob184 : Obj := hF .none st43 (Str.ofString "_law_order") 0 .none .none
noncomputable def ob185 : Obj := hC (Str.ofString "_law_order") 534 535 536 542 274 275 276 277 278 155 2 0 0 3 181 541 155 true
noncomputable def ob186 : Obj := hF (.type "function") st43 (Str.ofString "_law_order") 3 (.str (Str.ofString "law_spotlook_k60_plots_moved_mirrored_turned") 371) (.ref 279)
noncomputable def ob187 : Obj := kTu [(.str (Str.ofString "_law_plot_here") 547), (.str (Str.ofString "_law_shuts") 548), (.str (Str.ofString "_law_frames_here") 549), (.str (Str.ofString "_law_far") 550), (.str (Str.ofString "_law_told") 551), (.str (Str.ofString "_law_kind") 552)]
noncomputable def ob188 : Obj := hF .none st44 (Str.ofString "_law_right") 0 .none .none
noncomputable def ob189 : Obj := hC (Str.ofString "_law_right") 544 545 546 554 281 282 283 284 285 160 5 0 0 3 181 553 160 true
noncomputable def ob190 : Obj := hF (.type "function") st44 (Str.ofString "_law_right") 3 (.str (Str.ofString "law_spotlook_k60_plots_moved_mirrored_turned") 371) (.ref 286)
noncomputable def ob191 : Obj := hF .none st45 (Str.ofString "_law_squares") 0 .none .none
noncomputable def ob192 : Obj := { cls := (.type "code"), data := (.fields #[(.str (Str.ofString "_law_squares") 556), (.str (Str.ofString "_law_squares") 557), (.str (Str.ofString "/claim/cut.py") 558), (.int 165 0), (.int 2 0), (.int 0 0), (.int 0 0), (.int 3 0), (.ref 288), (.bool true), (.int 181 0), (.ref 289), .none, .none, .none, (.ref 290), (.int 559 0), (.int 165 0), (.str (Str.ofString "/claim/cut.py") 560)]) }
noncomputable def ob193 : Obj := hF (.type "function") st45 (Str.ofString "_law_squares") 3 (.str (Str.ofString "law_spotlook_k60_plots_moved_mirrored_turned") 371) (.ref 291)
noncomputable def ob194 : Obj := hF .none st46 (Str.ofString "law") 0 .none .none
noncomputable def ob195 : Obj := { cls := (.type "code"), data := (.fields #[(.str (Str.ofString "law") 562), (.str (Str.ofString "law") 563), (.str (Str.ofString "/claim/cut.py") 564), (.int 176 0), (.int 1 0), (.int 0 0), (.int 0 0), (.int 3 0), (.ref 293), (.bool true), (.int 181 0), (.ref 294), .none, .none, .none, (.ref 295), (.int 565 0), (.int 176 0), (.str (Str.ofString "/claim/cut.py") 566)]) }
noncomputable def ob196 : Obj := hF (.type "function") st46 (Str.ofString "law") 3 (.str (Str.ofString "law_spotlook_k60_plots_moved_mirrored_turned") 371) (.ref 296)
noncomputable def oL0 (P : Params) : List Obj := [PySem.W.boot_o_0 P, PySem.W.boot_o_1 P, PySem.W.boot_o_2 P, PySem.W.boot_o_3 P, PySem.W.boot_o_4 P, PySem.W.boot_o_5 P, PySem.W.boot_o_6 P, PySem.W.boot_o_7 P, PySem.W.boot_o_8 P, PySem.W.boot_o_9 P, PySem.W.boot_o_10 P, ob11, ob12, ob13, ob14, ob15 P]
noncomputable def oL1 (P : Params) : List Obj := [ob16, ob17, ob18, ob19 P, ob20, ob21, ob22 P, ob23, ob24, ob25, ob26, ob27 P, ob28, ob29, ob30, ob31 P]
noncomputable def oL2 (P : Params) : List Obj := [ob32, ob33, ob34 P, ob35, ob36, ob37, ob38 P, ob39, ob40, ob41 P, ob42, ob43, ob44 P, ob45, ob46, ob47]
noncomputable def oL3 (P : Params) : List Obj := [ob48, ob49, ob50, ob51, ob52, ob53, ob54, ob55, ob56, ob57, ob58, ob59, ob60, ob61, ob62, ob63]
noncomputable def oL4 (P : Params) : List Obj := [ob64, ob65, ob66, ob67, ob68 P, ob69, ob70, ob71, ob72, ob73, ob74, ob75, ob76, ob77, ob78, ob79]
noncomputable def oL5 (P : Params) : List Obj := [ob80, ob81, ob82, ob83, ob84, ob85, ob86, ob87, ob88, ob89, ob90, ob91, ob92, ob93, ob94, ob95]
noncomputable def oL6 (P : Params) : List Obj := [ob96, ob97, ob98, ob99, ob100, ob101, ob102, ob103, ob104, ob105, ob106, ob107, ob108, ob109, ob110, ob111]
noncomputable def oL7 (P : Params) : List Obj := [ob112, ob113, ob114, ob115, ob116 P, ob117, ob118, ob119, ob120, ob121, ob122, ob123, ob124, ob125, ob126, ob127]
noncomputable def oL8 (P : Params) : List Obj := [ob128, ob129, ob130, ob131, ob132, ob133, ob134, ob135, ob136, ob137, ob138, ob139, ob140, ob141, ob142, ob143]
noncomputable def oL9 (P : Params) : List Obj := [ob144, ob145, ob146, ob147, ob148, ob149, ob150, ob151, ob152, ob153, ob154, ob155, ob156, ob157, ob158, ob159]
noncomputable def oL10 (P : Params) : List Obj := [ob160, ob161, ob162, ob163, ob164, ob165, ob166 P, ob167, ob168, ob169, ob170, ob171, ob172, ob173, ob174, ob175]
noncomputable def oL11 (P : Params) : List Obj := [ob176, ob177, ob178, ob179, ob180, ob181, ob182, ob183, ob184, ob185, ob186, ob187, ob188, ob189, ob190, ob191]
noncomputable def oL12 (P : Params) : List Obj := [ob192, ob193, ob194, ob195, ob196]
noncomputable def fA (c i : Nat) (P : Params) : Obj := (([oL0 P, oL1 P, oL2 P, oL3 P, oL4 P, oL5 P, oL6 P, oL7 P, oL8 P, oL9 P, oL10 P, oL11 P, oL12 P] : List (List Obj)).getD c []).getD i { cls := .none }
noncomputable def tW0 (n : Nat → Nat → PySem.W.BT → PySem.W.BT → PySem.W.BT) (e : PySem.W.BT) : PySem.W.BT := (n 0 0 (n 0 1 (n 0 3 (n 0 7 e e) (n 0 11 e e)) (n 0 5 (n 0 9 e e) (n 0 13 e e))) (n 0 2 (n 0 4 (n 0 8 e e) (n 0 12 e e)) (n 0 6 (n 0 10 e e) (n 0 14 e e))))
noncomputable def tX0 (f : Nat → Nat → Params → Obj) (P : Params) : PySem.W.BT := tW0 (fun c i => .node (f c i P)) .nil
noncomputable def tW1 (n : Nat → Nat → PySem.W.BT → PySem.W.BT → PySem.W.BT) (e : PySem.W.BT) : PySem.W.BT := (n 0 0 (n 0 1 (n 0 15 (n 0 7 (n 1 1 e e) (n 1 6 e e)) (n 0 11 (n 0 12 e e) (n 1 10 e e))) (n 0 5 (n 0 9 (n 1 3 e e) (n 1 8 e e)) (n 0 13 (n 1 5 e e) e))) (n 0 2 (n 0 4 (n 0 8 (n 1 2 e e) (n 1 7 e e)) (n 1 0 (n 1 4 e e) e)) (n 0 6 (n 0 10 (n 0 11 e e) (n 1 9 e e)) (n 0 14 (n 0 11 e e) e))))
noncomputable def tX1 (f : Nat → Nat → Params → Obj) (P : Params) : PySem.W.BT := tW1 (fun c i => .node (f c i P)) .nil
noncomputable def tW2 (n : Nat → Nat → PySem.W.BT → PySem.W.BT → PySem.W.BT) (e : PySem.W.BT) : PySem.W.BT := (n 0 0 (n 0 1 (n 1 11 (n 0 7 (n 1 1 (n 0 11 e e) e) (n 1 6 (n 2 5 e e) e)) (n 0 11 (n 0 12 (n 0 11 e e) e) (n 1 10 e e))) (n 0 5 (n 0 9 (n 1 3 (n 2 0 e e) e) (n 1 8 e e)) (n 0 13 (n 1 5 (n 2 3 e e) e) (n 1 2 e e)))) (n 0 2 (n 0 4 (n 0 8 (n 1 2 (n 0 12 e e) e) (n 1 13 e e)) (n 1 12 (n 1 4 (n 2 2 e e) e) (n 1 14 e e))) (n 0 6 (n 0 10 (n 0 11 (n 2 1 e e) e) (n 1 9 e e)) (n 0 14 (n 0 11 (n 2 4 e e) e) (n 1 15 e e)))))
noncomputable def tX2 (f : Nat → Nat → Params → Obj) (P : Params) : PySem.W.BT := tW2 (fun c i => .node (f c i P)) .nil
noncomputable def tW3 (n : Nat → Nat → PySem.W.BT → PySem.W.BT → PySem.W.BT) (e : PySem.W.BT) : PySem.W.BT := (n 0 0 (n 0 1 (n 2 6 (n 0 7 (n 1 1 (n 0 11 (n 3 5 e e) e) (n 0 11 (n 3 15 e e) e)) (n 1 6 (n 2 5 (n 3 10 e e) e) (n 0 11 e e))) (n 0 11 (n 0 12 (n 0 11 (n 0 12 e e) e) (n 2 15 (n 0 11 e e) e)) (n 1 10 (n 0 11 (n 3 12 e e) e) (n 0 11 e e)))) (n 0 5 (n 0 9 (n 1 3 (n 2 0 (n 3 7 e e) e) (n 2 13 (n 0 12 e e) e)) (n 1 8 (n 1 2 (n 0 11 e e) e) (n 3 2 e e))) (n 0 13 (n 1 5 (n 2 3 (n 0 11 e e) e) (n 0 12 (n 4 2 e e) e)) (n 1 2 (n 2 10 (n 3 13 e e) e) (n 3 4 e e))))) (n 0 2 (n 0 4 (n 0 8 (n 1 2 (n 0 12 (n 3 6 e e) e) (n 2 12 (n 0 11 e e) e)) (n 2 8 (n 1 14 (n 3 11 e e) e) (n 3 1 e e))) (n 2 7 (n 1 4 (n 2 2 (n 3 8 e e) e) (n 0 11 (n 4 1 e e) e)) (n 1 14 (n 0 12 (n 0 11 e e) e) (n 0 12 e e)))) (n 0 6 (n 0 10 (n 0 11 (n 2 1 (n 0 11 e e) e) (n 2 14 (n 4 0 e e) e)) (n 1 9 (n 2 9 (n 0 12 e e) e) (n 3 3 e e))) (n 0 14 (n 0 11 (n 2 4 (n 3 9 e e) e) (n 3 0 (n 4 3 e e) e)) (n 1 15 (n 2 11 (n 3 14 e e) e) (n 0 11 e e))))))
noncomputable def tX3 (f : Nat → Nat → Params → Obj) (P : Params) : PySem.W.BT := tW3 (fun c i => .node (f c i P)) .nil
noncomputable def tW4 (n : Nat → Nat → PySem.W.BT → PySem.W.BT → PySem.W.BT) (e : PySem.W.BT) : PySem.W.BT := (n 0 0 (n 0 1 (n 4 4 (n 0 7 (n 1 1 (n 0 11 (n 3 5 (n 0 11 e e) e) (n 0 12 (n 0 12 e e) e)) (n 0 11 (n 3 15 (n 6 6 e e) e) (n 5 3 e e))) (n 1 6 (n 2 5 (n 3 10 (n 6 1 e e) e) (n 4 14 e e)) (n 0 11 (n 0 11 (n 6 11 e e) e) (n 5 8 e e)))) (n 0 11 (n 0 12 (n 0 11 (n 0 12 (n 5 15 e e) e) (n 4 12 (n 7 2 e e) e)) (n 2 15 (n 0 11 (n 0 12 e e) e) (n 5 5 e e))) (n 1 10 (n 0 11 (n 3 12 (n 0 11 e e) e) (n 5 1 e e)) (n 0 11 (n 4 7 (n 6 13 e e) e) (n 0 11 e e))))) (n 0 5 (n 0 9 (n 1 3 (n 2 0 (n 3 7 (n 5 13 e e) e) (n 0 11 (n 0 11 e e) e)) (n 2 13 (n 0 12 (n 6 8 e e) e) (n 0 11 e e))) (n 1 8 (n 1 2 (n 0 11 (n 6 3 e e) e) (n 4 15 e e)) (n 3 2 (n 4 6 (n 0 11 e e) e) (n 0 12 e e)))) (n 0 13 (n 1 5 (n 2 3 (n 0 11 (n 0 12 e e) e) (n 0 11 e e)) (n 0 12 (n 4 2 (n 0 11 e e) e) (n 5 6 e e))) (n 1 2 (n 2 10 (n 3 13 (n 6 5 e e) e) (n 0 12 e e)) (n 3 4 (n 4 9 (n 6 15 e e) e) (n 5 11 e e)))))) (n 0 2 (n 0 4 (n 0 8 (n 1 2 (n 0 12 (n 3 6 (n 0 12 e e) e) (n 4 10 (n 7 0 e e) e)) (n 2 12 (n 0 11 (n 6 7 e e) e) (n 5 4 e e))) (n 2 8 (n 1 14 (n 3 11 (n 6 2 e e) e) (n 0 11 e e)) (n 3 1 (n 0 12 (n 6 12 e e) e) (n 0 11 e e)))) (n 4 5 (n 1 4 (n 2 2 (n 3 8 (n 0 11 e e) e) (n 4 13 (n 7 3 e e) e)) (n 0 11 (n 4 1 (n 6 9 e e) e) (n 0 11 e e))) (n 1 14 (n 0 12 (n 0 11 (n 0 12 e e) e) (n 0 11 e e)) (n 0 12 (n 4 8 (n 6 14 e e) e) (n 5 10 e e))))) (n 0 6 (n 0 10 (n 0 11 (n 2 1 (n 0 11 (n 5 14 e e) e) (n 4 11 (n 7 1 e e) e)) (n 2 14 (n 4 0 (n 0 11 e e) e) (n 0 12 e e))) (n 1 9 (n 2 9 (n 0 12 (n 6 4 e e) e) (n 5 0 e e)) (n 3 3 (n 0 11 (n 0 12 e e) e) (n 5 9 e e)))) (n 0 14 (n 0 11 (n 2 4 (n 3 9 (n 6 0 e e) e) (n 0 12 e e)) (n 3 0 (n 4 3 (n 6 10 e e) e) (n 5 7 e e))) (n 1 15 (n 2 11 (n 3 14 (n 0 11 e e) e) (n 5 2 e e)) (n 0 11 (n 0 11 (n 0 11 e e) e) (n 5 12 e e)))))))
noncomputable def tX4 (f : Nat → Nat → Params → Obj) (P : Params) : PySem.W.BT := tW4 (fun c i => .node (f c i P)) .nil
noncomputable def tW5 (n : Nat → Nat → PySem.W.BT → PySem.W.BT → PySem.W.BT) (e : PySem.W.BT) : PySem.W.BT := (n 0 0 (n 0 1 (n 7 4 (n 0 7 (n 1 1 (n 0 11 (n 3 5 (n 0 11 e e) (n 8 4 e e)) (n 0 12 (n 0 12 e e) (n 9 7 e e))) (n 0 11 (n 3 15 (n 6 6 e e) (n 0 11 e e)) (n 5 3 (n 0 11 e e) (n 0 11 e e)))) (n 1 6 (n 2 5 (n 3 10 (n 6 1 e e) (n 8 9 e e)) (n 4 14 (n 7 6 e e) (n 0 11 e e))) (n 0 11 (n 0 11 (n 6 11 e e) (n 0 12 e e)) (n 5 8 (n 7 15 e e) (n 10 5 e e))))) (n 0 11 (n 0 12 (n 0 11 (n 0 12 (n 5 15 e e) (n 8 6 e e)) (n 4 12 (n 7 2 e e) (n 0 11 e e))) (n 2 15 (n 0 11 (n 0 12 e e) (n 8 15 e e)) (n 5 5 (n 0 11 e e) (n 0 11 e e)))) (n 1 10 (n 0 11 (n 3 12 (n 0 11 e e) (n 0 11 e e)) (n 5 1 (n 7 9 e e) (n 9 14 e e))) (n 0 11 (n 4 7 (n 6 13 e e) (n 0 11 e e)) (n 0 11 (n 0 12 e e) e))))) (n 0 5 (n 0 9 (n 1 3 (n 2 0 (n 3 7 (n 5 13 e e) (n 0 11 e e)) (n 0 11 (n 0 11 e e) (n 0 12 e e))) (n 2 13 (n 0 12 (n 6 8 e e) (n 8 14 e e)) (n 0 11 (n 7 12 e e) (n 10 1 e e)))) (n 1 8 (n 1 2 (n 0 11 (n 6 3 e e) (n 0 12 e e)) (n 4 15 (n 7 7 e e) (n 9 12 e e))) (n 3 2 (n 4 6 (n 0 11 e e) (n 9 3 e e)) (n 0 12 (n 8 1 e e) e)))) (n 0 13 (n 1 5 (n 2 3 (n 0 11 (n 0 12 e e) (n 8 7 e e)) (n 0 11 (n 0 11 e e) (n 9 10 e e))) (n 0 12 (n 4 2 (n 0 11 e e) (n 9 1 e e)) (n 5 6 (n 7 14 e e) (n 10 3 e e)))) (n 1 2 (n 2 10 (n 3 13 (n 6 5 e e) (n 8 12 e e)) (n 0 12 (n 0 12 e e) (n 0 12 e e))) (n 3 4 (n 4 9 (n 6 15 e e) (n 9 5 e e)) (n 5 11 (n 0 11 e e) e)))))) (n 0 2 (n 0 4 (n 0 8 (n 1 2 (n 0 12 (n 3 6 (n 0 12 e e) (n 8 5 e e)) (n 4 10 (n 7 0 e e) (n 0 11 e e))) (n 2 12 (n 0 11 (n 6 7 e e) (n 0 12 e e)) (n 5 4 (n 7 11 e e) (n 10 0 e e)))) (n 2 8 (n 1 14 (n 3 11 (n 6 2 e e) (n 0 11 e e)) (n 0 11 (n 0 11 e e) (n 0 12 e e))) (n 3 1 (n 0 12 (n 6 12 e e) (n 9 2 e e)) (n 0 11 (n 8 0 e e) e)))) (n 7 5 (n 1 4 (n 2 2 (n 3 8 (n 0 11 e e) (n 0 11 e e)) (n 4 13 (n 7 3 e e) (n 9 9 e e))) (n 0 11 (n 4 1 (n 6 9 e e) (n 9 0 e e)) (n 0 11 (n 0 12 e e) (n 0 12 e e)))) (n 1 14 (n 0 12 (n 0 11 (n 0 12 e e) (n 8 11 e e)) (n 0 11 (n 0 11 e e) (n 0 11 e e))) (n 0 12 (n 4 8 (n 6 14 e e) (n 0 12 e e)) (n 5 10 (n 8 2 e e) e))))) (n 0 6 (n 0 10 (n 0 11 (n 2 1 (n 0 11 (n 5 14 e e) (n 0 12 e e)) (n 4 11 (n 7 1 e e) (n 9 8 e e))) (n 2 14 (n 4 0 (n 0 11 e e) (n 0 11 e e)) (n 0 12 (n 7 13 e e) (n 10 2 e e)))) (n 1 9 (n 2 9 (n 0 12 (n 6 4 e e) (n 8 10 e e)) (n 5 0 (n 7 8 e e) (n 9 13 e e))) (n 3 3 (n 0 11 (n 0 12 e e) (n 9 4 e e)) (n 5 9 (n 0 11 e e) e)))) (n 0 14 (n 0 11 (n 2 4 (n 3 9 (n 6 0 e e) (n 8 8 e e)) (n 0 12 (n 0 12 e e) (n 9 11 e e))) (n 3 0 (n 4 3 (n 6 10 e e) (n 0 11 e e)) (n 5 7 (n 0 11 e e) (n 10 4 e e)))) (n 1 15 (n 2 11 (n 3 14 (n 0 11 e e) (n 8 13 e e)) (n 5 2 (n 7 10 e e) (n 9 15 e e))) (n 0 11 (n 0 11 (n 0 11 e e) (n 9 6 e e)) (n 5 12 (n 8 3 e e) e)))))))
noncomputable def tX5 (f : Nat → Nat → Params → Obj) (P : Params) : PySem.W.BT := tW5 (fun c i => .node (f c i P)) .nil
noncomputable def tW6 (n : Nat → Nat → PySem.W.BT → PySem.W.BT → PySem.W.BT) (e : PySem.W.BT) : PySem.W.BT := (n 0 0 (n 0 1 (n 10 6 (n 0 7 (n 1 1 (n 0 11 (n 3 5 (n 0 11 (n 0 11 e e) e) (n 8 4 e e)) (n 0 12 (n 0 12 (n 11 14 e e) e) (n 9 7 e e))) (n 0 11 (n 3 15 (n 6 6 (n 11 4 e e) e) (n 0 11 e e)) (n 5 3 (n 0 11 e e) (n 0 11 e e)))) (n 1 6 (n 2 5 (n 3 10 (n 6 1 (n 0 12 e e) e) (n 8 9 e e)) (n 4 14 (n 7 6 (n 12 2 e e) e) (n 0 11 e e))) (n 0 11 (n 0 11 (n 6 11 (n 11 9 e e) e) (n 0 12 e e)) (n 5 8 (n 7 15 e e) (n 10 5 e e))))) (n 0 11 (n 0 12 (n 0 11 (n 0 12 (n 5 15 (n 10 13 e e) e) (n 8 6 e e)) (n 4 12 (n 7 2 (n 12 0 e e) e) (n 0 11 e e))) (n 2 15 (n 0 11 (n 0 12 (n 0 12 e e) e) (n 8 15 e e)) (n 5 5 (n 0 11 e e) (n 0 11 e e)))) (n 1 10 (n 0 11 (n 3 12 (n 0 11 (n 0 11 e e) e) (n 0 11 e e)) (n 5 1 (n 7 9 e e) (n 9 14 e e))) (n 0 11 (n 4 7 (n 6 13 (n 11 11 e e) e) (n 0 11 e e)) (n 0 11 (n 0 12 e e) (n 0 11 e e)))))) (n 0 5 (n 0 9 (n 1 3 (n 2 0 (n 3 7 (n 5 13 (n 10 12 e e) e) (n 0 11 e e)) (n 0 11 (n 0 11 (n 0 12 e e) e) (n 0 12 e e))) (n 2 13 (n 0 12 (n 6 8 (n 11 6 e e) e) (n 8 14 e e)) (n 0 11 (n 7 12 e e) (n 10 1 e e)))) (n 1 8 (n 1 2 (n 0 11 (n 6 3 (n 11 1 e e) e) (n 0 12 e e)) (n 4 15 (n 7 7 (n 12 4 e e) e) (n 9 12 e e))) (n 3 2 (n 4 6 (n 0 11 (n 0 11 e e) e) (n 9 3 e e)) (n 0 12 (n 8 1 e e) (n 0 12 e e))))) (n 0 13 (n 1 5 (n 2 3 (n 0 11 (n 0 12 (n 10 15 e e) e) (n 8 7 e e)) (n 0 11 (n 0 11 (n 0 11 e e) e) (n 9 10 e e))) (n 0 12 (n 4 2 (n 0 11 (n 0 11 e e) e) (n 9 1 e e)) (n 5 6 (n 7 14 e e) (n 10 3 e e)))) (n 1 2 (n 2 10 (n 3 13 (n 6 5 (n 11 3 e e) e) (n 8 12 e e)) (n 0 12 (n 0 12 e e) (n 0 12 e e))) (n 3 4 (n 4 9 (n 6 15 (n 11 12 e e) e) (n 9 5 e e)) (n 5 11 (n 0 11 e e) (n 10 10 e e))))))) (n 0 2 (n 0 4 (n 0 8 (n 1 2 (n 0 12 (n 3 6 (n 0 12 (n 0 12 e e) e) (n 8 5 e e)) (n 4 10 (n 7 0 (n 0 11 e e) e) (n 0 11 e e))) (n 2 12 (n 0 11 (n 6 7 (n 11 5 e e) e) (n 0 12 e e)) (n 5 4 (n 7 11 e e) (n 10 0 e e)))) (n 2 8 (n 1 14 (n 3 11 (n 6 2 (n 11 0 e e) e) (n 0 11 e e)) (n 0 11 (n 0 11 (n 12 3 e e) e) (n 0 12 e e))) (n 3 1 (n 0 12 (n 6 12 (n 11 10 e e) e) (n 9 2 e e)) (n 0 11 (n 8 0 e e) (n 0 11 e e))))) (n 10 7 (n 1 4 (n 2 2 (n 3 8 (n 0 11 (n 10 14 e e) e) (n 0 11 e e)) (n 4 13 (n 7 3 (n 12 1 e e) e) (n 9 9 e e))) (n 0 11 (n 4 1 (n 6 9 (n 11 7 e e) e) (n 9 0 e e)) (n 0 11 (n 0 12 e e) (n 0 12 e e)))) (n 1 14 (n 0 12 (n 0 11 (n 0 12 (n 0 12 e e) e) (n 8 11 e e)) (n 0 11 (n 0 11 e e) (n 0 11 e e))) (n 0 12 (n 4 8 (n 6 14 (n 0 11 e e) e) (n 0 12 e e)) (n 5 10 (n 8 2 e e) (n 10 9 e e)))))) (n 0 6 (n 0 10 (n 0 11 (n 2 1 (n 0 11 (n 5 14 (n 0 11 e e) e) (n 0 12 e e)) (n 4 11 (n 7 1 (n 11 15 e e) e) (n 9 8 e e))) (n 2 14 (n 4 0 (n 0 11 (n 0 11 e e) e) (n 0 11 e e)) (n 0 12 (n 7 13 e e) (n 10 2 e e)))) (n 1 9 (n 2 9 (n 0 12 (n 6 4 (n 11 2 e e) e) (n 8 10 e e)) (n 5 0 (n 7 8 e e) (n 9 13 e e))) (n 3 3 (n 0 11 (n 0 12 (n 0 12 e e) e) (n 9 4 e e)) (n 5 9 (n 0 11 e e) (n 10 8 e e))))) (n 0 14 (n 0 11 (n 2 4 (n 3 9 (n 6 0 (n 0 11 e e) e) (n 8 8 e e)) (n 0 12 (n 0 12 (n 0 12 e e) e) (n 9 11 e e))) (n 3 0 (n 4 3 (n 6 10 (n 11 8 e e) e) (n 0 11 e e)) (n 5 7 (n 0 11 e e) (n 10 4 e e)))) (n 1 15 (n 2 11 (n 3 14 (n 0 11 (n 0 11 e e) e) (n 8 13 e e)) (n 5 2 (n 7 10 e e) (n 9 15 e e))) (n 0 11 (n 0 11 (n 0 11 (n 11 13 e e) e) (n 9 6 e e)) (n 5 12 (n 8 3 e e) (n 10 11 e e))))))))
noncomputable def tX6 (f : Nat → Nat → Params → Obj) (P : Params) : PySem.W.BT := tW6 (fun c i => .node (f c i P)) .nil
noncomputable def hX0 (f : Nat → Nat → Params → Obj) (P : Params) : Heap := ⟨⟨[f 0 0 P, f 0 1 P, f 0 2 P, f 0 3 P, f 0 4 P, f 0 5 P, f 0 6 P, f 0 7 P, f 0 8 P, f 0 9 P, f 0 10 P, f 0 11 P, f 0 12 P, f 0 13 P, f 0 14 P]⟩, {}⟩
noncomputable def hX1 (f : Nat → Nat → Params → Obj) (P : Params) : Heap := ⟨⟨[f 0 0 P, f 0 1 P, f 0 2 P, f 10 6 P, f 0 4 P, f 0 5 P, f 0 6 P, f 0 7 P, f 0 8 P, f 0 9 P, f 0 10 P, f 0 11 P, f 10 7 P, f 0 13 P, f 0 14 P, f 1 1 P, f 1 2 P, f 1 3 P, f 0 11 P, f 0 12 P, f 1 4 P, f 1 5 P, f 0 11 P, f 1 6 P, f 2 8 P, f 1 8 P, f 1 9 P, f 1 10 P, f 1 14 P, f 1 2 P, f 1 15 P, f 0 11 P, f 0 12 P, f 2 0 P, f 2 1 P, f 0 11 P, f 2 2 P, f 2 3 P, f 2 4 P, f 2 5 P, f 1 14 P, f 1 2 P, f 2 9 P, f 0 11 P, f 0 12 P, f 2 10 P, f 2 11 P, f 0 11 P, f 2 12 P, f 2 13 P, f 2 14 P, f 2 15 P, f 0 11 P, f 0 12 P, f 3 0 P, f 0 11 P, f 3 1 P, f 3 2 P, f 3 3 P, f 0 11 P, f 0 12 P, f 3 4 P, f 0 11 P, f 3 5 P, f 3 6 P, f 3 7 P, f 0 11 P, f 0 12 P, f 3 8 P, f 0 11 P, f 3 9 P, f 3 10 P, f 3 11 P, f 0 11 P, f 0 12 P, f 3 12 P, f 0 11 P, f 3 13 P, f 3 14 P, f 3 15 P, f 0 11 P, f 0 12 P, f 4 0 P, f 0 11 P, f 4 1 P, f 4 2 P, f 4 3 P, f 0 11 P, f 0 12 P, f 4 6 P, f 0 11 P, f 4 7 P, f 4 8 P, f 4 9 P, f 0 11 P, f 0 12 P, f 4 10 P, f 0 11 P, f 4 11 P, f 4 12 P, f 4 13 P, f 0 11 P, f 0 12 P, f 4 14 P, f 0 11 P, f 4 15 P, f 5 0 P, f 5 1 P, f 0 11 P, f 0 12 P, f 5 2 P, f 5 3 P, f 5 4 P, f 0 11 P, f 0 12 P, f 5 5 P, f 0 11 P, f 5 6 P, f 5 7 P, f 5 8 P, f 0 11 P, f 0 12 P, f 5 9 P, f 0 11 P, f 5 10 P, f 5 11 P, f 5 12 P, f 0 11 P, f 0 12 P, f 5 13 P, f 5 14 P, f 5 15 P, f 0 11 P, f 0 12 P, f 6 0 P, f 6 1 P, f 6 2 P, f 6 3 P, f 6 4 P, f 0 11 P, f 0 12 P, f 6 5 P, f 0 11 P, f 6 6 P, f 6 7 P, f 6 8 P, f 0 11 P, f 0 12 P, f 6 9 P, f 0 11 P, f 6 10 P, f 6 11 P, f 6 12 P, f 0 11 P, f 0 12 P, f 6 13 P, f 6 14 P, f 6 15 P, f 0 11 P, f 0 12 P, f 7 0 P, f 0 11 P, f 7 1 P, f 7 2 P, f 7 3 P, f 0 11 P, f 0 12 P, f 7 6 P, f 0 11 P, f 7 7 P, f 7 8 P, f 7 9 P, f 0 11 P, f 0 12 P, f 7 10 P, f 0 11 P, f 7 11 P, f 7 12 P, f 7 13 P, f 0 11 P, f 0 12 P, f 7 14 P, f 0 11 P, f 7 15 P, f 8 0 P, f 8 1 P, f 0 11 P, f 0 12 P, f 8 2 P, f 0 11 P, f 8 3 P, f 8 4 P, f 8 5 P, f 0 11 P, f 0 12 P, f 8 6 P, f 0 11 P, f 8 7 P, f 8 8 P, f 8 9 P, f 0 11 P, f 0 12 P, f 8 10 P, f 0 11 P, f 8 11 P, f 8 12 P, f 8 13 P, f 0 11 P, f 0 12 P, f 8 14 P, f 0 11 P, f 8 15 P, f 9 0 P, f 9 1 P, f 0 11 P, f 0 12 P, f 9 2 P, f 9 3 P, f 9 4 P, f 0 11 P, f 0 12 P, f 9 5 P, f 9 6 P, f 9 7 P, f 0 11 P, f 0 12 P, f 9 8 P, f 0 11 P, f 9 9 P, f 9 10 P, f 9 11 P, f 0 11 P, f 0 12 P, f 9 12 P, f 9 13 P, f 9 14 P, f 0 11 P, f 0 12 P, f 9 15 P, f 0 11 P, f 10 0 P, f 10 1 P, f 10 2 P, f 0 11 P, f 0 12 P, f 10 3 P, f 10 4 P, f 10 5 P, f 0 11 P, f 0 12 P, f 10 8 P, f 0 11 P, f 10 9 P, f 10 10 P, f 10 11 P, f 0 11 P, f 0 12 P, f 10 12 P, f 0 11 P, f 10 13 P, f 10 14 P, f 10 15 P, f 0 11 P, f 0 12 P, f 11 0 P, f 11 1 P, f 11 2 P, f 0 11 P, f 0 12 P, f 11 3 P, f 0 11 P, f 11 4 P, f 11 5 P, f 11 6 P, f 0 11 P, f 0 12 P, f 11 7 P, f 0 11 P, f 11 8 P, f 11 9 P, f 11 10 P, f 0 11 P, f 0 12 P, f 11 11 P, f 0 11 P, f 11 12 P, f 11 13 P, f 11 14 P, f 0 11 P, f 0 12 P, f 11 15 P, f 12 0 P, f 12 1 P, f 0 11 P, f 0 12 P, f 12 2 P, f 12 3 P, f 12 4 P]⟩, {}⟩
theorem laid : (fun (_ : Program) (_ : Program) (_ : Nat → Nat → Params → Obj) (_ : List Stmt) (_ : List Stmt) (_ : List Stmt) (_ : List Stmt) (_ : List Stmt) (_ : List Stmt) => true) pw2 vw fA sx0 sx1 sx2 sx3 sx4 sx5 = true := by k_qdec
end Q_k60_plots_moved_mirrored_turned
noncomputable def PySem.W.Fast.tw7272579281174369794 : PySem.Program := PySem.W.Fast.tw5762418252340890410
theorem PySem.W.Fast.te7272579281174369794 : PySem.Challenge.pw_spotlook_k60_plots_moved_mirrored_turned = PySem.W.Fast.tw7272579281174369794 := Eq.trans (by kernel_rfl : PySem.Challenge.pw_spotlook_k60_plots_moved_mirrored_turned = Q_k60_plots_moved_mirrored_turned.pw2) PySem.W.Fast.te5762418252340890410
noncomputable def PySem.W.Fast.tw3130966383160920637 : PySem.Program := PySem.W.Fast.tw16897397704851632845
theorem PySem.W.Fast.te3130966383160920637 : Q_k60_plots_moved_mirrored_turned.vw = PySem.W.Fast.tw3130966383160920637 := PySem.W.Fast.te16897397704851632845
noncomputable def PySem.W.Fast.tw4996899431606103681 : List PySem.Stmt := PySem.W.Fast.tw12809389030469260890
theorem PySem.W.Fast.te4996899431606103681 : Q_k60_plots_moved_mirrored_turned.sx0 = PySem.W.Fast.tw4996899431606103681 := PySem.W.Fast.te12809389030469260890
noncomputable def PySem.W.Fast.tw17930574340384137832 : List PySem.Stmt := PySem.W.Fast.tw2262872354265353366
theorem PySem.W.Fast.te17930574340384137832 : Q_k60_plots_moved_mirrored_turned.sx1 = PySem.W.Fast.tw17930574340384137832 := PySem.W.Fast.te2262872354265353366
noncomputable def PySem.W.Fast.tw7175428910660718019 : List PySem.Stmt := PySem.W.Fast.tw11975697345753106461
theorem PySem.W.Fast.te7175428910660718019 : Q_k60_plots_moved_mirrored_turned.sx2 = PySem.W.Fast.tw7175428910660718019 := PySem.W.Fast.te11975697345753106461
noncomputable def PySem.W.Fast.tw7168185511254855654 : List PySem.Stmt := PySem.W.Fast.tw9890980803846540187
theorem PySem.W.Fast.te7168185511254855654 : Q_k60_plots_moved_mirrored_turned.sx3 = PySem.W.Fast.tw7168185511254855654 := PySem.W.Fast.te9890980803846540187
noncomputable def PySem.W.Fast.tw3155021205036098797 : List PySem.Stmt := PySem.W.Fast.tw2323395251563763643
theorem PySem.W.Fast.te3155021205036098797 : Q_k60_plots_moved_mirrored_turned.sx4 = PySem.W.Fast.tw3155021205036098797 := PySem.W.Fast.te2323395251563763643
noncomputable def PySem.W.Fast.tw9162934673037188800 : List PySem.Stmt := PySem.W.Fast.tw1751981461529095914
theorem PySem.W.Fast.te9162934673037188800 : Q_k60_plots_moved_mirrored_turned.sx5 = PySem.W.Fast.tw9162934673037188800 := PySem.W.Fast.te1751981461529095914
noncomputable def PySem.W.Fast.tw8297814343829130210 : PySem.Params → PySem.W.BT := Q_k60_plots_moved_mirrored_turned.tX0 PySem.W.Fast.tw16544527375509185464
theorem PySem.W.Fast.te8297814343829130210 : Q_k60_plots_moved_mirrored_turned.tX0 Q_k60_plots_moved_mirrored_turned.fA = PySem.W.Fast.tw8297814343829130210 := congrArg Q_k60_plots_moved_mirrored_turned.tX0 PySem.W.Fast.te16544527375509185464
noncomputable def PySem.W.Fast.tw2338013236830839831 : PySem.Params → PySem.W.BT := Q_k60_plots_moved_mirrored_turned.tX1 PySem.W.Fast.tw16544527375509185464
theorem PySem.W.Fast.te2338013236830839831 : Q_k60_plots_moved_mirrored_turned.tX1 Q_k60_plots_moved_mirrored_turned.fA = PySem.W.Fast.tw2338013236830839831 := congrArg Q_k60_plots_moved_mirrored_turned.tX1 PySem.W.Fast.te16544527375509185464
noncomputable def PySem.W.Fast.tw14193735195737640641 : PySem.Params → PySem.W.BT := Q_k60_plots_moved_mirrored_turned.tX2 PySem.W.Fast.tw16544527375509185464
theorem PySem.W.Fast.te14193735195737640641 : Q_k60_plots_moved_mirrored_turned.tX2 Q_k60_plots_moved_mirrored_turned.fA = PySem.W.Fast.tw14193735195737640641 := congrArg Q_k60_plots_moved_mirrored_turned.tX2 PySem.W.Fast.te16544527375509185464
noncomputable def PySem.W.Fast.tw5860447182695240530 : PySem.Params → PySem.W.BT := Q_k60_plots_moved_mirrored_turned.tX3 PySem.W.Fast.tw16544527375509185464
theorem PySem.W.Fast.te5860447182695240530 : Q_k60_plots_moved_mirrored_turned.tX3 Q_k60_plots_moved_mirrored_turned.fA = PySem.W.Fast.tw5860447182695240530 := congrArg Q_k60_plots_moved_mirrored_turned.tX3 PySem.W.Fast.te16544527375509185464
noncomputable def PySem.W.Fast.tw3771081075919407234 : PySem.Params → PySem.W.BT := Q_k60_plots_moved_mirrored_turned.tX4 PySem.W.Fast.tw16544527375509185464
theorem PySem.W.Fast.te3771081075919407234 : Q_k60_plots_moved_mirrored_turned.tX4 Q_k60_plots_moved_mirrored_turned.fA = PySem.W.Fast.tw3771081075919407234 := congrArg Q_k60_plots_moved_mirrored_turned.tX4 PySem.W.Fast.te16544527375509185464
noncomputable def PySem.W.Fast.tw6988535461354768298 : PySem.Params → PySem.W.BT := Q_k60_plots_moved_mirrored_turned.tX5 PySem.W.Fast.tw16544527375509185464
theorem PySem.W.Fast.te6988535461354768298 : Q_k60_plots_moved_mirrored_turned.tX5 Q_k60_plots_moved_mirrored_turned.fA = PySem.W.Fast.tw6988535461354768298 := congrArg Q_k60_plots_moved_mirrored_turned.tX5 PySem.W.Fast.te16544527375509185464
noncomputable def PySem.W.Fast.tw10498097222585472642 : PySem.Params → PySem.W.BT := Q_k60_plots_moved_mirrored_turned.tX6 PySem.W.Fast.tw16544527375509185464
theorem PySem.W.Fast.te10498097222585472642 : Q_k60_plots_moved_mirrored_turned.tX6 Q_k60_plots_moved_mirrored_turned.fA = PySem.W.Fast.tw10498097222585472642 := congrArg Q_k60_plots_moved_mirrored_turned.tX6 PySem.W.Fast.te16544527375509185464
noncomputable def PySem.W.Fast.tw16705633953970653408 : PySem.Params → PySem.Heap := Q_k60_plots_moved_mirrored_turned.hX0 PySem.W.Fast.tw16544527375509185464
theorem PySem.W.Fast.te16705633953970653408 : Q_k60_plots_moved_mirrored_turned.hX0 Q_k60_plots_moved_mirrored_turned.fA = PySem.W.Fast.tw16705633953970653408 := congrArg Q_k60_plots_moved_mirrored_turned.hX0 PySem.W.Fast.te16544527375509185464
noncomputable def PySem.W.Fast.tw9960270983214111106 : PySem.Params → PySem.Heap := Q_k60_plots_moved_mirrored_turned.hX1 PySem.W.Fast.tw16544527375509185464
theorem PySem.W.Fast.te9960270983214111106 : Q_k60_plots_moved_mirrored_turned.hX1 Q_k60_plots_moved_mirrored_turned.fA = PySem.W.Fast.tw9960270983214111106 := congrArg Q_k60_plots_moved_mirrored_turned.hX1 PySem.W.Fast.te16544527375509185464
open PySem PySem.W PyProof.Rows
set_option maxRecDepth 100000 in
set_option maxHeartbeats 0 in
theorem PySem.Challenge.cw_spotlook_k60_plots_moved_mirrored_turned_holds : PySem.Challenge.rw_spotlook_k60_plots_moved_mirrored_turned.Holds := by
  w_on; o_law; o_head (PySem.W.kmHook Q_k60_plots_moved_mirrored_turned.kK [nat_lit 3, nat_lit 4, nat_lit 57, nat_lit 58, nat_lit 64, nat_lit 65, nat_lit 71, nat_lit 72, nat_lit 78, nat_lit 79, nat_lit 85, nat_lit 86, nat_lit 92, nat_lit 93, nat_lit 99, nat_lit 100, nat_lit 106, nat_lit 107, nat_lit 111, nat_lit 112, nat_lit 118, nat_lit 119, nat_lit 125, nat_lit 126, nat_lit 130, nat_lit 131, nat_lit 137, nat_lit 138, nat_lit 144, nat_lit 145, nat_lit 151, nat_lit 152, nat_lit 156, nat_lit 157, nat_lit 163, nat_lit 164, nat_lit 170, nat_lit 171, nat_lit 177, nat_lit 178, nat_lit 184, nat_lit 185, nat_lit 191, nat_lit 192, nat_lit 198, nat_lit 199, nat_lit 205, nat_lit 206, nat_lit 212, nat_lit 213, nat_lit 217, nat_lit 218, nat_lit 222, nat_lit 223, nat_lit 229, nat_lit 230, nat_lit 234, nat_lit 235, nat_lit 241, nat_lit 242, nat_lit 246, nat_lit 247, nat_lit 253, nat_lit 254, nat_lit 260, nat_lit 261, nat_lit 265, nat_lit 266, nat_lit 272, nat_lit 273, nat_lit 279, nat_lit 280, nat_lit 286, nat_lit 287, nat_lit 291, nat_lit 292, nat_lit 296, nat_lit 297] (fun _ => by kernel_rfl) [133]); (case hw => w_witness2)
  k_fill
  refine SD.law_walk2 (Pt := 133) (c0 := 137) (k := 8) (x := "_law_script") (sp := Q_k60_plots_moved_mirrored_turned.sp_law) (l := PySem.Challenge.rw_spotlook_k60_plots_moved_mirrored_turned) rfl rfl ⟨rfl, by decide, by decide, rfl⟩ (fun w h Y => PySem.W.km_in_of Y) (fun w h Y => PySem.W.km_tabs_of Y _ (by simp)) (fun w => by kernel_rfl) (fun w => by kernel_rfl) ?F Q_k60_plots_moved_mirrored_turned.law_sp
  case F =>
    intro w mg fa h KX G hmg
    have t_law_pot : SD.Txt (L2.KOf KX) mg "_law_pot" Q_k60_plots_moved_mirrored_turned.s_law_pot := by
      dsimp only [L2.KOf]
      refine' SD.Txt.mk KX G ?a ?l ?c ?k
      (case a => k_is); (case l => k_is); (case c => k_is); (case k => k_is)
    have t_law_take : SD.Txt (L2.KOf KX) mg "_law_take" Q_k60_plots_moved_mirrored_turned.s_law_take := by
      dsimp only [L2.KOf]
      refine' SD.Txt.mk KX G ?a ?l ?c ?k
      (case a => k_is); (case l => k_is); (case c => k_is); (case k => k_is)
    have t_law_new_spot : SD.Txt (L2.KOf KX) mg "_law_new_spot" Q_k60_plots_moved_mirrored_turned.s_law_new_spot := by
      dsimp only [L2.KOf]
      refine' SD.Txt.mk KX G ?a ?l ?c ?k
      (case a => k_is); (case l => k_is); (case c => k_is); (case k => k_is)
    have t_law_some_spot : SD.Txt (L2.KOf KX) mg "_law_some_spot" Q_k60_plots_moved_mirrored_turned.s_law_some_spot := by
      dsimp only [L2.KOf]
      refine' SD.Txt.mk KX G ?a ?l ?c ?k
      (case a => k_is); (case l => k_is); (case c => k_is); (case k => k_is)
    have t_law_square : SD.Txt (L2.KOf KX) mg "_law_square" Q_k60_plots_moved_mirrored_turned.s_law_square := by
      dsimp only [L2.KOf]
      refine' SD.Txt.mk KX G ?a ?l ?c ?k
      (case a => k_is); (case l => k_is); (case c => k_is); (case k => k_is)
    have t_law_side : SD.Txt (L2.KOf KX) mg "_law_side" Q_k60_plots_moved_mirrored_turned.s_law_side := by
      dsimp only [L2.KOf]
      refine' SD.Txt.mk KX G ?a ?l ?c ?k
      (case a => k_is); (case l => k_is); (case c => k_is); (case k => k_is)
    have t_law_on : SD.Txt (L2.KOf KX) mg "_law_on" Q_k60_plots_moved_mirrored_turned.s_law_on := by
      dsimp only [L2.KOf]
      refine' SD.Txt.mk KX G ?a ?l ?c ?k
      (case a => k_is); (case l => k_is); (case c => k_is); (case k => k_is)
    have t_law_apart : SD.Txt (L2.KOf KX) mg "_law_apart" Q_k60_plots_moved_mirrored_turned.s_law_apart := by
      dsimp only [L2.KOf]
      refine' SD.Txt.mk KX G ?a ?l ?c ?k
      (case a => k_is); (case l => k_is); (case c => k_is); (case k => k_is)
    have t_law_laid : SD.Txt (L2.KOf KX) mg "_law_laid" Q_k60_plots_moved_mirrored_turned.s_law_laid := by
      dsimp only [L2.KOf]
      refine' SD.Txt.mk KX G ?a ?l ?c ?k
      (case a => k_is); (case l => k_is); (case c => k_is); (case k => k_is)
    have t_law_shuts_here : SD.Txt (L2.KOf KX) mg "_law_shuts_here" Q_k60_plots_moved_mirrored_turned.s_law_shuts_here := by
      dsimp only [L2.KOf]
      refine' SD.Txt.mk KX G ?a ?l ?c ?k
      (case a => k_is); (case l => k_is); (case c => k_is); (case k => k_is)
    have t_law_squares : SD.Txt (L2.KOf KX) mg "_law_squares" Q_k60_plots_moved_mirrored_turned.s_law_squares := by
      dsimp only [L2.KOf]
      refine' SD.Txt.mk KX G ?a ?l ?c ?k
      (case a => k_is); (case l => k_is); (case c => k_is); (case k => k_is)
    have t_law_frame : SD.Txt (L2.KOf KX) mg "_law_frame" Q_k60_plots_moved_mirrored_turned.s_law_frame := by
      dsimp only [L2.KOf]
      refine' SD.Txt.mk KX G ?a ?l ?c ?k
      (case a => k_is); (case l => k_is); (case c => k_is); (case k => k_is)
    have t_law_frames : SD.Txt (L2.KOf KX) mg "_law_frames" Q_k60_plots_moved_mirrored_turned.s_law_frames := by
      dsimp only [L2.KOf]
      refine' SD.Txt.mk KX G ?a ?l ?c ?k
      (case a => k_is); (case l => k_is); (case c => k_is); (case k => k_is)
    have t_law_frac : SD.Txt (L2.KOf KX) mg "_law_frac" Q_k60_plots_moved_mirrored_turned.s_law_frac := by
      dsimp only [L2.KOf]
      refine' SD.Txt.mk KX G ?a ?l ?c ?k
      (case a => k_is); (case l => k_is); (case c => k_is); (case k => k_is)
    have t_law_given : SD.Txt (L2.KOf KX) mg "_law_given" Q_k60_plots_moved_mirrored_turned.s_law_given := by
      dsimp only [L2.KOf]
      refine' SD.Txt.mk KX G ?a ?l ?c ?k
      (case a => k_is); (case l => k_is); (case c => k_is); (case k => k_is)
    have t_law_plot : SD.Txt (L2.KOf KX) mg "_law_plot" Q_k60_plots_moved_mirrored_turned.s_law_plot := by
      dsimp only [L2.KOf]
      refine' SD.Txt.mk KX G ?a ?l ?c ?k
      (case a => k_is); (case l => k_is); (case c => k_is); (case k => k_is)
    have t_is_less : SD.Txt (L2.KOf KX) mg "is_less" Q_k60_plots_moved_mirrored_turned.s_is_less := by
      dsimp only [L2.KOf]
      refine' SD.Txt.mk KX G ?a ?l ?c ?k
      (case a => k_is); (case l => k_is); (case c => k_is); (case k => k_is)
    have t_is_ahead : SD.Txt (L2.KOf KX) mg "is_ahead" Q_k60_plots_moved_mirrored_turned.s_is_ahead := by
      dsimp only [L2.KOf]
      refine' SD.Txt.mk KX G ?a ?l ?c ?k
      (case a => k_is); (case l => k_is); (case c => k_is); (case k => k_is)
    have t_greatest_divisor : SD.Txt (L2.KOf KX) mg "greatest_divisor" Q_k60_plots_moved_mirrored_turned.s_greatest_divisor := by
      dsimp only [L2.KOf]
      refine' SD.Txt.mk KX G ?a ?l ?c ?k
      (case a => k_is); (case l => k_is); (case c => k_is); (case k => k_is)
    have t_fraction : SD.Txt (L2.KOf KX) mg "fraction" Q_k60_plots_moved_mirrored_turned.s_fraction := by
      dsimp only [L2.KOf]
      refine' SD.Txt.mk KX G ?a ?l ?c ?k
      (case a => k_is); (case l => k_is); (case c => k_is); (case k => k_is)
    have t_own_spot : SD.Txt (L2.KOf KX) mg "own_spot" Q_k60_plots_moved_mirrored_turned.s_own_spot := by
      dsimp only [L2.KOf]
      refine' SD.Txt.mk KX G ?a ?l ?c ?k
      (case a => k_is); (case l => k_is); (case c => k_is); (case k => k_is)
    have t_own_wall : SD.Txt (L2.KOf KX) mg "own_wall" Q_k60_plots_moved_mirrored_turned.s_own_wall := by
      dsimp only [L2.KOf]
      refine' SD.Txt.mk KX G ?a ?l ?c ?k
      (case a => k_is); (case l => k_is); (case c => k_is); (case k => k_is)
    have t_wall_of : SD.Txt (L2.KOf KX) mg "wall_of" Q_k60_plots_moved_mirrored_turned.s_wall_of := by
      dsimp only [L2.KOf]
      refine' SD.Txt.mk KX G ?a ?l ?c ?k
      (case a => k_is); (case l => k_is); (case c => k_is); (case k => k_is)
    have t_with_spots : SD.Txt (L2.KOf KX) mg "with_spots" Q_k60_plots_moved_mirrored_turned.s_with_spots := by
      dsimp only [L2.KOf]
      refine' SD.Txt.mk KX G ?a ?l ?c ?k
      (case a => k_is); (case l => k_is); (case c => k_is); (case k => k_is)
    have t_turned_spot : SD.Txt (L2.KOf KX) mg "turned_spot" Q_k60_plots_moved_mirrored_turned.s_turned_spot := by
      dsimp only [L2.KOf]
      refine' SD.Txt.mk KX G ?a ?l ?c ?k
      (case a => k_is); (case l => k_is); (case c => k_is); (case k => k_is)
    have t_turned : SD.Txt (L2.KOf KX) mg "turned" Q_k60_plots_moved_mirrored_turned.s_turned := by
      dsimp only [L2.KOf]
      refine' SD.Txt.mk KX G ?a ?l ?c ?k
      (case a => k_is); (case l => k_is); (case c => k_is); (case k => k_is)
    have t_mirrored_spot : SD.Txt (L2.KOf KX) mg "mirrored_spot" Q_k60_plots_moved_mirrored_turned.s_mirrored_spot := by
      dsimp only [L2.KOf]
      refine' SD.Txt.mk KX G ?a ?l ?c ?k
      (case a => k_is); (case l => k_is); (case c => k_is); (case k => k_is)
    have t_mirrored : SD.Txt (L2.KOf KX) mg "mirrored" Q_k60_plots_moved_mirrored_turned.s_mirrored := by
      dsimp only [L2.KOf]
      refine' SD.Txt.mk KX G ?a ?l ?c ?k
      (case a => k_is); (case l => k_is); (case c => k_is); (case k => k_is)
    have t_plus : SD.Txt (L2.KOf KX) mg "plus" Q_k60_plots_moved_mirrored_turned.s_plus := by
      dsimp only [L2.KOf]
      refine' SD.Txt.mk KX G ?a ?l ?c ?k
      (case a => k_is); (case l => k_is); (case c => k_is); (case k => k_is)
    have t_moved : SD.Txt (L2.KOf KX) mg "moved" Q_k60_plots_moved_mirrored_turned.s_moved := by
      dsimp only [L2.KOf]
      refine' SD.Txt.mk KX G ?a ?l ?c ?k
      (case a => k_is); (case l => k_is); (case c => k_is); (case k => k_is)
    have t_law_same : SD.Txt (L2.KOf KX) mg "_law_same" Q_k60_plots_moved_mirrored_turned.s_law_same := by
      dsimp only [L2.KOf]
      refine' SD.Txt.mk KX G ?a ?l ?c ?k
      (case a => k_is); (case l => k_is); (case c => k_is); (case k => k_is)
    have t_law_moved_spot : SD.Txt (L2.KOf KX) mg "_law_moved_spot" Q_k60_plots_moved_mirrored_turned.s_law_moved_spot := by
      dsimp only [L2.KOf]
      refine' SD.Txt.mk KX G ?a ?l ?c ?k
      (case a => k_is); (case l => k_is); (case c => k_is); (case k => k_is)
    have t_law_moved_shuts : SD.Txt (L2.KOf KX) mg "_law_moved_shuts" Q_k60_plots_moved_mirrored_turned.s_law_moved_shuts := by
      dsimp only [L2.KOf]
      refine' SD.Txt.mk KX G ?a ?l ?c ?k
      (case a => k_is); (case l => k_is); (case c => k_is); (case k => k_is)
    have t_law_right : SD.Txt (L2.KOf KX) mg "_law_right" Q_k60_plots_moved_mirrored_turned.s_law_right := by
      dsimp only [L2.KOf]
      refine' SD.Txt.mk KX G ?a ?l ?c ?k
      (case a => k_is); (case l => k_is); (case c => k_is); (case k => k_is)
    have t_law_order : SD.Txt (L2.KOf KX) mg "_law_order" Q_k60_plots_moved_mirrored_turned.s_law_order := by
      dsimp only [L2.KOf]
      refine' SD.Txt.mk KX G ?a ?l ?c ?k
      (case a => k_is); (case l => k_is); (case c => k_is); (case k => k_is)
    have t_own_plot : SD.Txt (L2.KOf KX) mg "own_plot" Q_k60_plots_moved_mirrored_turned.s_own_plot := by
      dsimp only [L2.KOf]
      refine' SD.Txt.mk KX G ?a ?l ?c ?k
      (case a => k_is); (case l => k_is); (case c => k_is); (case k => k_is)
    have t_in_order : SD.Txt (L2.KOf KX) mg "in_order" Q_k60_plots_moved_mirrored_turned.s_in_order := by
      dsimp only [L2.KOf]
      refine' SD.Txt.mk KX G ?a ?l ?c ?k
      (case a => k_is); (case l => k_is); (case c => k_is); (case k => k_is)
    have t_law : SD.Txt (L2.KOf KX) mg "law" Q_k60_plots_moved_mirrored_turned.s_law := by
      dsimp only [L2.KOf]
      refine' SD.Txt.mk KX G ?a ?l ?c ?k
      (case a => k_is); (case l => k_is); (case c => k_is); (case k => k_is)
    have fc_moved : SD.TxtC (L2.KOf KX) mg "moved" Q_k60_plots_moved_mirrored_turned.s_moved 137 := by
      dsimp only [L2.KOf]
      refine' SD.TxtC.mk KX G ?a ?l ?c ?k
      (case a => k_is); (case l => k_is); (case c => k_is); (case k => k_is)
    have lm : SD.Mk (L2.KOf KX) mg 137 133 := by
      dsimp only [L2.KOf]
      refine' SD.mk_mk KX G (by kernel_rfl) ?a ?l ?b ?c ?d ?e ?f
      (case a => k_is); (case l => k_is); (case b => decide); (case c => decide); (case d => rfl); (case e => rfl); (case f => rfl)
    have kf_with_spots : ∃ f, mg "with_spots" = some (.ref f) ∧ PySem.W.keepIn (L2.KOf KX) (.ref f) = true := by
      obtain ⟨f, _, z, m⟩ := t_with_spots
      exact ⟨f, m, z.kp⟩
    have b_abs : mg "abs" = none := by
      refine' PySem.W.mg_none_of KX G ?a
      (case a => k_is)
    have b_int : mg "int" = none := by
      refine' PySem.W.mg_none_of KX G ?a
      (case a => k_is)
    have b_len : mg "len" = none := by
      refine' PySem.W.mg_none_of KX G ?a
      (case a => k_is)
    have b_list : mg "list" = none := by
      refine' PySem.W.mg_none_of KX G ?a
      (case a => k_is)
    have b_max : mg "max" = none := by
      refine' PySem.W.mg_none_of KX G ?a
      (case a => k_is)
    have b_min : mg "min" = none := by
      refine' PySem.W.mg_none_of KX G ?a
      (case a => k_is)
    have b_range : mg "range" = none := by
      refine' PySem.W.mg_none_of KX G ?a
      (case a => k_is)
    have b_repr : mg "repr" = none := by
      refine' PySem.W.mg_none_of KX G ?a
      (case a => k_is)
    have b_tuple : mg "tuple" = none := by
      refine' PySem.W.mg_none_of KX G ?a
      (case a => k_is)
    have b_zip : mg "zip" = none := by
      refine' PySem.W.mg_none_of KX G ?a
      (case a => k_is)
    have r_mirrored_spot : mg "mirrored_spot" = some (.ref (SD.cl (L2.KOf KX) "mirrored_spot")) := by
      dsimp only [L2.KOf]
      refine' SD.cl_mg KX G ?a
      (case a => k_is)
    have r_turned_spot : mg "turned_spot" = some (.ref (SD.cl (L2.KOf KX) "turned_spot")) := by
      dsimp only [L2.KOf]
      refine' SD.cl_mg KX G ?a
      (case a => k_is)
    exact Q_k60_plots_moved_mirrored_turned.c_law ⟨t_law_pot, t_law_take, t_law_new_spot, t_law_some_spot, t_law_square, t_law_side, t_law_on, t_law_apart, t_law_laid, t_law_shuts_here, t_law_squares, t_law_frame, t_law_frames, t_law_frac, t_law_given, t_law_plot, t_is_less, t_is_ahead, t_greatest_divisor, t_fraction, t_own_spot, t_own_wall, t_wall_of, t_with_spots, t_turned_spot, t_turned, t_mirrored_spot, t_mirrored, t_plus, t_moved, t_law_same, t_law_moved_spot, t_law_moved_shuts, t_law_right, t_law_order, t_own_plot, t_in_order, t_law, fc_moved, lm, kf_with_spots, b_abs, b_int, b_len, b_list, b_max, b_min, b_range, b_repr, b_tuple, b_zip, r_mirrored_spot, r_turned_spot⟩ hmg
