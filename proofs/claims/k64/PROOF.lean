import PyProof.Rows.All
import Wide.All
import OpenK.AllK
import Wide.FinOn
import Lean
import PyProof.EqAt
import PyProof.EqKinds
import PyProof.TupleCall
import PySem.Challenge.RW_spotlook_k64_questions_and_answers_writt
set_option Elab.async false
set_option linter.all false
set_option maxRecDepth 100000
namespace L2
open PySem PySem.Spec PyProof.Rows
noncomputable abbrev Key := Sum Int Str
noncomputable def keyIs : Key → Value → Bool
  | .inl k, v => Value.isInt k v
  | .inr x, v => Value.isStrOf x v
noncomputable def keyH (w : World) : Key → Int
  | .inl k => hashInt k
  | .inr x => hashStr w x
theorem keyIs_shape : ∀ {k : Key} {v : Value}, keyIs k v = true → (∃ i t, k = Sum.inl i ∧ v = Value.int i t) ∨ (∃ x t, k = Sum.inr x ∧ v = Value.str x t)
  | .inl i, v, h => by
    obtain ⟨t, e⟩ := Value.isInt_shape (k := i) (v := v) h
    exact .inl ⟨i, t, rfl, e⟩
  | .inr x, v, h => by
    obtain ⟨t, e⟩ := Value.isStrOf_shape (x := x) (v := v) h
    exact .inr ⟨x, t, rfl, e⟩
theorem key_ll (a b : Int) : decide ((Sum.inl a : Key) = Sum.inl b) = (a == b) := by
  by_cases e : a = b
  · subst e; simp
  · have h : ¬ (Sum.inl a : Key) = Sum.inl b := fun q => e (Sum.inl.inj q)
    rw [decide_eq_false h]
    exact (beq_eq_false_iff_ne.mpr e).symm
theorem key_rr (a b : Str) : decide ((Sum.inr a : Key) = Sum.inr b) = decide (a = b) := by
  by_cases e : a = b
  · subst e; simp
  · have h : ¬ (Sum.inr a : Key) = Sum.inr b := fun q => e (Sum.inr.inj q)
    rw [decide_eq_false h, decide_eq_false e]
theorem key_lr (a : Int) (b : Str) : decide ((Sum.inl a : Key) = Sum.inr b) = false := decide_eq_false (fun q => nomatch q)
theorem key_rl (a : Str) (b : Int) : decide ((Sum.inr a : Key) = Sum.inl b) = false := decide_eq_false (fun q => nomatch q)
noncomputable def mixKind (prog : Program) (w : World) : PySem.KeyKind prog w Key where
  is := keyIs
  hash := keyH w
  inj := fun v a b ha hb => by
    rcases keyIs_shape ha with ⟨i, t, rfl, rfl⟩ | ⟨x, t, rfl, rfl⟩
    · rcases keyIs_shape hb with ⟨j, u, rfl, e⟩ | ⟨y, u, rfl, e⟩
      · injection e with e1 _; rw [e1]
      · exact nomatch e
    · rcases keyIs_shape hb with ⟨j, u, rfl, e⟩ | ⟨y, u, rfl, e⟩
      · exact nomatch e
      · injection e with e1 _; rw [e1]
  byValue := fun k v h => by
    rcases keyIs_shape h with ⟨i, t, rfl, rfl⟩ | ⟨x, t, rfl, rfl⟩ <;> rfl
  pyHash := fun hv h => by
    rcases keyIs_shape hv with ⟨i, t, rfl, rfl⟩ | ⟨x, t, rfl, rfl⟩
    · exact wpAny_pyHash_int h
    · exact wpAny_pyHash_str h
  eqBool := fun hu hv h => by
    rcases keyIs_shape hu with ⟨i, t, rfl, rfl⟩ | ⟨x, t, rfl, rfl⟩
    · rcases keyIs_shape hv with ⟨j, u, rfl, rfl⟩ | ⟨y, u, rfl, rfl⟩
      · rw [key_ll] at h; exact wpAny_eqBool_int h
      · rw [key_lr] at h; exact SeqAt.EqAt.int_str i t y u _ _ _ _ h
    · rcases keyIs_shape hv with ⟨j, u, rfl, rfl⟩ | ⟨y, u, rfl, rfl⟩
      · rw [key_rl] at h; exact SeqAt.EqAt.str_int x t j u _ _ _ _ h
      · rw [key_rr] at h; exact wpAny_eqBool_str h
  «strs» := fun k x t v h => by
    rcases keyIs_shape h with ⟨i, u, rfl, e⟩ | ⟨y, u, rfl, e⟩
    · exact nomatch e
    · injection e with e1 _
      subst e1
      cases v <;> rfl
end L2
namespace L2
open PySem PySem.Spec PyProof.Rows
inductive V where
  | non | bl (b : Bool) | int (i : Int) | str (x : Str) | byt (b : Array UInt8) | flt (b : UInt64) | ref (a : Addr) | ty (n : String)
  deriving DecidableEq
noncomputable def RelV : V → Value → Prop
  | .non, u => u = Value.none
  | .bl b, u => u = Value.bool b
  | .int i, u => ∃ t, u = Value.int i t
  | .str x, u => ∃ t, u = Value.str x t
  | .byt b, u => ∃ t, u = Value.bytes b t
  | .flt b, u => ∃ t, u = Value.float b t
  | .ref a, u => u = Value.ref a
  | .ty n, u => u = Value.type n
noncomputable abbrev Vals : List V → List Value → Prop := Paired RelV
theorem Vals.length {xs : List V} {us : List Value} (r : Vals xs us) : xs.length = us.length := Paired.length r
theorem Vals.get : ∀ {xs : List V} {us : List Value} {i : Nat} {x : V}, Vals xs us → xs[i]? = some x → ∃ u, us[i]? = some u ∧ RelV x u
  | _, _, _, _, .nil, e => by simp at e
  | _, _, 0, _, .cons r _, e => by simp at e; subst e; exact ⟨_, rfl, r⟩
  | _, _, i + 1, x, .cons _ t, e => by
    obtain ⟨u, h1, h2⟩ := Vals.get (i := i) (x := x) t (by simpa using e)
    exact ⟨u, by simpa using h1, h2⟩
theorem Vals.set {x : V} {u : Value} (r : RelV x u) : ∀ {xs : List V} {us : List Value} (i : Nat), Vals xs us → Vals (xs.set i x) (us.set i u)
  | _, _, _, .nil => .nil
  | _, _, 0, .cons _ t => .cons r t
  | _, _, i + 1, .cons q t => .cons q (Vals.set r i t)
theorem Vals.append : ∀ {xs ys : List V} {us ws : List Value}, Vals xs us → Vals ys ws → Vals (xs ++ ys) (us ++ ws)
  | _, _, _, _, .nil, s => s
  | _, _, _, _, .cons r t, s => .cons r (Vals.append t s)
theorem Vals.take : ∀ {xs : List V} {us : List Value} (n : Nat), Vals xs us → Vals (xs.take n) (us.take n)
  | _, _, 0, _ => .nil
  | _, _, _ + 1, .nil => .nil
  | _, _, n + 1, .cons r t => .cons r (Vals.take n t)
theorem Vals.drop : ∀ {xs : List V} {us : List Value} (n : Nat), Vals xs us → Vals (xs.drop n) (us.drop n)
  | _, _, 0, r => r
  | _, _, _ + 1, .nil => .nil
  | _, _, n + 1, .cons _ t => Vals.drop n t
noncomputable def RelO : Option V → Option Value → Prop
  | some v, some u => RelV v u
  | none, none => True
  | _, _ => False
noncomputable def KV {κ : Type} : List (κ × V) → List (κ × Value) → Prop := Paired fun (p : κ × V) (q : κ × Value) => p.1 = q.1 ∧ RelV p.2 q.2
noncomputable def kV : Key → V
  | .inl i => .int i
  | .inr x => .str x
inductive HO where
  | lst (xs : List V)
  | tup (xs : List V)
  | dK (kvs : List (Key × V)) | dT (kvs : List (List Key × V))
  | set (S : Int → Bool) (n : Nat)
  | ins (C dx : Addr) (fs : List (Str × V))
  | own (x : Addr)
  | xd (fs : List (Str × V))
  | met (f x : Addr)
  | rng (lo hi : Int)
  | frz (o : Obj) (u : HO)
  | tbl (ps : Array Value)
  | ext (φ : Heap → Prop)
noncomputable abbrev Hp := Addr → Option HO
noncomputable def upd (H : Hp) (a : Addr) (o : HO) : Hp := fun b => if b = a then some o else H b
theorem upd_same {H : Hp} {a : Addr} {o : HO} : upd H a o a = some o := by unfold upd; rw [if_pos rfl]
theorem upd_ne {H : Hp} {a b : Addr} {o : HO} (h : b ≠ a) : upd H a o b = H b := by unfold upd; rw [if_neg h]
theorem ne_of_none {H : Hp} {a b : Addr} {o : HO} (h : H a = some o) (h' : H b = none) : a ≠ b := by
  intro e; subst e; rw [h] at h'; cases h'
section
variable (P : Program) (w : World)
noncomputable def ObjOk (H : Hp) (h : Heap) (a : Addr) : HO → Prop
  | .lst xs => xs.length ≤ sizeLine ∧ ∃ (its : List Value) (n : Nat), Vals xs its ∧ h.get? a = some { cls := .type "list", data := .seq its.toArray n }
  | .tup xs => xs.length ≤ sizeLine ∧ ∃ its : List Value, Vals xs its ∧ IsTup h a its.toArray
  | .dK kvs => kvs.length ≤ sizeLine ∧ (a == sysModules) = false ∧ ∃ vs, KV kvs vs ∧ h.DictOf (mixKind P w) a vs
  | .dT kvs => kvs.length ≤ sizeLine ∧ (a == sysModules) = false ∧ ∃ xs : List (List Key × Addr × Value),
      Paired (fun (p : List Key × V) (q : List Key × Addr × Value) => p.1 = q.1 ∧ H q.2.1 = some (.tup (p.1.map kV)) ∧ RelV p.2 q.2.2) kvs xs ∧
      ∃ o es ep, h.get? a = some o ∧ o.ExactDict ∧ o.data = .dict es ep ∧ es.toList = xs.map (entryOfKey (tupleKind (mixKind P w))) ∧ (xs.map (·.1)).Nodup
  | .set S n => h.SetOf (intKind P w) a S n
  | .ins C dx fs => H dx = some (.own a) ∧ fs.length ≤ 1000 ∧ dx ≠ a ∧ h.get? a = some (PySem.W.instObj C dx) ∧
      ∃ mA, h.Ns1 dx mA ∧ (∀ f, RelO (fs.lookup f) (mA f)) ∧ PySem.Within mA (fs.map (·.1))
  | .own _ => ∃ o, h.get? a = some o
  | .xd fs => ∃ mA, h.Ns1 a mA ∧ ∀ f, RelO (fs.lookup f) (mA f)
  | .rng lo hi => ∃ t u v, h.get? a = some { cls := .type "range", data := .fields #[.int lo t, .int hi u, .int 1 v] }
  | .frz o u => h.get? a = some o ∧ ObjOk H h a u
  | .tbl ps => h.get? a = some { cls := .none, data := .fields ps }
  | .met f x => h.get? a = some (PySem.W.methodObj (.ref f) (.ref x))
  | .ext φ => φ h ∧ (∃ o, h.get? a = some o) ∧ ∀ h1 h2 : Heap, φ h1 → (∀ o, h1.get? a = some o → h2.get? a = some o) → φ h2
noncomputable def HOk (H : Hp) (h : Heap) : Prop := ∀ a o, H a = some o → ObjOk P w H h a o
end
section
variable {P : Program} {w : World} {H H' : Hp} {h h' : Heap} {a : Addr} {o : HO}
theorem ObjOk.lt (x : ObjOk P w H h a o) : a < h.objs.size := by
  cases o with
  | lst xs => obtain ⟨_, _, _, _, e⟩ := x; exact Heap.lt_size e
  | tup xs => obtain ⟨_, _, _, p⟩ := x; exact p.lt
  | dK kvs => obtain ⟨_, _, _, _, o, _, _, e, _⟩ := x; exact Heap.lt_size e
  | dT kvs => obtain ⟨_, _, _, _, o, _, _, e, _⟩ := x; exact Heap.lt_size e
  | set S n => obtain ⟨o, _, _, _, e, _⟩ := x; exact Heap.lt_size e
  | ins C dx fs => obtain ⟨_, _, _, e, _⟩ := x; exact Heap.lt_size e
  | own y => obtain ⟨_, e⟩ := x; exact Heap.lt_size e
  | xd fs => obtain ⟨_, ⟨_, _, _, e, _⟩, _⟩ := x; exact Heap.lt_size e
  | rng lo hi => obtain ⟨_, _, _, e⟩ := x; exact Heap.lt_size e
  | frz ob u => obtain ⟨e, _⟩ := x; exact Heap.lt_size e
  | tbl ps => exact Heap.lt_size (show h.get? a = some _ from x)
  | met f y => exact Heap.lt_size (show h.get? a = some _ from x)
  | ext φ => obtain ⟨_, ⟨_, e⟩, _⟩ := x; exact Heap.lt_size e
theorem Paired.mapP {α β : Type} {F G : α → β → Prop} : ∀ {l₁ : List α} {l₂ : List β}, Paired F l₁ l₂ → (∀ a b, F a b → G a b) → Paired G l₁ l₂
  | _, _, .nil, _ => .nil
  | _, _, .cons r t, f => .cons (f _ _ r) (Paired.mapP t f)
theorem ObjOk.stay (x : ObjOk P w H h a o) (k : ∀ b u, (b = a ∨ H b = some (.own a)) → h.get? b = some u → h'.get? b = some u)
    (ho : ∀ b, H b = some (.own a) → H' b = some (.own a)) (ht : ∀ b xs, H b = some (.tup xs) → H' b = some (.tup xs)) : ObjOk P w H' h' a o := by
  induction o with
  | lst xs => obtain ⟨z, its, n, r, e⟩ := x; exact ⟨z, its, n, r, k _ _ (.inl rfl) e⟩
  | tup xs => obtain ⟨z, its, r, ob, e, c⟩ := x; exact ⟨z, its, r, ob, k _ _ (.inl rfl) e, c⟩
  | dK kvs => obtain ⟨z, y, vs, r, ob, es, ep, e, c⟩ := x; exact ⟨z, y, vs, r, ob, es, ep, k _ _ (.inl rfl) e, c⟩
  | dT kvs =>
    obtain ⟨z, y, xs, r, ob, es, ep, e, c⟩ := x
    exact ⟨z, y, xs, Paired.mapP r fun p q z => ⟨z.1, ht _ _ z.2.1, z.2.2⟩, ob, es, ep, k _ _ (.inl rfl) e, c⟩
  | set S n => obtain ⟨ob, es, ep, t, e, c⟩ := x; exact ⟨ob, es, ep, t, k _ _ (.inl rfl) e, c⟩
  | ins C dx fs =>
    obtain ⟨d, z, ne, e, mA, ⟨od, es, ep, e2, c⟩, r⟩ := x
    exact ⟨ho _ d, z, ne, k _ _ (.inl rfl) e, mA, ⟨od, es, ep, k _ _ (.inr d) e2, c⟩, r⟩
  | own y => obtain ⟨ob, e⟩ := x; exact ⟨ob, k _ _ (.inl rfl) e⟩
  | xd fs => obtain ⟨mA, ⟨od, es, ep, e, c⟩, r⟩ := x; exact ⟨mA, ⟨od, es, ep, k _ _ (.inl rfl) e, c⟩, r⟩
  | rng lo hi => obtain ⟨t, u, v, e⟩ := x; exact ⟨t, u, v, k _ _ (.inl rfl) e⟩
  | frz ob u ih => obtain ⟨e, q⟩ := x; exact ⟨k _ _ (.inl rfl) e, ih q⟩
  | tbl ps =>
    have e : h.get? a = some { cls := .none, data := .fields ps } := x
    show h'.get? a = some { cls := .none, data := .fields ps }
    exact k a _ (.inl rfl) e
  | met f y =>
    have e : h.get? a = some (PySem.W.methodObj (.ref f) (.ref y)) := x
    show h'.get? a = some (PySem.W.methodObj (.ref f) (.ref y))
    exact k a _ (.inl rfl) e
  | ext φ => obtain ⟨p, ⟨o, e⟩, st⟩ := x; exact ⟨st _ _ p fun o q => k _ _ (.inl rfl) q, ⟨o, k _ _ (.inl rfl) e⟩, st⟩
theorem HOk.lt (x : HOk P w H h) (e : H a = some o) : a < h.objs.size := (x a o e).lt
theorem HOk.fresh (x : HOk P w H h) (e : h.objs.size ≤ a) : H a = none := by
  cases q : H a with
  | none => rfl
  | some u => exact absurd (Nat.lt_of_lt_of_le (x.lt q) e) (Nat.lt_irrefl _)
theorem HOk.kept (x : HOk P w H h) (k : ∀ b u, h.get? b = some u → h'.get? b = some u) : HOk P w H h' := fun a o e =>
  (x a o e).stay (fun b u _ q => k b u q) (fun _ q => q) fun _ _ q => q
theorem HOk.laid (x : HOk P w H h) (k : ∀ b u, h.get? b = some u → h'.get? b = some u) (hp : h.objs.size ≤ a) (new : ObjOk P w (upd H a o) h' a o) : HOk P w (upd H a o) h' := fun b u e => by
  have hn := x.fresh hp
  by_cases hb : b = a
  · subst hb; rw [upd_same] at e; cases e; exact new
  · rw [upd_ne hb] at e
    exact (x b u e).stay (fun c v _ q => k c v q) (fun c q => by rw [upd_ne (ne_of_none q hn)]; exact q) fun c xs q => by rw [upd_ne (ne_of_none q hn)]; exact q
end
noncomputable def Rd (H : Hp) (a : Addr) (u : HO) : Prop := H a = some u ∨ ∃ o, H a = some (.frz o u)
theorem Rd.of {H : Hp} {a : Addr} {u : HO} (h : H a = some u) : Rd H a u := .inl h
theorem Rd.ok {P : Program} {w : World} {H : Hp} {h : Heap} {a : Addr} {u : HO} (r : Rd H a u) (x : HOk P w H h) : ObjOk P w H h a u := by
  rcases r with r | ⟨o, r⟩
  · exact x a u r
  · obtain ⟨_, q⟩ := x a _ r
    exact q
noncomputable def Mut : Option HO → Prop
  | some (.lst _) => True
  | some (.dK _) => True
  | some (.dT _) => True
  | some (.set _ _) => True
  | some (.ins _ _ _) => True
  | some (.ext _) => True
  | _ => False
section
variable {P : Program} {w : World} {H : Hp} {h h' : Heap} {x e : Addr} {o' : HO}
theorem HOk.write (ok : HOk P w H h) (mu : Mut (H x)) (he : e = x ∨ H e = some (.own x)) (k : ∀ b u, b ≠ e → h.get? b = some u → h'.get? b = some u) (heo : ∃ u, h'.get? e = some u)
    (new : ObjOk P w (upd H x o') h' x o') : HOk P w (upd H x o') h' := fun b u q => by
  have nown : ∀ c y, H c = some (.own y) → c ≠ x := fun c y r z => by subst z; rw [r] at mu; exact mu
  have ntup : ∀ c xs, H c = some (.tup xs) → c ≠ x := fun c xs r z => by subst z; rw [r] at mu; exact mu
  by_cases hb : b = x
  · subst hb; rw [upd_same] at q; cases q; exact new
  · rw [upd_ne hb] at q
    by_cases hbe : b = e
    · have q' : H b = some (.own x) := by
        rcases he with z | z
        · exact absurd (hbe.trans z) hb
        · rw [hbe]; exact z
      rw [q] at q'; cases q'
      obtain ⟨v, hv⟩ := heo
      exact ⟨v, by rw [hbe]; exact hv⟩
    · refine (ok b u q).stay (fun c v hc r => k c v ?_ r) (fun c r => by rw [upd_ne (nown c b r)]; exact r) fun c xs r => by rw [upd_ne (ntup c xs r)]; exact r
      rcases hc with rfl | hc
      · exact hbe
      · rintro rfl
        rcases he with z | z
        · exact nown c b hc z
        · rw [hc] at z; cases z; exact hb rfl
end
structure Un (fs ex : List Addr) (H H' : Hp) (h h' : Heap) : Prop where
  keep : ∀ b o, h.get? b = some o → H b = none → b ∉ fs → b ∉ ex → h'.get? b = some o
  slot : ∀ b o, h.get? b = some o → H b = none → b ∈ fs → b ∉ ex → ∃ sl, h'.get? b = some { o with slots := sl }
  free : ∀ b o, h.get? b = some o → H b = none → b ∉ ex → H' b = none
  there : ∀ b o, h.get? b = some o → b ∉ ex → ∃ o', h'.get? b = some o'
  tups : ∀ b xs, H b = some (.tup xs) → H' b = some (.tup xs)
  frzs : ∀ b o u, H b = some (.frz o u) → H' b = some (.frz o u)
  tbls : ∀ b ps, H b = some (.tbl ps) → ∃ more, H' b = some (.tbl (ps ++ more))
section
variable {fs fs' ex ex' : List Addr} {H H1 H2 : Hp} {h h1 h2 h' : Heap} {a x e : Addr} {o : HO}
theorem Un.any (u : Un fs ex H H1 h h1) {b : Addr} {ob : Obj} (q : h.get? b = some ob) (n : H b = none) (hx : b ∉ ex) : ∃ sl, h1.get? b = some { ob with slots := sl } := by
  by_cases hb : b ∈ fs
  · exact u.slot b ob q n hb hx
  · exact ⟨ob.slots, u.keep b ob q n hb hx⟩
theorem Un.trans (a : Un fs ex H H1 h h1) (b : Un fs ex H1 H2 h1 h2) : Un fs ex H H2 h h2 where
  keep := fun c ob q n hc hx => b.keep c ob (a.keep c ob q n hc hx) (a.free c ob q n hx) hc hx
  slot := fun c ob q n hc hx => by
    obtain ⟨sl, e1⟩ := a.slot c ob q n hc hx
    obtain ⟨sl', e2⟩ := b.slot c _ e1 (a.free c ob q n hx) hc hx
    exact ⟨sl', e2⟩
  free := fun c ob q n hx => by
    obtain ⟨o', e1⟩ := a.there c ob q hx
    exact b.free c o' e1 (a.free c ob q n hx) hx
  there := fun c ob q hx => by
    obtain ⟨o', e1⟩ := a.there c ob q hx
    exact b.there c o' e1 hx
  tups := fun c xs q => b.tups c xs (a.tups c xs q)
  frzs := fun c ob xs q => b.frzs c ob xs (a.frzs c ob xs q)
  tbls := fun c ps q => by
    obtain ⟨m1, e1⟩ := a.tbls c ps q
    obtain ⟨m2, e2⟩ := b.tbls c _ e1
    exact ⟨m1 ++ m2, by rw [e2, Array.append_assoc]⟩
theorem Un.kept (k : ∀ b u, h.get? b = some u → h'.get? b = some u) : Un fs ex H H h h' :=
  ⟨fun b ob q _ _ _ => k b ob q, fun b ob q _ _ _ => ⟨ob.slots, k b ob q⟩, fun _ _ _ n _ => n, fun b ob q _ => ⟨ob, k b ob q⟩, fun _ _ q => q, fun _ _ _ q => q, fun _ ps q => ⟨#[], by rw [q]; simp⟩⟩
theorem Un.refl : Un fs ex H H h h := Un.kept fun _ _ q => q
theorem Un.laid (k : ∀ b u, h.get? b = some u → h'.get? b = some u) (hp : h.objs.size ≤ a) (hn : H a = none) : Un fs ex H (upd H a o) h h' where
  keep := fun b u q _ _ _ => k b u q
  slot := fun b u q _ _ _ => ⟨u.slots, k b u q⟩
  free := fun b u q n _ => by rw [upd_ne (Nat.ne_of_lt (Nat.lt_of_lt_of_le (Heap.lt_size q) hp))]; exact n
  there := fun b u q _ => ⟨u, k b u q⟩
  tups := fun b xs q => by rw [upd_ne (ne_of_none q hn)]; exact q
  frzs := fun b u xs q => by rw [upd_ne (ne_of_none q hn)]; exact q
  tbls := fun b ps q => ⟨#[], by rw [upd_ne (ne_of_none q hn), q]; simp⟩
theorem Un.write (mu : Mut (H x)) (he : e = x ∨ H e = some (.own x)) (k : ∀ b u, b ≠ e → h.get? b = some u → h'.get? b = some u) (heo : ∃ u, h'.get? e = some u) : Un fs ex H (upd H x o) h h' := by
  have hx : ∀ b, H b = none → b ≠ x := fun b n z => by subst z; rw [n] at mu; exact mu
  have hb : ∀ b, H b = none → b ≠ e := fun b n z => by
    subst z
    rcases he with r | r
    · exact hx b n r
    · rw [n] at r; cases r
  have hm : ∀ b u, H b = some u → ¬ Mut (some u) → b ≠ x := fun b u q nm z => by subst z; rw [q] at mu; exact nm mu
  refine ⟨fun b u q n _ _ => k b u (hb b n) q, fun b u q n _ _ => ⟨u.slots, k b u (hb b n) q⟩, fun b u q n _ => by rw [upd_ne (hx b n)]; exact n, fun b u q _ => ?_,
    fun b xs q => by rw [upd_ne (hm b _ q fun z => z)]; exact q, fun b u xs q => by rw [upd_ne (hm b _ q fun z => z)]; exact q, fun b ps q => ⟨#[], by rw [upd_ne (hm b _ q fun z => z), q]; simp⟩⟩
  by_cases hbe : b = e
  · subst hbe; exact heo
  · exact ⟨u, k b u hbe q⟩
theorem Un.mono (u : Un fs ex H H1 h h1) (hs : ∀ b ∈ fs, b ∈ fs') (hx : ∀ b ∈ ex, b ∈ ex') : Un fs' ex' H H1 h h1 :=
  ⟨fun b ob q n hb he => u.keep b ob q n (fun z => hb (hs b z)) fun z => he (hx b z), fun _ _ q n _ he => u.any q n fun z => he (hx _ z), fun b ob q n he => u.free b ob q n fun z => he (hx b z), fun b ob q he => u.there b ob q fun z => he (hx b z), u.tups, u.frzs, u.tbls⟩
end
noncomputable def trk (h : Heap) (H : Hp) : List Addr := (List.range h.objs.size).filter fun a => (H a).isSome
noncomputable def hidT (h : Heap) (H : Hp) : Heap := PySem.W.hideAll h (trk h H)
theorem hidT_size (h : Heap) (H : Hp) : (hidT h H).objs.size = h.objs.size := PySem.W.hideAll_size _ _
theorem hidT_get {h : Heap} {H : Hp} {b : Addr} {o : Obj} (e : h.get? b = some o) (n : H b = none) : (hidT h H).get? b = some o :=
  PySem.W.hideAll_get _ e fun hm => by
    have q : (H b).isSome = true := (List.mem_filter.mp hm).2
    rw [n] at q; simp at q
theorem of_hidT {h : Heap} {H : Hp} {b : Addr} {o : Obj} (e : (hidT h H).get? b = some o) : h.get? b = some o ∧ H b = none := by
  have e' : h.get? b = some o := PySem.W.of_hideAll (trk h H) e
  refine ⟨e', ?_⟩
  cases q : H b with
  | none => rfl
  | some x =>
    have hm : b ∈ trk h H := List.mem_filter.mpr ⟨List.mem_range.mpr (Heap.lt_size e'), by simp [q]⟩
    have z : (hidT h H).get? b = none := PySem.W.hideAll_none (trk h H) hm
    rw [z] at e; cases e
noncomputable def allNews (g h : Heap) (L : Addr) : List (Addr × Obj) := (List.range h.objs.size).filterMap fun a => if a = L ∨ (g.get? a).isSome = true then none else (h.get? a).map fun o => (a, o)
noncomputable def rest (g h : Heap) (L d : Addr) : List (Addr × Obj) := (allNews g h L).filter fun p => decide (p.1 ≠ d)
end L2
namespace L2
open PySem PySem.Spec PyProof.Rows
structure Mod (K : PySem.W.Frag) (mg : Str → Option Value) (base : Heap) : Prop where
  kin : K.In base
  glob : base.Ns mainGlobals mg
  blt : ∃ mb, base.Ns builtinsNs mb ∧ ∀ x : Str, x ≠ "__name__" → mb x = bootBuiltins x
  nolimit : base.NoLimit
structure Cx where
  prog : Program
  w : World
  K : PySem.W.Frag
  mg : Str → Option Value
  base : Heap
  A : Around
  N : List Str
  s₀ : Shared
  H₀ : Hp
  env : Env
  outer : List Env
  stack : List Env
  ex : List Addr
  fn : Str → Bool
  calm : Bool
  pn : List (Addr × Obj)
  xe : Value → Shared → Prop
noncomputable def frs (l : List Env) : List Addr := l.filterMap (·.frame)
noncomputable abbrev Cx.fs (X : Cx) : List Addr := frs X.outer
noncomputable def Vis (sc : Scope) (x : Str) : Prop := sc.names.lookup x = some .local ∨ sc.names.lookup x = some .cell ∨ sc.names.lookup x = some .free
noncomputable def Loc (sc : Scope) (x : Str) : Prop := sc.names.lookup x = some .local ∨ sc.names.lookup x = some .cell
noncomputable def Look (env : Env) (h : Heap) (m : Str → Option Value) (x : Str) (u : Value) : Prop :=
  (env.kindOf x = some .local ∧ m x = some u) ∨ ((env.kindOf x = some .cell ∨ env.kindOf x = some .free) ∧ ∃ c, env.cells.lookup x = some c ∧ h.IsCell c (some u))
structure Cx.Ok (X : Cx) : Prop where
  mod : Mod X.K X.mg X.base
  kind : X.env.scope.kind = .function
  glob : X.env.globals = mainGlobals
  blt : X.env.builtins = builtinsNs
  above : X.s₀.heap.objs.size ≤ X.env.locals
  inj : ∀ x y c, X.env.cells.lookup x = some c → X.env.cells.lookup y = some c → x = y
  has : ∀ x, (X.env.kindOf x = some .cell ∨ X.env.kindOf x = some .free) → ∃ c, X.env.cells.lookup x = some c
  cab : ∀ x c, X.fn x = true → X.env.cells.lookup x = some c → X.s₀.heap.objs.size ≤ c
  hd : X.calm = true → X.A.handled = none
  frames : X.A.frames = some X.stack
  stk : X.stack = X.outer ∨ (X.stack = X.env :: X.outer ∧ X.env.frame = some X.env.locals)
  exf : ∀ b ∈ X.ex, b ≠ X.env.locals ∧ ∀ x c, X.env.cells.lookup x = some c → c ≠ b
  bs : ∀ b o, X.base.get? b = some o → X.s₀.heap.get? b = some o ∧ X.H₀ b = none
  bsz : X.base.objs.size ≤ X.s₀.heap.objs.size
  noex : ∀ b o, X.base.get? b = some o → b ∉ X.ex
  exfs : ∀ b ∈ X.ex, b ∉ X.fs
  funs : X.s₀.heap.FunFrames X.base X.outer
  frf : ∀ b ∈ X.fs, X.H₀ b = none
structure Inv (X : Cx) (pins : List (Addr × Obj)) (σ : List (Option V)) (H : Hp) (s : Shared) : Prop where
  ok : X.Ok
  os : s.os = X.s₀.os
  bare : AllBare s.gens
  base : Un X.fs X.ex X.H₀ H X.s₀.heap s.heap
  loc : ∃ m, s.heap.Ns X.env.locals m ∧ ∀ (i : Nat) (x : Str) (v : V), X.N[i]? = some x → σ[i]? = some (some v) → Vis X.env.scope x → ∃ u, RelV v u ∧ Look X.env s.heap m x u
  cell : ∀ x c, X.env.cells.lookup x = some c → ∃ v, s.heap.IsCell c v
  free : H X.env.locals = none
  freeC : ∀ x c, X.env.cells.lookup x = some c → H c = none
  pin : ∀ p ∈ X.pn ++ pins, s.heap.get? p.1 = some p.2 ∧ H p.1 = none ∧ p.1 ≠ X.env.locals ∧ p.1 ∉ X.fs ∧ ∀ v, p.2.data ≠ .cell v
  hok : HOk X.prog X.w H s.heap
  len : σ.length = X.N.length
section
variable {X : Cx} {pins : List (Addr × Obj)} {σ : List (Option V)} {H H' : Hp} {s : Shared} {h' : Heap}
theorem Cx.Ok.nofr (ok : X.Ok) {b : Addr} {o : Obj} (e : X.base.get? b = some o) : b ∉ X.fs := fun hb => by
  have := (ok.funs.mem hb).1
  rw [e] at this; cases this
theorem Inv.bs (I : Inv X pins σ H s) : ∀ b o, X.base.get? b = some o → s.heap.get? b = some o ∧ H b = none := fun b o e =>
  ⟨I.base.keep b o (I.ok.bs b o e).1 (I.ok.bs b o e).2 (I.ok.nofr e) (I.ok.noex b o e), I.base.free b o (I.ok.bs b o e).1 (I.ok.bs b o e).2 (I.ok.noex b o e)⟩
theorem Inv.bk (I : Inv X pins σ H s) : ∀ b o, X.base.get? b = some o → s.heap.get? b = some o := fun b o e => (I.bs b o e).1
theorem Inv.mod (I : Inv X pins σ H s) : Mod X.K X.mg X.base := I.ok.mod
theorem Inv.kIn (I : Inv X pins σ H s) : X.K.In s.heap := I.ok.mod.kin.keeps I.bk
theorem Inv.nolimit (I : Inv X pins σ H s) : s.heap.NoLimit := I.ok.mod.nolimit.keeps I.bk
theorem Inv.fr (I : Inv X pins σ H s) : ∃ m, Fr X.base X.env.locals s.heap m :=
  let ⟨m, hn, _⟩ := I.loc
  ⟨m, hn, I.bk, Nat.le_trans I.ok.bsz I.ok.above⟩
theorem Inv.lt (I : Inv X pins σ H s) : X.env.locals < s.heap.objs.size := let ⟨_, hn, _⟩ := I.loc; hn.lt
theorem Inv.sz (I : Inv X pins σ H s) : X.s₀.heap.objs.size ≤ s.heap.objs.size := Nat.le_trans I.ok.above (Nat.le_of_lt I.lt)
theorem Inv.nofs (I : Inv X pins σ H s) {a : Addr} (h : s.heap.objs.size ≤ a) : a ∉ X.fs := fun hb => by
  obtain ⟨_, o, ho, _⟩ := I.ok.funs.mem hb
  exact absurd (Nat.lt_of_lt_of_le (Heap.lt_size ho) (Nat.le_trans I.sz h)) (Nat.lt_irrefl _)
theorem Inv.cne (I : Inv X pins σ H s) : ∀ x c, X.env.cells.lookup x = some c → c ≠ X.env.locals := fun x c e z => by
  obtain ⟨v, o, ho, hd⟩ := I.cell x c e
  obtain ⟨m, ⟨o', es, ep, ho', hd', _⟩, _⟩ := I.loc
  rw [z, ho'] at ho; cases ho; rw [hd'] at hd; cases hd
theorem Inv.funs (I : Inv X pins σ H s) : s.heap.FunFrames X.base X.outer := by
  have all : ∀ (l : List Env), (∀ b ∈ frs l, b ∈ X.fs) → X.s₀.heap.FunFrames X.base l → s.heap.FunFrames X.base l := by
    intro l
    induction l with
    | nil => intro _ _; trivial
    | cons env r ih =>
      intro hs hl
      obtain ⟨hk, ⟨L, o, hf, hn, ho, hd⟩, hr⟩ := hl
      have hL : L ∈ X.fs := hs L (by unfold frs; rw [List.filterMap_cons, hf]; exact List.mem_cons_self)
      obtain ⟨sl, e⟩ := I.base.slot L o ho (I.ok.frf L hL) hL fun z => I.ok.exfs L z hL
      exact ⟨hk, ⟨L, _, hf, hn, e, hd⟩, ih (fun b hb => hs b (by unfold frs; rw [List.filterMap_cons, hf]; exact List.mem_cons_of_mem _ hb)) hr⟩
  exact all X.outer (fun _ hb => hb) I.ok.funs
theorem Inv.stack (I : Inv X pins σ H s) : s.heap.FunFrames X.base X.stack := by
  rcases I.ok.stk with e | ⟨e, hf⟩
  · rw [e]; exact I.funs
  · rw [e]
    obtain ⟨m, hn, _⟩ := I.loc
    refine .cons (by rw [I.ok.kind]; decide) hf hn ?_ I.funs
    exact Heap.get?_none_of_le (Nat.le_trans I.ok.bsz I.ok.above)
theorem Inv.stkSub (I : Inv X pins σ H s) : ∀ b ∈ frs X.stack, b ∈ X.env.locals :: X.fs := fun b hb => by
  rcases I.ok.stk with e | ⟨e, hf⟩
  · rw [e] at hb; exact List.mem_cons_of_mem _ hb
  · rw [e] at hb
    unfold frs at hb
    rw [List.filterMap_cons, hf] at hb
    exact hb
theorem Inv.stkFree (I : Inv X pins σ H s) : ∀ b ∈ frs X.stack, H b = none := fun b hb => by
  rcases List.mem_cons.mp (I.stkSub b hb) with e | hb
  · rw [e]; exact I.free
  · obtain ⟨_, o, ho, _⟩ := I.ok.funs.mem hb
    exact I.base.free b o ho (I.ok.frf b hb) fun z => I.ok.exfs b z hb
theorem Inv.step {g' : Array GenState} {t' : Nat} {d' : Drawn} {ch : List Addr} (I : Inv X pins σ H s)
    (hch : ∀ b ∈ ch, (b ∈ X.ex ∨ X.s₀.heap.objs.size ≤ b) ∧ b ≠ X.env.locals ∧ (∀ x c, X.env.cells.lookup x = some c → c ≠ b) ∧ ∀ p ∈ X.pn ++ pins, p.1 ≠ b)
    (keep : ∀ b o, b ≠ X.env.locals → b ∉ X.fs → b ∉ ch → s.heap.get? b = some o → H b = none → h'.get? b = some o)
    (slot : ∀ b o, b ≠ X.env.locals → b ∈ X.fs → b ∉ ch → s.heap.get? b = some o → H b = none → ∃ sl, h'.get? b = some { o with slots := sl }) (free : ∀ b o, b ∉ ch → s.heap.get? b = some o → H b = none → H' b = none)
    (there : ∀ b o, b ∉ ch → s.heap.get? b = some o → ∃ o', h'.get? b = some o')
    (tups : ∀ b xs, H b = some (.tup xs) → H' b = some (.tup xs)) (frzs : ∀ b o u, H b = some (.frz o u) → H' b = some (.frz o u)) (tbls : ∀ b ps, H b = some (.tbl ps) → ∃ more, H' b = some (.tbl (ps ++ more)))
    (ns : ∀ m, s.heap.Ns X.env.locals m → h'.Ns X.env.locals m) (hok : HOk X.prog X.w H' h') (hg : AllBare g') :
    Inv X pins σ H' { s with heap := h', gens := g', drawn := d', toks := t' } := by
  have neL : ∀ b o, X.s₀.heap.get? b = some o → b ≠ X.env.locals := fun b o e => Nat.ne_of_lt (Nat.lt_of_lt_of_le (Heap.lt_size e) I.ok.above)
  have neC : ∀ b o, X.s₀.heap.get? b = some o → b ∉ X.ex → b ∉ ch := fun b o e hx hb => by
    rcases (hch b hb).1 with z | z
    · exact hx z
    · exact absurd (Nat.lt_of_lt_of_le (Heap.lt_size e) z) (Nat.lt_irrefl _)
  have cellK : ∀ x c, X.env.cells.lookup x = some c → ∀ v, s.heap.IsCell c v → h'.IsCell c v := fun x c e v zz1_0 => by
    obtain ⟨o, ho, hd⟩ := zz1_0
    have nch : c ∉ ch := fun z => (hch c z).2.2.1 x c e rfl
    by_cases hc : c ∈ X.fs
    · obtain ⟨sl, q⟩ := slot c o (I.cne x c e) hc nch ho (I.freeC x c e)
      exact ⟨_, q, hd⟩
    · exact ⟨o, keep c o (I.cne x c e) hc nch ho (I.freeC x c e), hd⟩
  refine ⟨I.ok, I.os, hg, ⟨fun b o e n hb hx => ?_, fun b o e n hb hx => ?_, fun b o e n hx => ?_, fun b o e hx => ?_, fun b xs e => tups b xs (I.base.tups b xs e), fun b o xs e => frzs b o xs (I.base.frzs b o xs e), fun b ps e => ?_⟩, ?_, fun x c e => ?_, ?_, fun x c e => ?_, fun p hp => ?_, hok, I.len⟩
  · exact keep b o (neL b o e) hb (neC b o e hx) (I.base.keep b o e n hb hx) (I.base.free b o e n hx)
  · obtain ⟨sl, e1⟩ := I.base.slot b o e n hb hx
    obtain ⟨sl', e2⟩ := slot b _ (neL b o e) hb (neC b o e hx) e1 (I.base.free b o e n hx)
    exact ⟨sl', e2⟩
  · obtain ⟨o', e1⟩ := I.base.there b o e hx
    exact free b o' (neC b o e hx) e1 (I.base.free b o e n hx)
  · obtain ⟨o', e1⟩ := I.base.there b o e hx
    exact there b o' (neC b o e hx) e1
  · obtain ⟨m1, e1⟩ := I.base.tbls b ps e
    obtain ⟨m2, e2⟩ := tbls b _ e1
    exact ⟨m1 ++ m2, by rw [e2, Array.append_assoc]⟩
  · obtain ⟨m, hn, hl⟩ := I.loc
    refine ⟨m, ns m hn, fun i x v e1 e2 e3 => ?_⟩
    obtain ⟨u, r, l⟩ := hl i x v e1 e2 e3
    refine ⟨u, r, ?_⟩
    rcases l with l | ⟨k, c, e, z⟩
    · exact .inl l
    · exact .inr ⟨k, c, e, cellK x c e _ z⟩
  · obtain ⟨v, z⟩ := I.cell x c e
    exact ⟨v, cellK x c e v z⟩
  · obtain ⟨m, ⟨o, _, _, ho, _⟩, _⟩ := I.loc
    exact free _ o (fun z => (hch _ z).2.1 rfl) ho I.free
  · obtain ⟨v, o, ho, hd⟩ := I.cell x c e
    exact free c o (fun z => (hch c z).2.2.1 x c e rfl) ho (I.freeC x c e)
  · obtain ⟨e, n, ne, nf, d⟩ := I.pin p hp
    have nch : p.1 ∉ ch := fun z => (hch p.1 z).2.2.2 p hp rfl
    exact ⟨keep p.1 p.2 ne nf nch e n, free p.1 p.2 nch e n, ne, nf, d⟩
theorem Inv.un {t' : Nat} (I : Inv X pins σ H s) (u : Un X.fs [] H H' s.heap h') (hok : HOk X.prog X.w H' h') : Inv X pins σ H' { s with heap := h', toks := t' } := by
  obtain ⟨m, ⟨o, es, ep, ho, r⟩, _⟩ := id I.loc
  obtain ⟨sl, hL⟩ := u.any ho I.free (by simp)
  exact I.step (g' := s.gens) (d' := s.drawn) (ch := []) (fun _ z => nomatch z) (fun b o _ hb _ e n => u.keep b o e n hb (by simp)) (fun b o _ hb _ e n => u.slot b o e n hb (by simp)) (fun b o _ e n => u.free b o e n (by simp)) (fun b o _ e => u.there b o e (by simp)) u.tups u.frzs u.tbls (fun m' hm => by
    obtain ⟨o', es', ep', ho', r'⟩ := hm
    rw [ho] at ho'; cases ho'
    exact ⟨_, es', ep', hL, r'⟩) hok I.bare
theorem Inv.call {g' : Array GenState} {t' : Nat} {d' : Drawn} {ch : List Addr} (I : Inv X pins σ H s) (u : Un (frs X.stack) ch H H' s.heap h') (hok : HOk X.prog X.w H' h') (hg : AllBare g')
    (hch : ∀ b ∈ ch, (b ∈ X.ex ∨ X.s₀.heap.objs.size ≤ b) ∧ b ≠ X.env.locals ∧ (∀ x c, X.env.cells.lookup x = some c → c ≠ b) ∧ ∀ p ∈ X.pn ++ pins, p.1 ≠ b) :
    Inv X pins σ H' { s with heap := h', gens := g', drawn := d', toks := t' } := by
  obtain ⟨m, ⟨o, es, ep, ho, r⟩, _⟩ := id I.loc
  obtain ⟨sl, hL⟩ := u.any ho I.free fun z => (hch _ z).2.1 rfl
  exact I.step (ch := ch) hch (fun b o hL hb hc e n => u.keep b o e n (fun z => (List.mem_cons.mp (I.stkSub b z)).elim hL hb) hc) (fun b o _ _ hc e n => u.any e n hc) (fun b o hc e n => u.free b o e n hc) (fun b o hc e => u.there b o e hc) u.tups u.frzs u.tbls (fun m' hm => by
    obtain ⟨o', es', ep', ho', r'⟩ := hm
    rw [ho] at ho'; cases ho'
    exact ⟨_, es', ep', hL, r'⟩) hok hg
theorem Inv.turned {t' : Nat} {it : Addr} (I : Inv X pins σ H s) (k : ∀ b o, b ≠ it → s.heap.get? b = some o → h'.get? b = some o) (hn : H it = none) (hL : it ≠ X.env.locals)
    (h1 : it ∈ X.ex ∨ X.s₀.heap.objs.size ≤ it) (h2 : ∀ x c, X.env.cells.lookup x = some c → c ≠ it) (h3 : ∀ p ∈ X.pn ++ pins, p.1 ≠ it) : Inv X pins σ H { s with heap := h', toks := t' } := by
  have nit : ∀ b u, H b = some u → b ≠ it := fun b u e z => by rw [z, hn] at e; cases e
  refine I.step (g' := s.gens) (d' := s.drawn) (ch := [it]) (fun b hb => ?_) (fun b o _ _ hc e _ => k b o (fun z => hc (by simp [z])) e) (fun b o _ _ hc e _ => ⟨o.slots, k b o (fun z => hc (by simp [z])) e⟩) (fun _ _ _ _ n => n)
    (fun b o hc e => ⟨o, k b o (fun z => hc (by simp [z])) e⟩) (fun _ _ e => e) (fun _ _ _ e => e) (fun b ps e => ⟨#[], by rw [e]; simp⟩) (fun m hm => ?_) (fun b u e => ?_) I.bare
  · have e : b = it := by simpa using hb
    subst e
    exact ⟨h1, hL, h2, h3⟩
  · obtain ⟨o, es, ep, ho, r⟩ := hm
    exact ⟨o, es, ep, k _ o (Ne.symm hL) ho, r⟩
  · refine (I.hok b u e).stay (fun c v hc q => k c v ?_ q) (fun _ q => q) fun _ _ q => q
    rcases hc with z | z
    · rw [z]; exact nit b u e
    · exact nit c _ z
theorem Inv.tok (I : Inv X pins σ H s) (t : Nat) : Inv X pins σ H { s with toks := t } := I.un (h' := s.heap) (t' := t) Un.refl I.hok
theorem Inv.kept {t' : Nat} (I : Inv X pins σ H s) (k : ∀ b u, s.heap.get? b = some u → h'.get? b = some u) : Inv X pins σ H { s with heap := h', toks := t' } := I.un (Un.kept k) (I.hok.kept k)
theorem Inv.laid {a : Addr} {o : HO} {t' : Nat} (I : Inv X pins σ H s) (k : ∀ b u, s.heap.get? b = some u → h'.get? b = some u) (hp : s.heap.objs.size ≤ a) (new : ObjOk X.prog X.w (upd H a o) h' a o) :
    Inv X pins σ (upd H a o) { s with heap := h', toks := t' } := I.un (Un.laid k hp (I.hok.fresh hp)) (I.hok.laid k hp new)
theorem Inv.write {x e : Addr} {o : HO} {t' : Nat} (I : Inv X pins σ H s) (mu : Mut (H x)) (he : e = x ∨ H e = some (.own x)) (k : ∀ b u, b ≠ e → s.heap.get? b = some u → h'.get? b = some u) (heo : ∃ u, h'.get? e = some u)
    (new : ObjOk X.prog X.w (upd H x o) h' x o) : Inv X pins σ (upd H x o) { s with heap := h', toks := t' } := I.un (Un.write mu he k heo) (I.hok.write mu he k heo new)
theorem Inv.pins_of {pins' : List (Addr × Obj)} (I : Inv X pins σ H s) (h : ∀ p ∈ pins', s.heap.get? p.1 = some p.2 ∧ H p.1 = none ∧ p.1 ≠ X.env.locals ∧ p.1 ∉ X.fs ∧ ∀ v, p.2.data ≠ .cell v) : Inv X pins' σ H s :=
  ⟨I.ok, I.os, I.bare, I.base, I.loc, I.cell, I.free, I.freeC, fun p hp => (List.mem_append.mp hp).elim (fun z => I.pin p (List.mem_append_left _ z)) (h p), I.hok, I.len⟩
theorem nodup_ix {N : List Str} (hN : N.Nodup) {i j : Nat} {x : Str} (a : N[i]? = some x) (b : N[j]? = some x) : i = j := by
  obtain ⟨h1, e1⟩ := List.getElem?_eq_some_iff.mp a
  obtain ⟨h2, e2⟩ := List.getElem?_eq_some_iff.mp b
  exact (List.getElem_inj hN).mp (e1.trans e2.symm)
theorem store_ok2 {M : Model} {A : Around} {E : Value → Shared → Prop} {i : Nat} {x : Str} {v : V} {u : Value} {Q : Unit → Shared → Prop} (I : Inv X pins σ H s) (hN : X.N.Nodup) (hi : X.N[i]? = some x) (hx : Loc X.env.scope x) (r : RelV v u)
    (h : ∀ s', Inv X pins (σ.set i (some v)) H s' → (∃ a, Heap.SameBut a s.heap s'.heap ∧ (a = X.env.locals ∨ X.env.cells.lookup x = some a)) → Q () s') (hf : X.fn x = true ∨ X.env.scope.names.lookup x = some .local := by first | exact .inl rfl | exact .inr rfl | assumption) : wpAny M A (storeName X.env x u) Q E s := by
  obtain ⟨m, hn, hl⟩ := id I.loc
  have hcls : (X.env.scope.kind == .class || (X.env.scope.kind == .module && X.env.locals != X.env.globals)) = false := by rw [I.ok.kind]; rfl
  have hiσ : i < σ.length := by rw [I.len]; exact (List.getElem?_eq_some_iff.mp hi).1
  have cne := I.cne
  have tracked : ∀ {a : Addr} {h' : Heap}, (∃ o, s.heap.get? a = some o ∧ H a = none) → Heap.SameBut a s.heap h' → HOk X.prog X.w H h' := fun {a h'} ha hs b ob e => by
    obtain ⟨_, _, hfree⟩ := ha
    refine (I.hok b ob e).stay (fun c w' hc q => (hs.2 c ?_).trans q) (fun _ q => q) fun _ _ q => q
    rintro rfl
    rcases hc with rfl | hc
    · rw [hfree] at e; cases e
    · rw [hfree] at hc; cases hc
  rcases hx with hk | hk
  · refine wpAny_storeName_local hk hn (fun h' hn' hs => ?_) hcls
    obtain ⟨oL, _, _, hoL, _⟩ := id hn
    refine h _ ⟨I.ok, I.os, I.bare, ⟨fun b o e n hb hx => ?_, fun b o e n hb hx => ?_, I.base.free, fun b o e hx => ?_, I.base.tups, I.base.frzs, I.base.tbls⟩, ⟨_, hn', fun j y v' e1 e2 e3 => ?_⟩, fun y c e => ?_, I.free, I.freeC, fun p hp => ?_, tracked ⟨oL, hoL, I.free⟩ hs, by simpa using I.len⟩ ⟨_, hs, .inl rfl⟩
    · exact (hs.2 b (Nat.ne_of_lt (Nat.lt_of_lt_of_le (Heap.lt_size e) I.ok.above))).trans (I.base.keep b o e n hb hx)
    · obtain ⟨sl, e1⟩ := I.base.slot b o e n hb hx
      exact ⟨sl, (hs.2 b (Nat.ne_of_lt (Nat.lt_of_lt_of_le (Heap.lt_size e) I.ok.above))).trans e1⟩
    · obtain ⟨o', e1⟩ := I.base.there b o e hx
      exact ⟨o', (hs.2 b (Nat.ne_of_lt (Nat.lt_of_lt_of_le (Heap.lt_size e) I.ok.above))).trans e1⟩
    · by_cases hj : j = i
      · subst hj
        rw [hi] at e1; cases e1
        rw [List.getElem?_set_self hiσ] at e2
        cases e2
        exact ⟨u, r, .inl ⟨hk, by simp⟩⟩
      · rw [List.getElem?_set_ne (Ne.symm hj)] at e2
        obtain ⟨u', r', q⟩ := hl j y v' e1 e2 e3
        refine ⟨u', r', ?_⟩
        rcases q with ⟨k, e⟩ | ⟨k, c, e, z⟩
        · refine .inl ⟨k, ?_⟩
          have : y ≠ x := fun e => hj (nodup_ix hN e1 (e ▸ hi))
          simp [this, e]
        · exact .inr ⟨k, c, e, z.sameBut hs (cne y c e)⟩
    · obtain ⟨w', z⟩ := I.cell y c e
      exact ⟨w', z.sameBut hs (cne y c e)⟩
    · obtain ⟨e, n, ne, nf, d⟩ := I.pin p hp
      exact ⟨(hs.2 p.1 ne).trans e, n, ne, nf, d⟩
  · have hfn : X.fn x = true := by
      rcases hf with z | z
      · exact z
      · rw [z] at hk; cases hk
    obtain ⟨c, hc⟩ := I.ok.has x (.inl hk)
    obtain ⟨w', z⟩ := I.cell x c hc
    refine wpAny_storeName_cell I.ok.kind hk hc z (fun h' hc' hs => ?_)
    obtain ⟨oc, hoc, hocd⟩ := id z
    refine h { s with heap := h' } ⟨I.ok, I.os, I.bare, ⟨fun b o e n hb hx => ?_, fun b o e n hb hx => ?_, I.base.free, fun b o e hx => ?_, I.base.tups, I.base.frzs, I.base.tbls⟩, ⟨m, hn.sameBut hs (Ne.symm (cne x c hc)), fun j y v' e1 e2 e3 => ?_⟩, fun y c' e => ?_, I.free, I.freeC, fun p hp => ?_, tracked ⟨oc, hoc, I.freeC x c hc⟩ hs, by simpa using I.len⟩ ⟨c, hs, .inr hc⟩
    · exact (hs.2 b (Nat.ne_of_lt (Nat.lt_of_lt_of_le (Heap.lt_size e) (I.ok.cab x c hfn hc)))).trans (I.base.keep b o e n hb hx)
    · obtain ⟨sl, e1⟩ := I.base.slot b o e n hb hx
      exact ⟨sl, (hs.2 b (Nat.ne_of_lt (Nat.lt_of_lt_of_le (Heap.lt_size e) (I.ok.cab x c hfn hc)))).trans e1⟩
    · obtain ⟨o', e1⟩ := I.base.there b o e hx
      exact ⟨o', (hs.2 b (Nat.ne_of_lt (Nat.lt_of_lt_of_le (Heap.lt_size e) (I.ok.cab x c hfn hc)))).trans e1⟩
    · by_cases hj : j = i
      · subst hj
        rw [hi] at e1; cases e1
        rw [List.getElem?_set_self hiσ] at e2
        cases e2
        exact ⟨u, r, .inr ⟨.inl hk, c, hc, hc'⟩⟩
      · rw [List.getElem?_set_ne (Ne.symm hj)] at e2
        obtain ⟨u', r', q⟩ := hl j y v' e1 e2 e3
        refine ⟨u', r', ?_⟩
        rcases q with q | ⟨k, c', e, z'⟩
        · exact .inl q
        · refine .inr ⟨k, c', e, z'.sameBut hs ?_⟩
          rintro rfl
          exact hj (nodup_ix hN e1 (I.ok.inj _ _ _ e hc ▸ hi))
    · by_cases hcc : c' = c
      · subst hcc; exact ⟨_, hc'⟩
      · obtain ⟨w2, z2⟩ := I.cell y c' e
        exact ⟨w2, z2.sameBut hs hcc⟩
    · obtain ⟨e, n, ne, nf, d⟩ := I.pin p hp
      refine ⟨(hs.2 p.1 ?_).trans e, n, ne, nf, d⟩
      intro q
      rw [q, hoc] at e
      have q' : oc = p.2 := Option.some.inj e
      exact d w' (by rw [← q']; exact hocd)
theorem store_ok {M : Model} {A : Around} {E : Value → Shared → Prop} {i : Nat} {x : Str} {v : V} {u : Value} {Q : Unit → Shared → Prop} (I : Inv X pins σ H s) (hN : X.N.Nodup) (hi : X.N[i]? = some x) (hx : Loc X.env.scope x) (r : RelV v u)
    (h : ∀ s', Inv X pins (σ.set i (some v)) H s' → Q () s') (hf : X.fn x = true ∨ X.env.scope.names.lookup x = some .local := by first | exact .inl rfl | exact .inr rfl | assumption) : wpAny M A (storeName X.env x u) Q E s :=
  store_ok2 I hN hi hx r (fun s' I' _ => h s' I') hf
theorem Inv.call' {s' : Shared} {ch : List Addr} (I : Inv X pins σ H s) (ho : s'.os = s.os) (u : Un (frs X.stack) ch H H' s.heap s'.heap) (hok : HOk X.prog X.w H' s'.heap) (hg : AllBare s'.gens)
    (hch : ∀ b ∈ ch, (b ∈ X.ex ∨ X.s₀.heap.objs.size ≤ b) ∧ b ≠ X.env.locals ∧ (∀ x c, X.env.cells.lookup x = some c → c ≠ b) ∧ ∀ p ∈ X.pn ++ pins, p.1 ≠ b) : Inv X pins σ H' s' := by
  obtain ⟨h', g', d', t', o'⟩ := s'
  have e : o' = s.os := ho
  subst e
  exact I.call (g' := g') (t' := t') (d' := d') u hok hg hch
end
noncomputable abbrev XK := Value → Option Addr → Hp → Prop
noncomputable abbrev St := List (Option V)
noncomputable abbrev VK := V → Hp → Prop
noncomputable abbrev TE := St → Hp → VK → Prop
noncomputable abbrev TT := St → Hp → (Bool → Hp → Prop) → Prop
noncomputable abbrev TA := St → Hp → (List V → Hp → Prop) → Prop
structure Ends where
  nx : St → Hp → Prop
  rt : VK
  bk : St → Hp → Prop := fun _ _ => False
  ct : St → Hp → Prop := fun _ _ => False
noncomputable abbrev TS := Ends → St → Hp → Prop
noncomputable def EP (X : Cx) (pins : List (Addr × Obj)) (σ : St) (Q : VK) (u : Value) (s' : Shared) : Prop := ∃ v H', Inv X pins σ H' s' ∧ RelV v u ∧ Q v H'
noncomputable def TP (X : Cx) (pins : List (Addr × Obj)) (σ : St) (Q : Bool → Hp → Prop) (b : Bool) (s' : Shared) : Prop := ∃ H', Inv X pins σ H' s' ∧ Q b H'
noncomputable def AP (X : Cx) (pins : List (Addr × Obj)) (σ : St) (Q : List V → Hp → Prop) (us : List Value) (s' : Shared) : Prop := ∃ vs H', Inv X pins σ H' s' ∧ Vals vs us ∧ Q vs H'
noncomputable def SP (X : Cx) (pins : List (Addr × Obj)) (D : Ends) (f : Flow) (s' : Shared) : Prop :=
  match f with
  | .next => ∃ σ' H', Inv X pins σ' H' s' ∧ D.nx σ' H'
  | .brk => ∃ σ' H', Inv X pins σ' H' s' ∧ D.bk σ' H'
  | .cont => ∃ σ' H', Inv X pins σ' H' s' ∧ D.ct σ' H'
  | .ret u => ∃ v σ' H', Inv X pins σ' H' s' ∧ RelV v u ∧ D.rt v H'
noncomputable def PE (X : Cx) (e : Expr) (t : TE) : Prop :=
  ∀ (pins : List (Addr × Obj)) (s : Shared) (σ : St) (H : Hp) (Q : VK), Inv X pins σ H s → t σ H Q → wpAny (model X.prog X.w) X.A (eval e X.env) (EP X pins σ Q) X.xe s
noncomputable def PT (X : Cx) (e : Expr) (t : TT) : Prop :=
  ∀ (pins : List (Addr × Obj)) (s : Shared) (σ : St) (H : Hp) (Q : Bool → Hp → Prop), Inv X pins σ H s → t σ H Q → wpAny (model X.prog X.w) X.A (isTrue e X.env (eval e X.env)) (TP X pins σ Q) X.xe s
noncomputable def PW (X : Cx) (e : Expr) (t : TT) : Prop :=
  ∀ (whole : Sem Value) (pins : List (Addr × Obj)) (s : Shared) (σ : St) (H : Hp) (Q : Bool → Hp → Prop), Inv X pins σ H s → t σ H Q → wpAny (model X.prog X.w) X.A (isTrue e X.env whole) (TP X pins σ Q) X.xe s
theorem PW.pt {X : Cx} {e : Expr} {t : TT} (h : PW X e t) : PT X e t := h _
noncomputable def PA (X : Cx) (es : List Expr) (t : TA) : Prop :=
  ∀ (pos : Pos) (pins : List (Addr × Obj)) (s : Shared) (σ : St) (H : Hp) (Q : List V → Hp → Prop), Inv X pins σ H s → t σ H Q → wpAny (model X.prog X.w) X.A (spliced (backTo pos (starEach es X.env))) (AP X pins σ Q) X.xe s
noncomputable def PS (X : Cx) (st : Stmt) (t : TS) : Prop :=
  ∀ (pins : List (Addr × Obj)) (s : Shared) (σ : St) (H : Hp) (D : Ends), Inv X pins σ H s → t D σ H → wpAny (model X.prog X.w) X.A (exec st X.env) (SP X pins D) X.xe s
noncomputable def PSs (X : Cx) (st : List Stmt) (t : TS) : Prop :=
  ∀ (pins : List (Addr × Obj)) (s : Shared) (σ : St) (H : Hp) (D : Ends), Inv X pins σ H s → t D σ H → wpAny (model X.prog X.w) X.A (execs st X.env) (SP X pins D) X.xe s
theorem thn {α : Type} {t : Sem α} {Q Q' : α → Shared → Prop} {M : Model} {A : Around} {E : Value → Shared → Prop} {s : Shared} (h : wpAny M A t Q E s) (hQ : ∀ a s, Q a s → Q' a s) : wpAny M A t Q' E s := wpAny_mono h hQ fun _ _ x => x
end L2
namespace L2
open PySem PySem.Spec PyProof.Rows
section
variable {X : Cx}
noncomputable def tVar (i : Nat) : TE := fun σ H Q => ∃ v, σ[i]? = some (some v) ∧ Q v H
noncomputable def tC (v : V) : TE := fun _ H Q => Q v H
theorem pe_var {i : Nat} {x : Str} {pos : Pos} (hN : X.N[i]? = some x) (hv : Vis X.env.scope x) (hd : (x == ("__debug__" : Str)) = false := by decide) (hcd : (x == ("__classdict__" : Str)) = false := by decide) : PE X (.Name x pos) (tVar i) := by
  intro pins s σ H Q I h
  obtain ⟨v, e, h⟩ := h
  obtain ⟨m, hn, hl⟩ := I.loc
  obtain ⟨u, r, l⟩ := hl i x v hN e hv
  have fin : EP X pins σ Q u s := ⟨v, H, I, r, h⟩
  rcases l with ⟨hk, hm⟩ | ⟨hk, c, hc, hcell⟩
  · exact wpAny_Name (wpAny_loadName_local I.ok.kind hk hn hm fin) hd
  · rcases hk with hk | hk
    · exact wpAny_Name (wpAny_loadName_cell I.ok.kind hk hc hcell fin) hd
    · exact wpAny_Name (wpAny_loadName_free I.ok.kind hk hc hcell fin hcd) hd
theorem pe_int {i j pos} : PE X (.Constant (.int i) j pos) (tC (.int i)) := fun _ _ _ H _ I h => wpAny_Constant_int ⟨.int i, H, I.tok _, ⟨_, rfl⟩, h⟩
theorem pe_bl {b j pos} : PE X (.Constant (.bool b) j pos) (tC (.bl b)) := fun _ _ _ H _ I h => Constant_bool ⟨.bl b, H, I, rfl, h⟩
theorem pe_non {j pos} : PE X (.Constant .none j pos) (tC .non) := fun _ _ _ H _ I h => Constant_none ⟨.non, H, I, rfl, h⟩
theorem pe_str {x j pos} : PE X (.Constant (.str x) j pos) (tC (.str x)) := fun _ _ _ H _ I h => Calls.Constant_str ⟨.str x, H, I.tok _, ⟨_, rfl⟩, h⟩
noncomputable def Gl (X : Cx) (x : Str) : Prop := X.env.kindOf x = some .globalImplicit
theorem ld_glob {E : Value → Shared → Prop} {pins : List (Addr × Obj)} {s : Shared} {σ : St} {H : Hp} {x : Str} {u : Value} {pos : Pos} {Q : Value → Shared → Prop} (I : Inv X pins σ H s) (hg : Gl X x) (hm : X.mg x = some u) (h : Q u s)
    (hd : (x == ("__debug__" : Str)) = false := by decide) : wpAny (model X.prog X.w) X.A (eval (.Name x pos) X.env) Q E s :=
  Calls.Name_function_global I.ok.kind hg (Calls.loadGlobal_global (by rw [I.ok.glob]; exact I.mod.glob.keeps I.bk) hm h) hd
theorem ld_blt {E : Value → Shared → Prop} {pins : List (Addr × Obj)} {s : Shared} {σ : St} {H : Hp} {x : Str} {u : Value} {pos : Pos} {Q : Value → Shared → Prop} (I : Inv X pins σ H s) (hg : Gl X x) (hm : X.mg x = none) (hv : bootBuiltins x = some u) (h : Q u s)
    (hn : x ≠ "__name__" := by decide) (hd : (x == ("__debug__" : Str)) = false := by decide) : wpAny (model X.prog X.w) X.A (eval (.Name x pos) X.env) Q E s := by
  obtain ⟨mb, h1, h2⟩ := I.mod.blt
  exact Calls.Name_function_global I.ok.kind hg (Calls.loadGlobal_builtin (by rw [I.ok.glob]; exact I.mod.glob.keeps I.bk) hm (by rw [I.ok.blt]; exact h1.keeps I.bk) ((h2 x hn).trans hv) h) hd
theorem pe_glob {x : Str} {v : V} {u : Value} {pos : Pos} (hg : Gl X x) (hm : X.mg x = some u) (r : RelV v u) (hd : (x == ("__debug__" : Str)) = false := by decide) : PE X (.Name x pos) (tC v) :=
  fun _ _ _ H _ I h => ld_glob I hg hm ⟨v, H, I, r, h⟩ hd
theorem pe_bltn {x : Str} {v : V} {u : Value} {pos : Pos} (hg : Gl X x) (hm : X.mg x = none) (hv : bootBuiltins x = some u) (r : RelV v u) (hn : x ≠ "__name__" := by decide) (hd : (x == ("__debug__" : Str)) = false := by decide) : PE X (.Name x pos) (tC v) :=
  fun _ _ _ H _ I h => ld_blt I hg hm hv ⟨v, H, I, r, h⟩ hn hd
noncomputable def t2I (ta tb : TE) (k : Int → Int → Hp → Prop) : St → Hp → Prop := fun σ H => ta σ H fun x H1 => tb σ H1 fun y H2 => ∃ i j, x = .int i ∧ y = .int j ∧ k i j H2
noncomputable def tAdd (ta tb : TE) : TE := fun σ H Q => t2I ta tb (fun i j H2 => Q (.int (i + j)) H2) σ H
noncomputable def tSub (ta tb : TE) : TE := fun σ H Q => t2I ta tb (fun i j H2 => Q (.int (i - j)) H2) σ H
noncomputable def tMul (ta tb : TE) : TE := fun σ H Q => t2I ta tb (fun i j H2 => (-(2 ^ 64) < i ∧ i < 2 ^ 64) ∧ Q (.int (i * j)) H2) σ H
variable {a b : Expr} {ta tb : TE} {pos : Pos}
noncomputable def PC (X : Cx) (op : CmpOp) (a b : Expr) (t : TE) : Prop :=
  ∀ (pins : List (Addr × Obj)) (s : Shared) (σ : St) (H : Hp) (Q : VK), Inv X pins σ H s → t σ H Q →
    wpAny (model X.prog X.w) X.A (eval a X.env) (fun v s₁ => wpAny (model X.prog X.w) X.A (eval b X.env) (fun u s₂ => wpAny (model X.prog X.w) X.A (compareOp op v u) (EP X pins σ Q) X.xe s₂) X.xe s₁) X.xe s
noncomputable def tCmp (p : Int → Int → Bool) (ta tb : TE) : TE := fun σ H Q => t2I ta tb (fun i j H2 => Q (.bl (p i j)) H2) σ H
noncomputable abbrev tLt : TE → TE → TE := tCmp fun i j => decide (i < j)
noncomputable abbrev tLe : TE → TE → TE := tCmp fun i j => decide (i ≤ j)
noncomputable abbrev tGt : TE → TE → TE := tCmp fun i j => decide (j < i)
noncomputable abbrev tGe : TE → TE → TE := tCmp fun i j => decide (j ≤ i)
noncomputable abbrev tEqI : TE → TE → TE := tCmp fun i j => decide (i = j)
noncomputable abbrev tNeI : TE → TE → TE := tCmp fun i j => !decide (i = j)
noncomputable def tIsN (ta : TE) : TE := fun σ H Q => ta σ H fun x H1 => Q (.bl (decide (x = .non))) H1
noncomputable def tNotN (ta : TE) : TE := fun σ H Q => ta σ H fun x H1 => Q (.bl (!decide (x = .non))) H1
noncomputable def tB (t : TE) : TT := fun σ H Q => t σ H fun x H1 => ∃ c, x = .bl c ∧ Q c H1
theorem pt_val {e : Expr} {t : TE} (h : PE X e t) (he : ∀ whole, isTrue e X.env whole = (do let v ← whole; standAt e.pos; holding [v] (truthy v)) := by intro _; rfl) : PT X e (tB t) := by
  intro pins s σ H Q I hw
  refine isTrue_plain (thn (h pins s σ H _ I hw) fun v s1 zz7_0 => ?_) (he _)
  obtain ⟨x, H1, I1, r1, q1⟩ := zz7_0
  obtain ⟨d, rfl, q⟩ := q1
  cases r1
  exact wpAny_truthy_bool ⟨H1, I1, q⟩
variable {tA tB' : TT} {rest : List Expr}
noncomputable def tAnd (t u : TT) : TT := fun σ H Q => t σ H fun c H1 => if c = true then u σ H1 Q else Q false H1
noncomputable def tOr (t u : TT) : TT := fun σ H Q => t σ H fun c H1 => if c = true then Q true H1 else u σ H1 Q
noncomputable def tNot (t : TT) : TT := fun σ H Q => t σ H fun c H1 => Q (!c) H1
theorem pw_and1 (ha : PT X a tA) : PW X (.BoolOp .And [a] pos) tA := by
  intro wh pins s σ H Q I h
  refine isTrue_and (thn (ha pins s σ H Q I h) fun c s1 e => ?_)
  cases c with
  | true => exact isTrue_and_nil e
  | false => exact e
theorem pw_or1 (ha : PT X a tA) : PW X (.BoolOp .Or [a] pos) tA := by
  intro wh pins s σ H Q I h
  refine isTrue_or (thn (ha pins s σ H Q I h) fun c s1 e => ?_)
  cases c with
  | false => exact isTrue_or_nil e
  | true => exact e
theorem pw_and (ha : PT X a tA) (hb : PW X (.BoolOp .And (b :: rest) pos) tB') : PW X (.BoolOp .And (a :: b :: rest) pos) (tAnd tA tB') := by
  intro wh pins s σ H Q I h
  refine isTrue_and (thn (ha pins s σ H _ I h) fun c s1 zz8_0 => ?_)
  obtain ⟨H1, I1, q1⟩ := zz8_0
  cases c with
  | true => exact hb wh pins s1 σ H1 Q I1 q1
  | false => exact ⟨H1, I1, q1⟩
theorem pw_or (ha : PT X a tA) (hb : PW X (.BoolOp .Or (b :: rest) pos) tB') : PW X (.BoolOp .Or (a :: b :: rest) pos) (tOr tA tB') := by
  intro wh pins s σ H Q I h
  refine isTrue_or (thn (ha pins s σ H _ I h) fun c s1 zz9_0 => ?_)
  obtain ⟨H1, I1, q1⟩ := zz9_0
  cases c with
  | true => exact ⟨H1, I1, q1⟩
  | false => exact hb wh pins s1 σ H1 Q I1 q1
theorem pt_not (ha : PT X a tA) : PT X (.UnaryOp .Not a pos) (tNot tA) := by
  intro pins s σ H Q I h
  exact isTrue_not (ha pins s σ H (fun c H1 => Q (!c) H1) I h)
noncomputable def tAndV (ta tb : TE) : TE := fun σ H Q => ta σ H fun x H1 => ∃ c, x = .bl c ∧ if c = true then tb σ H1 Q else Q (.bl false) H1
noncomputable def tOrV (ta tb : TE) : TE := fun σ H Q => ta σ H fun x H1 => ∃ c, x = .bl c ∧ if c = true then Q (.bl true) H1 else tb σ H1 Q
noncomputable def tNotV (ta : TE) : TE := fun σ H Q => ta σ H fun x H1 => ∃ c, x = .bl c ∧ Q (.bl (!c)) H1
theorem pe_one {op} {t : TE} (h : PE X a t) : PE X (.BoolOp op [a] pos) t := fun pins s σ H Q I hw => BoolOp_one (h pins s σ H Q I hw)
theorem pe_and (ha : PE X a ta) (hb : PE X (.BoolOp .And (b :: rest) pos) tb) : PE X (.BoolOp .And (a :: b :: rest) pos) (tAndV ta tb) := by
  intro pins s σ H Q I h
  refine BoolOp_and (thn (ha pins s σ H _ I h) fun v s1 zz10_0 => ?_)
  obtain ⟨x, H1, I1, r1, q1⟩ := zz10_0
  obtain ⟨c, rfl, q1⟩ := q1
  cases r1
  refine wpAny_truthy_bool ?_
  cases c with
  | true => exact hb pins s1 σ H1 Q I1 q1
  | false => exact ⟨.bl false, H1, I1, rfl, q1⟩
theorem pe_or (ha : PE X a ta) (hb : PE X (.BoolOp .Or (b :: rest) pos) tb) : PE X (.BoolOp .Or (a :: b :: rest) pos) (tOrV ta tb) := by
  intro pins s σ H Q I h
  refine BoolOp_or (thn (ha pins s σ H _ I h) fun v s1 zz11_0 => ?_)
  obtain ⟨x, H1, I1, r1, q1⟩ := zz11_0
  obtain ⟨c, rfl, q1⟩ := q1
  cases r1
  refine wpAny_truthy_bool ?_
  cases c with
  | false => exact hb pins s1 σ H1 Q I1 q1
  | true => exact ⟨.bl true, H1, I1, rfl, q1⟩
noncomputable def tIf (t : TT) (ta tb : TE) : TE := fun σ H Q => t σ H fun c H1 => if c = true then ta σ H1 Q else tb σ H1 Q
theorem pe_ifExp {c : Expr} (hc : PT X c tA) (ha : PE X a ta) (hb : PE X b tb) : PE X (.IfExp c a b pos) (tIf tA ta tb) := by
  intro pins s σ H Q I h
  refine wpAny_IfExp (thn (hc pins s σ H _ I h) fun d s1 zz13_0 => ?_)
  obtain ⟨H1, I1, q1⟩ := zz13_0
  cases d with
  | true => exact ha pins s1 σ H1 Q I1 q1
  | false => exact hb pins s1 σ H1 Q I1 q1
end
end L2
namespace L2
open PySem PySem.Spec PyProof.Rows
noncomputable def SqL (K : PySem.W.Frag) (H : Hp) (a : Addr) (xs : List V) : Prop :=
  Rd H a (.lst xs) ∨
    ∃ (o : Obj) (its : Array Value) (n : Nat), K.lookup a = some o ∧ o.cls = .type "list" ∧ o.dict = none ∧ o.data = .seq its n ∧ its.size ≤ sizeLine ∧ Vals xs its.toList
noncomputable def SqT (K : PySem.W.Frag) (H : Hp) (a : Addr) (xs : List V) : Prop :=
  Rd H a (.tup xs) ∨
    ∃ (o : Obj) (its : Array Value) (n : Nat), K.lookup a = some o ∧ o.cls = .type "tuple" ∧ o.data = .seq its n ∧ its.size ≤ sizeLine ∧ Vals xs its.toList
noncomputable def absV : Value → Option V
  | .none => some .non
  | .bool b => some (.bl b)
  | .int i _ => some (.int i)
  | .str x _ => some (.str x)
  | .bytes b _ => some (.byt b)
  | .float b _ => some (.flt b)
  | .ref a => some (.ref a)
  | .type n => some (.ty n)
  | _ => none
theorem RelV.abs {x : V} {u : Value} (r : RelV x u) : absV u = some x := by
  cases x with
  | non => cases r; rfl
  | bl _ => cases r; rfl
  | int _ => obtain ⟨t, rfl⟩ := r; rfl
  | str _ => obtain ⟨t, rfl⟩ := r; rfl
  | byt _ => obtain ⟨t, rfl⟩ := r; rfl
  | flt _ => obtain ⟨t, rfl⟩ := r; rfl
  | ref _ => cases r; rfl
  | ty _ => cases r; rfl
theorem RelV.inj {x y : V} {u : Value} (r : RelV x u) (q : RelV y u) : x = y := Option.some.inj (r.abs.symm.trans q.abs)
theorem Vals.inj : ∀ {xs ys : List V} {us : List Value}, Vals xs us → Vals ys us → xs = ys
  | _, _, _, .nil, .nil => rfl
  | _, _, _, .cons r t, .cons r' t' => by rw [r.inj r', Vals.inj t t']
section
variable {X : Cx} {pins : List (Addr × Obj)} {σ : St} {H : Hp} {s : Shared} {a : Addr} {xs ys : List V}
theorem SqL.of {K : PySem.W.Frag} (h : H a = some (.lst xs)) : SqL K H a xs := .inl (.inl h)
theorem SqT.of {K : PySem.W.Frag} (h : H a = some (.tup xs)) : SqT K H a xs := .inl (.inl h)
theorem Inv.list (I : Inv X pins σ H s) (h : SqL X.K H a xs) : ∃ its : List Value, Vals xs its ∧ PlainL s.heap a its.toArray ∧ xs.length ≤ sizeLine := by
  rcases h with h | ⟨o, its, n, hk, hc, hd, hs, hz, r⟩
  · obtain ⟨z, its, n, r, e⟩ := h.ok I.hok
    exact ⟨its, r, ⟨_, n, e, rfl, rfl, rfl⟩, z⟩
  · refine ⟨its.toList, r, ⟨o, n, I.kIn a o hk, hc, hd, by simpa using hs⟩, ?_⟩
    have e := r.length
    simp only [Array.length_toList] at e
    omega
theorem Inv.tuple (I : Inv X pins σ H s) (h : SqT X.K H a xs) : ∃ its : List Value, Vals xs its ∧ IsTup s.heap a its.toArray ∧ xs.length ≤ sizeLine := by
  rcases h with h | ⟨o, its, n, hk, hc, hs, hz, r⟩
  · obtain ⟨z, its, r, p⟩ := h.ok I.hok
    exact ⟨its, r, p, z⟩
  · refine ⟨its.toList, r, ⟨o, I.kIn a o hk, hc, n, by simpa using hs⟩, ?_⟩
    have e := r.length
    simp only [Array.length_toList] at e
    omega
theorem Inv.list_inj (I : Inv X pins σ H s) (h : SqL X.K H a xs) (h' : SqL X.K H a ys) : xs = ys := by
  obtain ⟨its, r, ⟨o, n, e, _, _, d⟩, _⟩ := I.list h
  obtain ⟨its', r', ⟨o', n', e', _, _, d'⟩, _⟩ := I.list h'
  rw [e] at e'; cases e'
  rw [d] at d'
  injection d' with d1 _
  have : its = its' := by simpa using congrArg Array.toList d1
  subst this
  exact r.inj r'
theorem Inv.tuple_inj (I : Inv X pins σ H s) (h : SqT X.K H a xs) (h' : SqT X.K H a ys) : xs = ys := by
  obtain ⟨its, r, ⟨o, e, _, n, d⟩, _⟩ := I.tuple h
  obtain ⟨its', r', ⟨o', e', _, n', d'⟩, _⟩ := I.tuple h'
  rw [e] at e'; cases e'
  rw [d] at d'
  injection d' with d1 _
  have : its = its' := by simpa using congrArg Array.toList d1
  subst this
  exact r.inj r'
end
noncomputable abbrev Cx.wish (X : Cx) (E : Value → Shared → Prop) : Cx := { X with xe := E }
noncomputable abbrev Cx.nox (X : Cx) : Cx := X.wish fun _ _ => False
theorem Cx.Ok.wish {X : Cx} (ok : X.Ok) (E : Value → Shared → Prop) : (X.wish E).Ok :=
  ⟨ok.mod, ok.kind, ok.glob, ok.blt, ok.above, ok.inj, ok.has, ok.cab, ok.hd, ok.frames, ok.stk, ok.exf, ok.bs, ok.bsz, ok.noex, ok.exfs, ok.funs, ok.frf⟩
theorem Cx.Ok.unwish {X : Cx} {E : Value → Shared → Prop} (ok : (X.wish E).Ok) : X.Ok :=
  ⟨ok.mod, ok.kind, ok.glob, ok.blt, ok.above, ok.inj, ok.has, ok.cab, ok.hd, ok.frames, ok.stk, ok.exf, ok.bs, ok.bsz, ok.noex, ok.exfs, ok.funs, ok.frf⟩
section
variable {X : Cx} {pins : List (Addr × Obj)} {σ : St} {H : Hp} {s : Shared} {E : Value → Shared → Prop}
theorem Inv.wish (I : Inv X pins σ H s) (E : Value → Shared → Prop) : Inv (X.wish E) pins σ H s := ⟨I.ok.wish E, I.os, I.bare, I.base, I.loc, I.cell, I.free, I.freeC, I.pin, I.hok, I.len⟩
theorem Inv.unwish (I : Inv (X.wish E) pins σ H s) : Inv X pins σ H s := ⟨I.ok.unwish, I.os, I.bare, I.base, I.loc, I.cell, I.free, I.freeC, I.pin, I.hok, I.len⟩
theorem SP.unwish {D : Ends} {f : Flow} {s' : Shared} (h : SP (X.wish E) pins D f s') : SP X pins D f s' := by
  cases f with
  | next => obtain ⟨σ', H', I, q⟩ := h; exact ⟨σ', H', I.unwish, q⟩
  | brk => obtain ⟨σ', H', I, q⟩ := h; exact ⟨σ', H', I.unwish, q⟩
  | cont => obtain ⟨σ', H', I, q⟩ := h; exact ⟨σ', H', I.unwish, q⟩
  | ret u => obtain ⟨v, σ', H', I, r, q⟩ := h; exact ⟨v, σ', H', I.unwish, r, q⟩
theorem PE.nox {e : Expr} {t : TE} (h : PE X.nox e t) : PE X e t := fun pins s σ H Q I hw =>
  wpAny_mono (h pins s σ H Q (I.wish _) hw) (fun _ _ zz14_0 => by obtain ⟨v, H', I', r, q⟩ := zz14_0; exact (⟨v, H', I'.unwish, r, q⟩)) fun _ _ z => False.elim z
theorem PT.nox {e : Expr} {t : TT} (h : PT X.nox e t) : PT X e t := fun pins s σ H Q I hw =>
  wpAny_mono (h pins s σ H Q (I.wish _) hw) (fun _ _ zz15_0 => by obtain ⟨H', I', q⟩ := zz15_0; exact (⟨H', I'.unwish, q⟩)) fun _ _ z => False.elim z
theorem PSs.nox {st : List Stmt} {t : TS} (h : PSs X.nox st t) : PSs X st t := fun pins s σ H D I hw =>
  wpAny_mono (h pins s σ H D (I.wish _) hw) (fun _ _ q => q.unwish) fun _ _ z => False.elim z
end
section
variable {X : Cx} {st : Stmt} {rest : List Stmt} {t u : TS} {e : Expr} {te : TE} {pos : Pos}
noncomputable def tNext : TS := fun D σ H => D.nx σ H
noncomputable def tSeq (t u : TS) : TS := fun D σ H => t { D with nx := u D } σ H
theorem pss_nil : PSs X [] tNext := fun _ _ σ H _ I h => wpAny_execs_nil ⟨σ, H, I, h⟩
theorem pss_cons (h1 : PS X st t) (h2 : PSs X rest u) : PSs X (st :: rest) (tSeq t u) := by
  intro pins s σ H D I h
  refine wpAny_execs_cons (thn (h1 pins s σ H { D with nx := u D } I h) fun f s1 q => ?_)
  cases f with
  | next =>
    obtain ⟨σ', H', I', q⟩ := q
    exact h2 pins s1 σ' H' D I' q
  | ret v => exact q
  | brk => exact q
  | cont => exact q
theorem pss_one (h1 : PS X st t) : PSs X [st] t := by
  intro pins s σ H D I h
  refine wpAny_execs_cons (thn (h1 pins s σ H D I h) fun f s1 q => ?_)
  cases f with
  | next => exact wpAny_execs_nil q
  | ret v => exact q
  | brk => exact q
  | cont => exact q
noncomputable def tBreak : TS := fun D σ H => D.bk σ H
noncomputable def tCont : TS := fun D σ H => D.ct σ H
theorem Inv.quiet {pins : List (Addr × Obj)} {σ : St} {H : Hp} {s : Shared} (I : Inv X pins σ H s) : interactive X.env = false := by simp [interactive, I.ok.kind]
noncomputable def tDrop (te : TE) : TS := fun D σ H => te σ H fun _ H1 => D.nx σ H1
theorem ps_expr (he : PE X e te) (hs : swapsWith e none pos.line X.env = pure false := by rfl) : PS X (.Expr e pos) (tDrop te) := by
  intro pins s σ H D I h
  exact wpAny_Expr_any (thn (he pins s σ H _ I h) fun v s1 zz16_0 => by obtain ⟨x, H1, I1, r1, q1⟩ := zz16_0; exact (⟨σ, H1, I1, q1⟩)) I.quiet hs
noncomputable def tRet (te : TE) : TS := fun D σ H => te σ H D.rt
theorem ps_ret (he : PE X e te) : PS X (.Return (some e) pos) (tRet te) := by
  intro pins s σ H D I h
  exact wpAny_Return_some (thn (he pins s σ H _ I h) fun v s1 zz17_0 => by obtain ⟨x, H1, I1, r1, q1⟩ := zz17_0; exact (⟨x, σ, H1, I1, r1, q1⟩))
noncomputable def tRetN : TS := fun D _ H => D.rt .non H
noncomputable def tIfS (c : TT) (t u : TS) : TS := fun D σ H => c σ H fun b H1 => if b = true then t D σ H1 else u D σ H1
theorem ps_if {c : Expr} {a b : List Stmt} {tc : TT} (hc : PT X c tc) (ha : PSs X a t) (hb : PSs X b u) : PS X (.If c a b pos) (tIfS tc t u) := by
  intro pins s σ H D I h
  refine wpAny_If (thn (hc pins s σ H _ I h) fun d s1 zz18_0 => ?_)
  obtain ⟨H1, I1, q1⟩ := zz18_0
  cases d with
  | true => exact ha pins s1 σ H1 D I1 q1
  | false => exact hb pins s1 σ H1 D I1 q1
noncomputable def tNever : TS := fun _ _ _ => False
theorem ps_never : PS X st tNever := fun _ _ _ _ _ _ h => h.elim
end
noncomputable abbrev TG := V → St → Hp → (St → Hp → Prop) → Prop
noncomputable abbrev TGs := List V → St → Hp → (St → Hp → Prop) → Prop
noncomputable def PG (X : Cx) (target : Expr) (t : TG) : Prop :=
  ∀ (pins : List (Addr × Obj)) (s : Shared) (σ : St) (H : Hp) (v : V) (u : Value) (Q : St → Hp → Prop), Inv X pins σ H s → RelV v u → t v σ H Q →
    wpAny (model X.prog X.w) X.A (assign target X.env u) (fun _ s' => ∃ σ' H', Inv X pins σ' H' s' ∧ Q σ' H') X.xe s
noncomputable def PGs (X : Cx) (ts : List Expr) (t : TGs) : Prop :=
  ∀ (pins : List (Addr × Obj)) (s : Shared) (σ : St) (H : Hp) (vs : List V) (us : List Value) (Q : St → Hp → Prop), Inv X pins σ H s → Vals vs us → t vs σ H Q →
    wpAny (model X.prog X.w) X.A (assignInOrder ((assignEach ts X.env).map (·.2)) us) (fun _ s' => ∃ σ' H', Inv X pins σ' H' s' ∧ Q σ' H') X.xe s
noncomputable abbrev TSet := V → V → V → Hp → (Hp → Prop) → Prop
noncomputable def PSet (X : Cx) (t : TSet) : Prop :=
  ∀ (pins : List (Addr × Obj)) (s : Shared) (σ : St) (H : Hp) (o i v : V) (ov iv u : Value) (Q : Hp → Prop), Inv X pins σ H s → RelV o ov → RelV i iv → RelV v u → t o i v H Q →
    wpAny (model X.prog X.w) X.A (setItem ov iv u) (fun _ s' => ∃ H', Inv X pins σ H' s' ∧ Q H') X.xe s
noncomputable abbrev TIp := V → V → Hp → VK → Prop
noncomputable def PIp (X : Cx) (op : Operator) (t : TIp) : Prop :=
  ∀ (pins : List (Addr × Obj)) (s : Shared) (σ : St) (H : Hp) (x y : V) (v u : Value) (Q : VK), Inv X pins σ H s → RelV x v → RelV y u → t x y H Q →
    wpAny (model X.prog X.w) X.A (inplaceOp op v u) (EP X pins σ Q) X.xe s
section
variable {X : Cx} {pos : Pos}
noncomputable def gName (i : Nat) : TG := fun v σ H Q => Q (σ.set i (some v)) H
theorem pg_name {i : Nat} {x : Str} (hN : X.N.Nodup) (hi : X.N[i]? = some x) (hx : Loc X.env.scope x) (hf : X.fn x = true ∨ X.env.scope.names.lookup x = some .local := by first | exact .inl rfl | exact .inr rfl | assumption) : PG X (.Name x pos) (gName i) := by
  intro pins s σ H v u Q I r h
  exact wpAny_assign_Name (store_ok I hN hi hx r (fun s' I' => ⟨_, H, I', h⟩) hf)
noncomputable def gNil : TGs := fun vs σ H Q => vs = [] ∧ Q σ H
noncomputable def gCons (t : TG) (u : TGs) : TGs := fun vs σ H Q => ∃ v r, vs = v :: r ∧ t v σ H fun σ' H' => u r σ' H' Q
theorem pgs_nil : PGs X [] gNil := by
  intro pins s σ H vs us Q I r h
  obtain ⟨e, h⟩ := h
  subst e
  cases r
  exact assignInOrder_nil ⟨σ, H, I, h⟩
theorem pgs_cons {e : Expr} {es : List Expr} {t : TG} {u : TGs} (h1 : PG X e t) (h2 : PGs X es u)
    (hs : (assignEach (e :: es) X.env).map (·.2) = assign e X.env :: (assignEach es X.env).map (·.2) := by rfl) : PGs X (e :: es) (gCons t u) := by
  intro pins s σ H vs us Q I r h
  obtain ⟨v, vr, e1, h⟩ := h
  subst e1
  cases r with
  | cons r rr =>
    rw [hs]
    refine assignInOrder_cons (thn (h1 pins s σ H _ _ _ I r h) fun _ s1 zz19_0 => ?_)
    obtain ⟨σ1, H1, I1, q1⟩ := zz19_0
    exact h2 pins s1 σ1 H1 _ _ Q I1 rr q1
noncomputable def gTup (K : PySem.W.Frag) (n : Nat) (t : TGs) : TG := fun v σ H Q => ∃ a xs, v = .ref a ∧ SqT K H a xs ∧ xs.length = n ∧ t xs σ H Q
theorem pg_tup {es : List Expr} {k : Nat} {t : TGs} {n : Nat} (hc : X.calm = true) (h : PGs X es t)
    (hn : (assignEach es X.env).length = n := by rfl) (hst : (assignEach es X.env).findIdx? (·.1) = none := by rfl) : PG X (.Tuple es k pos) (gTup X.K n t) := by
  intro pins s σ H v u Q I r hw
  obtain ⟨a, xs, e1, hq, hl, hw⟩ := hw
  subst e1
  cases r
  obtain ⟨its, rv, ht, hz⟩ := I.tuple hq
  refine assign_Tuple_tuple (I.ok.hd hc) ht (by simp [hn, ← hl, rv.length]) hst fun h' hx => ?_
  have I1 : Inv X pins σ H { s with heap := h' } := I.kept (t' := s.toks) fun b o e => hx b o (Nat.ne_of_lt (Heap.lt_size e)) e
  exact h pins _ σ H xs _ Q I1 (by simpa using rv) hw
noncomputable def gSub (to ti : TE) (t : TSet) : TG := fun v σ H Q => to σ H fun o H1 => ti σ H1 fun i H2 => t o i v H2 fun H3 => Q σ H3
theorem pg_sub {o i : Expr} {to ti : TE} {t : TSet} (ho : PE X o to) (hi : PE X i ti) (hs : PSet X t)
    (ha : ∀ v, assign (.Subscript o i pos) X.env v = (do
      let ov ← holding [v] (eval o X.env)
      let iv ← holding [v, ov] (eval i X.env)
      standAt pos
      holding [v, ov, iv] (setItem ov iv v)
      release [v, ov, iv] []) := by intro _; rfl) : PG X (.Subscript o i pos) (gSub to ti t) := by
  intro pins s σ H v u Q I r h
  rw [ha]
  refine wpAny_bind (wpAny_holding (thn (ho pins s σ H _ I h) fun ov s1 zz20_0 => ?_))
  obtain ⟨x, H1, I1, r1, q1⟩ := zz20_0
  refine wpAny_bind (wpAny_holding (thn (hi pins s1 σ H1 _ I1 q1) fun iv s2 zz21_0 => ?_))
  obtain ⟨y, H2, I2, r2, q2⟩ := zz21_0
  refine wpAny_bind (wpAny_standAt (wpAny_bind (wpAny_holding (thn (hs pins s2 σ H2 x y v ov iv u _ I2 r1 r2 r q2) fun _ s3 zz22_0 => ?_))))
  obtain ⟨H3, I3, q3⟩ := zz22_0
  exact wpAny_release ⟨σ, H3, I3, q3⟩
noncomputable def tAsg (te : TE) (g : TG) : TS := fun D σ H => te σ H fun x H1 => g x σ H1 D.nx
theorem ps_asg {tg e : Expr} {te : TE} {g : TG} (he : PE X e te) (hg : PG X tg g) (hs : swapsWithSole [tg] e pos.line X.env = pure false := by rfl) (hw : swappedStores [tg] e X.env = pure none := by rfl)
    (h1 : (assignEach [tg] X.env).map (·.2) = [assign tg X.env] := by rfl) : PS X (.Assign [tg] e pos) (tAsg te g) := by
  intro pins s σ H D I h
  refine wpAny_Assign_stores (thn (he pins s σ H _ I h) fun v s1 zz23_0 => ?_) hs hw
  obtain ⟨x, H1, I1, r1, q1⟩ := zz23_0
  rw [h1]
  exact thn (hg pins s1 σ H1 x v _ I1 r1 q1) fun _ s2 q => q
theorem ps_set {i : Nat} {x : Str} {e : Expr} {te : TE} {pos' : Pos} (hN : X.N.Nodup) (hi : X.N[i]? = some x) (hx : Loc X.env.scope x) (he : PE X e te) (hs : swapsWith e (some (.Name x pos')) pos.line X.env = pure false := by rfl) (hf : X.fn x = true ∨ X.env.scope.names.lookup x = some .local := by first | exact .inl rfl | exact .inr rfl | assumption) :
    PS X (.Assign [.Name x pos'] e pos) (tAsg te (gName i)) := by
  intro pins s σ H D I h
  refine wpAny_Assign_Name (thn (he pins s σ H _ I h) fun v s1 zz24_0 => ?_) hs
  obtain ⟨y, H1, I1, r1, q1⟩ := zz24_0
  exact store_ok I1 hN hi hx r1 (fun s2 I2 => ⟨_, H1, I2, q1⟩) hf
noncomputable def tPar (i j : Nat) (ta : TA) : TS := fun D σ H => ta σ H fun vs H1 => ∃ v w, vs = [v, w] ∧ D.nx ((σ.set i (some v)).set j (some w)) H1
theorem ps_par {i j : Nat} {x y : Str} {a b : Expr} {ta : TA} {px py pt : Pos} {kt k2 pt2} (hc : X.calm = true) (hN : X.N.Nodup) (hi : X.N[i]? = some x) (hj : X.N[j]? = some y) (hij : i ≠ j)
    (hx : X.env.scope.names.lookup x = some .local) (hy : X.env.scope.names.lookup y = some .local) (ha : PA X [a, b] ta)
    (hw : swappedStores [.Tuple [.Name x px, .Name y py] kt pt] (.Tuple [a, b] k2 pt2) X.env = pure (some [x, y]))
    (hs : swapsWithSole [.Tuple [.Name x px, .Name y py] kt pt] (.Tuple [a, b] k2 pt2) pos.line X.env = pure false := by rfl) :
    PS X (.Assign [.Tuple [.Name x px, .Name y py] kt pt] (.Tuple [a, b] k2 pt2) pos) (tPar i j ta) := by
  intro pins s σ H D I h
  rw [exec_Assign_arm]
  refine wpAny_bind (wpAny_standAt ?_)
  rw [hs]
  refine wpAny_bind (wpAny_pure ?_)
  rw [if_neg (by decide)]
  refine wpAny_bind (Tuple_ (thn (ha _ pins s σ H _ I h) fun us s1 zz25_0 => ?_))
  obtain ⟨vs, H1, I1, r1, q1⟩ := zz25_0
  obtain ⟨v, w, e1, q1⟩ := q1
  subst e1
  obtain ⟨u1, u2, rfl, rv, rw'⟩ : ∃ u1 u2, us = [u1, u2] ∧ RelV v u1 ∧ RelV w u2 := by
    cases r1 with
    | cons p q =>
      cases q with
      | cons p' q' =>
        cases q'
        exact ⟨_, _, rfl, p, p'⟩
  refine wpAny_newObj_type ?_ (by show 2 ≤ sizeLine; decide)
  have I2 : Inv X pins σ H1 { s1 with heap := s1.heap.push { cls := .type "tuple", data := .seq [u1, u2].toArray } } := I1.kept (t' := s1.toks) fun b o e => Heap.get?_push_of_some _ e
  rw [hw]
  refine wpAny_bind (wpAny_pure ?_)
  show wpAny (model X.prog X.w) X.A (do rule "assign.swapped-stores"; let items ← unpackItems (.ref s1.heap.objs.size) 2 none; assignInOrder [fun v => bindName X.env y v, fun v => bindName X.env x v] items.reverse; pure Flow.next) _ _ _
  refine wpAny_bind (wpAny_rule (wpAny_bind (unpackItems_tuple (items := #[u1, u2]) (I.ok.hd hc) (IsTup.new s1.heap _) fun h' hx' => ?_)))
  have I3 := I2.kept (h' := h') (t' := s1.toks) fun b o e => hx' b o (Nat.ne_of_lt (Heap.lt_size e)) e
  show wpAny _ _ (assignInOrder [fun v => bindName X.env y v, fun v => bindName X.env x v] [u2, u1] >>= fun _ => pure Flow.next) _ _ _
  refine wpAny_bind (assignInOrder_cons (wpAny_bindName (store_ok I3 hN hj (.inl hy) rw' (fun s2 I4 => ?_) (.inr hy))))
  refine assignInOrder_cons (wpAny_bindName (store_ok I4 hN hi (.inl hx) rv (fun s3 I5 => assignInOrder_nil (wpAny_pure ?_)) (.inr hx)))
  rw [List.set_comm _ _ (Ne.symm hij)] at I5
  exact ⟨_, H1, I5, q1⟩
noncomputable def tAug (i : Nat) (te : TE) (ti : TIp) : TS := fun D σ H => ∃ x, σ[i]? = some (some x) ∧ te σ H fun y H1 => ti x y H1 fun z H2 => D.nx (σ.set i (some z)) H2
noncomputable def tAugS (to ti te : TE) (tget : V → V → Hp → VK → Prop) (tip : TIp) (tset : TSet) : TS := fun D σ H => to σ H fun o H1 => ti σ H1 fun i H2 => tget o i H2 fun x H3 => te σ H3 fun y H4 => tip x y H4 fun z H5 => tset o i z H5 fun H6 => D.nx σ H6
noncomputable def PGet (X : Cx) (t : V → V → Hp → VK → Prop) : Prop :=
  ∀ (pins : List (Addr × Obj)) (s : Shared) (σ : St) (H : Hp) (o i : V) (ov iv : Value) (Q : VK), Inv X pins σ H s → RelV o ov → RelV i iv → t o i H Q →
    wpAny (model X.prog X.w) X.A (getItem ov iv) (EP X pins σ Q) X.xe s
noncomputable def ipI (f : Int → Int → Int) : TIp := fun x y H Q => ∃ i j, x = .int i ∧ y = .int j ∧ Q (.int (f i j)) H
end
section
variable {X : Cx} {pos : Pos}
noncomputable def tWhile (c : TT) (tb : TS) : TS := fun D σ H => ∃ W : Nat → St → Hp → Prop, (∃ m, W m σ H) ∧ ∀ m σ H, W m σ H →
  c σ H fun b H1 => if b = true then ∃ N : St → Hp → Prop, (∀ σ' H', N σ' H' → ∃ m', m' < m ∧ W m' σ' H') ∧ tb { D with nx := N, ct := N, bk := D.nx } σ H1 else D.nx σ H1
theorem ps_while {c : Expr} {body : List Stmt} {tc : TT} {tb : TS} (hp : PassesOwn (model X.prog X.w) X.A X.env X.xe) (hc : PT X c tc) (hb : PSs X body tb) : PS X (.While c body [] pos) (tWhile tc tb) := by
  intro pins s σ H D I h
  obtain ⟨W, ⟨m0, w0⟩, turn⟩ := h
  refine wpAny_While (codeAny_whileLoop (fun n s' => ∃ σ' H', Inv X pins σ' H' s' ∧ W n σ' H') ?_ m0 ⟨σ, H, I, w0⟩)
  rintro n s1 ⟨σ1, H1, I1, w1⟩
  refine wpAny_passesOwn hp (thn (hc pins s1 σ1 H1 _ I1 (turn n σ1 H1 w1)) fun b s2 zz34_0 => ?_)
  obtain ⟨H2, I2, q2⟩ := zz34_0
  cases b with
  | true =>
    obtain ⟨N, hN, q2⟩ := q2
    rw [if_pos rfl]
    refine wpAny_passesOwn hp (thn (hb pins s2 σ1 H2 _ I2 q2) fun f s3 q3 => ?_)
    cases f with
    | next =>
      obtain ⟨σ3, H3, I3, n3⟩ := q3
      obtain ⟨m', hm, w3⟩ := hN σ3 H3 n3
      exact ⟨m', hm, σ3, H3, I3, w3⟩
    | cont =>
      obtain ⟨σ3, H3, I3, n3⟩ := q3
      obtain ⟨m', hm, w3⟩ := hN σ3 H3 n3
      exact ⟨m', hm, σ3, H3, I3, w3⟩
    | brk => exact q3
    | ret v => exact q3
  | false =>
    rw [if_neg Bool.false_ne_true]
    exact wpAny_execs_nil ⟨σ1, H2, I2, q2⟩
end
structure It where
  go : Nat → Hp → Prop
  yld : Nat → Hp → V → Hp → Prop
  stop : Nat → Hp → Prop
noncomputable def FpOk (X : Cx) (pins : List (Addr × Obj)) (H : Hp) (b : Addr) : Prop :=
  H b = none ∧ b ≠ X.env.locals ∧ b ∉ X.fs ∧ (b ∈ X.ex ∨ X.s₀.heap.objs.size ≤ b) ∧ (∀ x c, X.env.cells.lookup x = some c → c ≠ b) ∧ ∀ p ∈ X.pn ++ pins, p.1 ≠ b
theorem Inv.fpOk {X : Cx} {pins : List (Addr × Obj)} {σ : St} {H H' : Hp} {s : Shared} {b : Addr} (I : Inv X pins σ H s) (hb : s.heap.objs.size ≤ b) (hn : H' b = none) : FpOk X pins H' b := by
  refine ⟨hn, Nat.ne_of_gt (Nat.lt_of_lt_of_le I.lt hb), I.nofs hb, .inr (Nat.le_trans I.sz hb), fun x c e z => ?_, fun p hp z => ?_⟩
  · obtain ⟨v, q⟩ := I.cell x c e
    exact absurd (Nat.lt_of_lt_of_le q.lt (by rw [z]; exact hb)) (Nat.lt_irrefl _)
  · exact absurd (Nat.lt_of_lt_of_le (Heap.lt_size (I.pin p hp).1) (by rw [z]; exact hb)) (Nat.lt_irrefl _)
structure Turn (P : Program) (w : World) (K : PySem.W.Frag) (tg : Expr) (J : It) (fp : List Addr) (it : Addr) (tn : Nat → Heap → Prop) : Prop where
  mem : it ∈ fp
  obj : ∀ i h, tn i h → ∀ b ∈ fp, ∃ o, h.get? b = some o ∧ ∀ v, o.data ≠ .cell v
  keep : ∀ i h h', tn i h → (∀ b ∈ fp, ∀ o, h.get? b = some o → h'.get? b = some o) → tn i h'
  item : ∀ (X : Cx), X.prog = P → X.w = w → X.K = K → X.calm = true → ∀ (i : Nat) (pins : List (Addr × Obj)) (s : Shared) (σ : St) (H : Hp) (E : Value → Shared → Prop), Inv X pins σ H s → (∀ b ∈ fp, FpOk X pins H b) → tn i s.heap → J.go i H →
    wpAny (model P w) X.A (pyNext (.ref it)) (fun r s1 => ∃ u, r = some u ∧
      wpAny (model P w) X.A (letOwnedTupleGo tg (.ref it) u) (fun _ s2 => ∃ x H', Inv X pins σ H' s2 ∧ RelV x u ∧ J.yld i H x H' ∧ tn (i + 1) s2.heap ∧ ∀ b ∈ fp, H' b = none) E s1) E s
  done : ∀ (X : Cx), X.prog = P → X.w = w → X.K = K → X.calm = true → ∀ (i : Nat) (pins : List (Addr × Obj)) (s : Shared) (σ : St) (H : Hp) (E : Value → Shared → Prop), Inv X pins σ H s → (∀ b ∈ fp, FpOk X pins H b) → tn i s.heap → J.stop i H →
    wpAny (model P w) X.A (pyNext (.ref it)) (fun r s1 => r = none ∧ Inv X pins σ H s1) E s
  self : ∀ (A : Around) (i : Nat) (s : Shared) (Q : Value → Shared → Prop) (E : Value → Shared → Prop), tn i s.heap → Q (.ref it) s → wpAny (model P w) A (pyIter (.ref it)) Q E s
noncomputable abbrev TI := St → Hp → (It → Hp → Prop) → Prop
noncomputable def PIE (X : Cx) (pins : List (Addr × Obj)) (σ : St) (tg : Expr) (R : It → Hp → Prop) (itv : Value) (s2 : Shared) : Prop :=
  ∃ (it : Addr) (fp : List Addr) (tn : Nat → Heap → Prop) (J : It) (H' : Hp), itv = .ref it ∧ Inv X pins σ H' s2 ∧ Turn X.prog X.w X.K tg J fp it tn ∧ tn 0 s2.heap ∧ (∀ b ∈ fp, FpOk X pins H' b) ∧ R J H'
noncomputable def PI (X : Cx) (tg iter : Expr) (wi : TI) : Prop :=
  ∀ (pins : List (Addr × Obj)) (s : Shared) (σ : St) (H : Hp) (R : It → Hp → Prop), Inv X pins σ H s → wi σ H R →
    wpAny (model X.prog X.w) X.A (eval iter X.env) (fun v s1 => wpAny (model X.prog X.w) X.A (pyIter v) (PIE X pins σ tg R) X.xe s1) X.xe s
theorem go_of {M : Model} {A : Around} {E : Value → Shared → Prop} {s : Shared} {tg : Expr} {it : Addr} {u : Value} {o : Obj} {n : String} {vs : Array Value} {Q : Unit → Shared → Prop} (ho : s.heap.get? it = some o) (hc : o.cls = .type n) (hd : o.data = .fields vs)
    (hn : ["enumerate", "zip", "dict_itemiterator", "dict_reverseitemiterator", "odict_iterator", "itertools.zip_longest", "itertools.pairwise"].contains n = false) (hQ : Q () s) : wpAny M A (letOwnedTupleGo tg (.ref it) u) Q E s := by
  unfold letOwnedTupleGo
  cases tg <;> first
    | exact wpAny_pure hQ
    | (cases u <;> first
        | exact wpAny_pure hQ
        | (refine wpAny_bind (wpAny_load ho ?_)
           rw [hc, hd]
           show wpAny M A (if (["enumerate", "zip", "dict_itemiterator", "dict_reverseitemiterator", "odict_iterator", "itertools.zip_longest", "itertools.pairwise"].contains n && vs[0]? == some (rawInt _)) = true then _ else _) Q E s
           rw [if_neg (by intro h; rw [hn, Bool.false_and] at h; cases h)]
           exact wpAny_pure hQ))
noncomputable def Itl (K : PySem.W.Frag) (a : Addr) : It :=
  ⟨fun i H => ∃ xs x, SqL K H a xs ∧ xs[i]? = some x, fun i H x H' => H' = H ∧ ∀ xs, SqL K H a xs → xs[i]? = some x, fun i H => ∃ xs, SqL K H a xs ∧ xs.length ≤ i⟩
noncomputable def Itt (K : PySem.W.Frag) (a : Addr) : It :=
  ⟨fun i H => ∃ xs x, SqT K H a xs ∧ xs[i]? = some x, fun i H x H' => H' = H ∧ ∀ xs, SqT K H a xs → xs[i]? = some x, fun i H => ∃ xs, SqT K H a xs ∧ xs.length ≤ i⟩
noncomputable def Itr (lo : Int) (n : Nat) : It := ⟨fun i _ => i < n, fun i H x H' => H' = H ∧ x = .int (lo + i), fun i _ => n ≤ i⟩
theorem turn_list {P : Program} {w : World} {K : PySem.W.Frag} {tg : Expr} (a it : Addr) : Turn P w K tg (Itl K a) [it] it (fun i h => h.IsListIter it a i) where
  mem := by simp
  obj := fun i h st b hb => by
    have e : b = it := by simpa using hb
    subst e
    obtain ⟨o, e, c, d⟩ := st
    exact ⟨o, e, fun v z => by rw [d] at z; cases z⟩
  keep := fun i h h' st k => st.at fun o e => k it (by simp) o e
  item := by
    intro X hP hw hK hc i pins s σ H E I hf st hg
    subst hP hw hK
    obtain ⟨xs, x, hq, hx⟩ := hg
    obtain ⟨its, rv, p, hz⟩ := I.list hq
    obtain ⟨u, hu, ru⟩ := rv.get hx
    obtain ⟨f0, f1, f2, f3, f4, f5⟩ := hf it (by simp)
    refine wpAny_pyNext_list_item st p.isList (x := u) (by simpa using hu) fun h' st' sb => ?_
    have I1 : Inv X pins σ H { s with heap := h' } := I.turned (t' := s.toks) (fun b o hb e => (sb.2 b hb).trans e) f0 f1 f3 f4 f5
    obtain ⟨o, e, c, d⟩ := id st'
    exact ⟨u, rfl, go_of (s := { s with heap := h' }) e c d (by decide) ⟨x, H, I1, ru, ⟨rfl, fun ys hy => by rw [I.list_inj hy hq]; exact hx⟩, st', fun b hb => (hf b hb).1⟩⟩
  done := by
    intro X hP hw hK hc i pins s σ H E I hf st hg
    subst hP hw hK
    obtain ⟨xs, hq, hx⟩ := hg
    obtain ⟨its, rv, p, hz⟩ := I.list hq
    obtain ⟨f0, f1, f2, f3, f4, f5⟩ := hf it (by simp)
    have hl := rv.length
    exact wpAny_pyNext_list_end (I.ok.hd hc) st p.isList (by simp; omega) fun h' eb => ⟨rfl, I.turned (t' := s.toks) (fun b o hb e => eb b o hb e) f0 f1 f3 f4 f5⟩
  self := fun _ _ _ _ _ st h => wpAny_pyIter_listiter st h
theorem turn_tuple {P : Program} {w : World} {K : PySem.W.Frag} {tg : Expr} (a it : Addr) : Turn P w K tg (Itt K a) [it] it (fun i h => h.IsTupleIter it a i) where
  mem := by simp
  obj := fun i h st b hb => by
    have e : b = it := by simpa using hb
    subst e
    obtain ⟨o, e, c, d⟩ := st
    exact ⟨o, e, fun v z => by rw [d] at z; cases z⟩
  keep := fun i h h' st k => st.at fun o e => k it (by simp) o e
  item := by
    intro X hP hw hK hc i pins s σ H E I hf st hg
    subst hP hw hK
    obtain ⟨xs, x, hq, hx⟩ := hg
    obtain ⟨its, rv, p, hz⟩ := I.tuple hq
    obtain ⟨u, hu, ru⟩ := rv.get hx
    obtain ⟨f0, f1, f2, f3, f4, f5⟩ := hf it (by simp)
    refine wpAny_pyNext_tuple_item st (show s.heap.IsTuple a its.toArray from p) (x := u) (by simpa using hu) fun h' st' sb => ?_
    have I1 : Inv X pins σ H { s with heap := h' } := I.turned (t' := s.toks) (fun b o hb e => (sb.2 b hb).trans e) f0 f1 f3 f4 f5
    obtain ⟨o, e, c, d⟩ := id st'
    exact ⟨u, rfl, go_of (s := { s with heap := h' }) e c d (by decide) ⟨x, H, I1, ru, ⟨rfl, fun ys hy => by rw [I.tuple_inj hy hq]; exact hx⟩, st', fun b hb => (hf b hb).1⟩⟩
  done := by
    intro X hP hw hK hc i pins s σ H E I hf st hg
    subst hP hw hK
    obtain ⟨xs, hq, hx⟩ := hg
    obtain ⟨its, rv, p, hz⟩ := I.tuple hq
    obtain ⟨f0, f1, f2, f3, f4, f5⟩ := hf it (by simp)
    have hl := rv.length
    exact wpAny_pyNext_tuple_end (I.ok.hd hc) st (show s.heap.IsTuple a its.toArray from p) (by simp; omega) fun h' eb => ⟨rfl, I.turned (t' := s.toks) (fun b o hb e => eb b o hb e) f0 f1 f3 f4 f5⟩
  self := fun _ _ _ _ _ st h => wpAny_pyIter_tupleiter st h
theorem turn_range {P : Program} {w : World} {K : PySem.W.Frag} {tg : Expr} (it : Addr) (lo : Int) (n : Nat) : Turn P w K tg (Itr lo n) [it] it (fun i h => IsRangeIter h it (lo + (i : Nat) * 1) ((n : Int) - (i : Nat)) 1) where
  mem := by simp
  obj := fun i h st b hb => by
    have e : b = it := by simpa using hb
    subst e
    exact ⟨_, st, fun v z => by
      have z' : Data.fields _ = Data.cell v := z
      cases z'⟩
  keep := fun i h h' st k => k it (by simp) _ st
  item := by
    intro X hP hw hK hc i pins s σ H E I hf st hg
    subst hP hw hK
    obtain ⟨f0, f1, f2, f3, f4, f5⟩ := hf it (by simp)
    have W := Walks.range (prog := X.prog) (w := X.w) (I.ok.hd hc) it lo 1 n
    refine W.item i s _ _ hg st fun v h' tk hv st' kk => ?_
    obtain ⟨t, rfl⟩ := hv
    have I1 : Inv X pins σ H { s with heap := h', toks := tk } := I.turned (fun b o hb e => kk b o (by simpa using hb) e) f0 f1 f3 f4 f5
    refine ⟨_, rfl, go_of (s := { s with heap := h', toks := tk }) (n := "range_iterator") st' rfl rfl (by decide) ⟨.int (lo + i), H, I1, ⟨t, ?_⟩, ⟨rfl, rfl⟩, st', fun b hb => (hf b hb).1⟩⟩
    rw [Int.mul_one]
  done := by
    intro X hP hw hK hc i pins s σ H E I hf st hg
    subst hP hw hK
    obtain ⟨f0, f1, f2, f3, f4, f5⟩ := hf it (by simp)
    exact wpAny_pyNext_range_end (I.ok.hd hc) st (by have : n ≤ i := hg; omega) fun h' eb => ⟨rfl, I.turned (t' := s.toks) (fun b o hb e => eb b o hb e) f0 f1 f3 f4 f5⟩
  self := fun _ _ _ _ _ st h => wpAny_pyIter_rangeiter st h
end L2
namespace L2
open PySem PySem.Spec PyProof.Rows
section
variable {X : Cx} {tg : Expr}
noncomputable def iList (K : PySem.W.Frag) (tl : TE) : TI := fun σ H R => tl σ H fun x H1 => ∃ a, x = .ref a ∧ (∃ xs, SqL K H1 a xs) ∧ R (Itl K a) H1
noncomputable def iTup (K : PySem.W.Frag) (tl : TE) : TI := fun σ H R => tl σ H fun x H1 => ∃ a, x = .ref a ∧ (∃ xs, SqT K H1 a xs) ∧ R (Itt K a) H1
theorem range_it {pins : List (Addr × Obj)} {σ : St} {H : Hp} {s : Shared} {R : It → Hp → Prop} {E : Value → Shared → Prop} {lo hi : Int} {t u v : Tok} {tk : Nat} (I : Inv X pins σ H s) (h1 : -(2 ^ 62) ≤ lo) (h2 : lo < 2 ^ 62) (h3 : -(2 ^ 62) ≤ hi) (h4 : hi < 2 ^ 62)
    (q : R (Itr lo (hi - lo).toNat) H) : wpAny (model X.prog X.w) X.A (pyIter (.ref s.heap.objs.size)) (PIE X pins σ tg R) E { s with heap := s.heap.push { cls := .type "range", data := .fields #[.int lo t, .int hi u, .int 1 v] }, toks := tk } := by
  refine wpAny_pyIter_range (IsRange.new ..) (small_one h1 h2 h3 h4) ?_
  have I1 : Inv X pins σ H { s with heap := s.heap.push { cls := .type "range", data := .fields #[.int lo t, .int hi u, .int 1 v] }, toks := tk } := I.kept fun b o e => Heap.get?_push_of_some _ e
  refine ⟨(s.heap.push { cls := .type "range", data := .fields #[.int lo t, .int hi u, .int 1 v] }).objs.size, [(s.heap.push { cls := .type "range", data := .fields #[.int lo t, .int hi u, .int 1 v] }).objs.size], _, _, H, rfl,
    I1.kept (t' := tk) fun b o e => Heap.get?_push_of_some _ e, turn_range _ lo (hi - lo).toNat, ?_, fun b hb => ?_, q⟩
  · have e1 : lo + ((0 : Nat) : Int) * 1 = lo := by simp
    have e2 : (((hi - lo).toNat : Nat) : Int) - ((0 : Nat) : Int) = Builtin.Range.rangeSize lo hi 1 := by rw [rangeSize_one]; split <;> omega
    show IsRangeIter _ _ (lo + ((0 : Nat) : Int) * 1) ((((hi - lo).toNat : Nat) : Int) - ((0 : Nat) : Int)) 1
    rw [e1, e2]
    exact Heap.get?_push_size _ rfl
  · have e : b = (s.heap.push { cls := .type "range", data := .fields #[.int lo t, .int hi u, .int 1 v] }).objs.size := by simpa using hb
    subst e
    exact I1.fpOk (Nat.le_refl _) (I1.hok.fresh (Nat.le_refl _))
noncomputable def iRng1 (ta : TA) : TI := fun σ H R => ta σ H fun vs H1 => ∃ j : Int, vs = [.int j] ∧ -(2 ^ 62) ≤ j ∧ j < 2 ^ 62 ∧ R (Itr 0 j.toNat) H1
noncomputable def iRng2 (ta : TA) : TI := fun σ H R => ta σ H fun vs H1 => ∃ i j : Int, vs = [.int i, .int j] ∧ (-(2 ^ 62) ≤ i ∧ i < 2 ^ 62 ∧ -(2 ^ 62) ≤ j ∧ j < 2 ^ 62) ∧ R (Itr i (j - i).toNat) H1
theorem pi_range1 {a : Expr} {ta : TA} {p pos : Pos} (hg : Gl X "range") (hm : X.mg "range" = none) (ha : PA X [a] ta) (hs : starEach [a] X.env = [(false, eval a X.env)] := by rfl) : PI X tg (.Call (.Name "range" p) [a] [] pos) (iRng1 ta) := by
  intro pins s σ H R I h
  refine Call_ (ld_blt I hg hm boot_range (PyProof.Rows.callWith_type1 (thn (ha pos pins s σ H _ I h) fun us s1 zz37_0 => ?_) hs rfl))
  obtain ⟨vs, H1, I1, r1, q1⟩ := zz37_0
  obtain ⟨j, e, q1, q2, q⟩ := q1
  subst e
  cases r1 with
  | cons r rr =>
    cases rr
    obtain ⟨t, rfl⟩ := r
    exact call_range_1 (range_it I1 (by omega) (by omega) q1 q2 (by simpa using q))
noncomputable def tFor (wi : TI) (g : TG) (tb : TS) : TS := fun D σ H => wi σ H fun J H1 => ∃ W : Nat → Nat → St → Hp → Prop, (∃ m, W 0 m σ H1) ∧ ∀ i m σ H, W i m σ H →
  (J.stop i H ∧ D.nx σ H) ∨ (J.go i H ∧ ∃ N : St → Hp → Prop, (∀ σ' H', N σ' H' → ∃ m', m' < m ∧ W (i + 1) m' σ' H') ∧ ∀ x H', J.yld i H x H' → g x σ H' fun σ2 H2 => tb { D with nx := N, ct := N, bk := D.nx } σ2 H2)
noncomputable def pinsAt (fp : List Addr) (h : Heap) : List (Addr × Obj) := fp.filterMap fun b => (h.get? b).map fun o => (b, o)
theorem mem_pinsAt {fp : List Addr} {h : Heap} {b : Addr} {o : Obj} (hb : b ∈ fp) (e : h.get? b = some o) : (b, o) ∈ pinsAt fp h := List.mem_filterMap.mpr ⟨b, hb, by rw [e]; rfl⟩
theorem of_pinsAt {fp : List Addr} {h : Heap} {p : Addr × Obj} (hp : p ∈ pinsAt fp h) : p.1 ∈ fp ∧ h.get? p.1 = some p.2 := by
  obtain ⟨b, hb, e⟩ := List.mem_filterMap.mp hp
  cases q : h.get? b with
  | none => rw [q] at e; cases e
  | some o =>
    rw [q] at e
    have e' : (b, o) = p := Option.some.inj e
    subst e'
    exact ⟨hb, q⟩
theorem Inv.pinned {pins : List (Addr × Obj)} {σ : St} {H : Hp} {s : Shared} {fp : List Addr} (I : Inv X pins σ H s) (hf : ∀ b ∈ fp, FpOk X pins H b) (ho : ∀ b ∈ fp, ∃ o, s.heap.get? b = some o ∧ ∀ v, o.data ≠ .cell v) : Inv X (pins ++ pinsAt fp s.heap) σ H s :=
  I.pins_of fun p hp => (List.mem_append.mp hp).elim (fun z => I.pin p (List.mem_append_right _ z)) fun z => by
    obtain ⟨hb, e⟩ := of_pinsAt z
    obtain ⟨f0, f1, f2, _⟩ := hf p.1 hb
    obtain ⟨o, e', d⟩ := ho p.1 hb
    rw [e] at e'; cases e'
    exact ⟨e, f0, f1, f2, d⟩
theorem Inv.unpinned {pins pl : List (Addr × Obj)} {σ : St} {H : Hp} {s : Shared} (I : Inv X (pins ++ pl) σ H s) : Inv X pins σ H s := I.pins_of fun p hp => I.pin p (List.mem_append_right _ (List.mem_append_left _ hp))
theorem ps_for {iter : Expr} {body : List Stmt} {wi : TI} {g : TG} {tb : TS} {pos : Pos} (hp : PassesOwn (model X.prog X.w) X.A X.env X.xe) (hc : X.calm = true) (hi : PI X tg iter wi) (hg : PG X tg g) (hb : PSs X body tb)
    (hs : ∀ x, foldedSetIterable iter X.env x = pure x := by intro _; rfl) : PS X (.For tg iter body [] pos) (tFor wi g tb) := by
  intro pins s σ H D I h
  refine wpAny_For (thn (hi pins s σ H _ I h) fun v s1 h1 => thn h1 fun itv s2 h2 => ?_) hs
  obtain ⟨it, fp, tn, J, H2, e, I2, T, st2, f2, W, ⟨m0, w0⟩, turn⟩ := h2
  subst e
  have stat : ∀ {H' : Hp}, (∀ b ∈ fp, H' b = none) → ∀ b ∈ fp, FpOk X pins H' b := fun hn b hb => ⟨hn b hb, (f2 b hb).2⟩
  refine codeAny_forLoop_any (fun n s' => ∃ i σ' H', Inv X pins σ' H' s' ∧ tn i s'.heap ∧ (∀ b ∈ fp, H' b = none) ∧ W i n σ' H') ?_ m0 ⟨0, σ, H2, I2, st2, fun b hb => (f2 b hb).1, w0⟩
  rintro n s3 ⟨i, σ3, H3, I3, st3, fr3, w3⟩
  rcases turn i n σ3 H3 w3 with ⟨stop, qn⟩ | ⟨go, N, hN, step⟩
  · refine wpAny_passesOwn hp (thn (T.done X rfl rfl rfl hc i pins s3 σ3 H3 X.xe I3 (stat fr3) st3 stop) fun r s4 zz38_0 => ?_)
    obtain ⟨hr, I4⟩ := zz38_0
    subst hr
    exact wpAny_execs_nil ⟨σ3, H3, I4, qn⟩
  · refine wpAny_passesOwn hp (thn (T.item X rfl rfl rfl hc i pins s3 σ3 H3 X.xe I3 (stat fr3) st3 go) fun r s4 zz39_0 => ?_)
    obtain ⟨u, hr, h4⟩ := zz39_0
    subst hr
    refine wpAny_passesOwn hp (thn h4 fun _ s5 zz40_0 => ?_)
    obtain ⟨x, H5, I5, r5, y5, st5, fr5⟩ := zz40_0
    have I5' := I5.pinned (stat fr5) (T.obj _ _ st5)
    refine wpAny_passesOwn hp (thn (hg _ s5 σ3 H5 x u _ I5' r5 (step x H5 y5)) fun _ s6 zz41_0 => ?_)
    obtain ⟨σ6, H6, I6, q6⟩ := zz41_0
    refine wpAny_passesOwn hp (thn (hb _ s6 σ6 H6 _ I6 q6) fun f s7 q7 => ?_)
    have again : ∀ {σ7 : St} {H7 : Hp}, Inv X (pins ++ pinsAt fp s5.heap) σ7 H7 s7 → N σ7 H7 → ∃ m, m < n ∧ ∃ i σ' H', Inv X pins σ' H' s7 ∧ tn i s7.heap ∧ (∀ b ∈ fp, H' b = none) ∧ W i m σ' H' := fun {σ7 H7} I7 n7 => by
      obtain ⟨m', hm, w7⟩ := hN σ7 H7 n7
      refine ⟨m', hm, i + 1, σ7, H7, I7.unpinned, T.keep _ _ _ st5 fun b hb o e => (I7.pin (b, o) (List.mem_append_right _ (List.mem_append_right _ (mem_pinsAt hb e)))).1, fun b hb => ?_, w7⟩
      obtain ⟨o, e, d⟩ := T.obj _ _ st5 b hb
      exact (I7.pin (b, o) (List.mem_append_right _ (List.mem_append_right _ (mem_pinsAt hb e)))).2.1
    cases f with
    | next => obtain ⟨σ7, H7, I7, n7⟩ := q7; exact again I7 n7
    | cont => obtain ⟨σ7, H7, I7, n7⟩ := q7; exact again I7 n7
    | brk => obtain ⟨σ7, H7, I7, q7⟩ := q7; exact ⟨σ7, H7, I7.unpinned, q7⟩
    | ret v => obtain ⟨x7, σ7, H7, I7, r7, q7⟩ := q7; exact ⟨x7, σ7, H7, I7.unpinned, r7, q7⟩
end
theorem for_range {lo : Int} {n : Nat} {g : TG} {tb : TS} {D : Ends} {σ : St} {H : Hp} (Pv : Nat → St → Hp → Prop) (h0 : Pv 0 σ H)
    (hs : ∀ i σ H, i < n → Pv i σ H → g (.int (lo + i)) σ H fun σ2 H2 => tb { D with nx := Pv (i + 1), ct := Pv (i + 1), bk := D.nx } σ2 H2) (hd : ∀ σ H, Pv n σ H → D.nx σ H) :
    ∃ W : Nat → Nat → St → Hp → Prop, (∃ m, W 0 m σ H) ∧ ∀ i m σ H, W i m σ H →
      ((Itr lo n).stop i H ∧ D.nx σ H) ∨ ((Itr lo n).go i H ∧ ∃ N : St → Hp → Prop, (∀ σ' H', N σ' H' → ∃ m', m' < m ∧ W (i + 1) m' σ' H') ∧ ∀ x H', (Itr lo n).yld i H x H' → g x σ H' fun σ2 H2 => tb { D with nx := N, ct := N, bk := D.nx } σ2 H2) := by
  refine ⟨fun i m σ H => m = n - i ∧ i ≤ n ∧ Pv i σ H, ⟨n, by simp, Nat.zero_le _, h0⟩, ?_⟩
  rintro i m σ H ⟨rfl, hi, p⟩
  by_cases hlt : i < n
  · refine .inr ⟨hlt, Pv (i + 1), fun σ' H' p' => ⟨n - (i + 1), by omega, rfl, hlt, p'⟩, fun x H' y => ?_⟩
    obtain ⟨e, y⟩ := y
    subst e y
    exact hs i σ _ hlt p
  · have e : i = n := by omega
    subst e
    exact .inl ⟨Nat.le_refl _, hd σ H p⟩
end L2
namespace L2
open PySem PySem.Spec PyProof.Rows
noncomputable abbrev R2 := V → V → Hp → VK → Prop
noncomputable def OpR (X : Cx) (f : Value → Value → Sem Value) (r : R2) : Prop :=
  ∀ (pins : List (Addr × Obj)) (s : Shared) (σ : St) (H : Hp) (x y : V) (v u : Value) (Q : VK), Inv X pins σ H s → RelV x v → RelV y u → r x y H Q →
    wpAny (model X.prog X.w) X.A (f v u) (EP X pins σ Q) X.xe s
noncomputable def UnR (X : Cx) (f : Value → Sem Value) (r : V → Hp → VK → Prop) : Prop :=
  ∀ (pins : List (Addr × Obj)) (s : Shared) (σ : St) (H : Hp) (x : V) (v : Value) (Q : VK), Inv X pins σ H s → RelV x v → r x H Q →
    wpAny (model X.prog X.w) X.A (f v) (EP X pins σ Q) X.xe s
noncomputable def CallR (X : Cx) (f : Value) (r : List V → Hp → VK → Prop) : Prop :=
  ∀ (pins : List (Addr × Obj)) (s : Shared) (σ : St) (H : Hp) (xs : List V) (us : List Value) (Q : VK), Inv X pins σ H s → Vals xs us → r xs H Q →
    wpAny (model X.prog X.w) X.A (call f us) (EP X pins σ Q) X.xe s
noncomputable def TruR (X : Cx) (r : V → Hp → (Bool → Hp → Prop) → Prop) : Prop :=
  ∀ (pins : List (Addr × Obj)) (s : Shared) (σ : St) (H : Hp) (x : V) (v : Value) (Q : Bool → Hp → Prop), Inv X pins σ H s → RelV x v → r x H Q →
    wpAny (model X.prog X.w) X.A (truthy v) (TP X pins σ Q) X.xe s
noncomputable def tOp (r : R2) (ta tb : TE) : TE := fun σ H Q => ta σ H fun x H1 => tb σ H1 fun y H2 => r x y H2 Q
noncomputable def tUn (r : V → Hp → VK → Prop) (ta : TE) : TE := fun σ H Q => ta σ H fun x H1 => r x H1 Q
noncomputable def rI (C : Int → Int → Prop) (g : Int → Int → V) : R2 := fun x y H Q => ∃ i j, x = .int i ∧ y = .int j ∧ C i j ∧ Q (g i j) H
noncomputable def rI0 (g : Int → Int → V) : R2 := fun x y H Q => ∃ i j, x = .int i ∧ y = .int j ∧ Q (g i j) H
noncomputable def rU (g : Int → V) : V → Hp → VK → Prop := fun x H Q => ∃ i, x = .int i ∧ Q (g i) H
section
variable {X : Cx} {a b c : Expr} {ta tb tc : TE} {pos : Pos}
theorem binT (ha : PE X a ta) (hb : PE X b tb) {pins : List (Addr × Obj)} {s : Shared} {σ : St} {H : Hp} {R : V → V → Hp → Prop} (I : Inv X pins σ H s)
    (h : ta σ H fun x H1 => tb σ H1 fun y H2 => R x y H2) {Q : Value → Shared → Prop} {f : Value → Value → Sem Value}
    (hf : ∀ v u s2 x y H2, Inv X pins σ H2 s2 → RelV x v → RelV y u → R x y H2 → wpAny (model X.prog X.w) X.A (f v u) Q X.xe s2) :
    wpAny (model X.prog X.w) X.A (eval a X.env) (fun v s₁ => wpAny (model X.prog X.w) X.A (eval b X.env) (fun u s₂ => wpAny (model X.prog X.w) X.A (f v u) Q X.xe s₂) X.xe s₁) X.xe s := by
  refine thn (ha pins s σ H _ I h) fun v s1 zz43_0 => ?_
  obtain ⟨x, H1, I1, r1, q1⟩ := zz43_0
  refine thn (hb pins s1 σ H1 _ I1 q1) fun u s2 zz44_0 => ?_
  obtain ⟨y, H2, I2, r2, q2⟩ := zz44_0
  exact hf v u s2 x y H2 I2 r1 r2 q2
theorem pe_op {op : Operator} {r : R2} (ho : OpR X (binaryOp op) r) (ha : PE X a ta) (hb : PE X b tb) : PE X (.BinOp a op b pos) (tOp r ta tb) := by
  intro pins s σ H Q I h
  exact wpAny_BinOp (binT ha hb I h fun v u s2 x y H2 I2 rx ry q => ho pins s2 σ H2 x y v u Q I2 rx ry q)
theorem pe_un {op : UnaryOp} {r : V → Hp → VK → Prop} (ho : UnR X (unaryOp op) r) (ha : PE X a ta) : PE X (.UnaryOp op a pos) (tUn r ta) := by
  intro pins s σ H Q I h
  exact UnaryOp_ (thn (ha pins s σ H _ I h) fun v s1 zz45_0 => by obtain ⟨x, H1, I1, r1, q1⟩ := zz45_0; exact (ho pins s1 σ H1 x v Q I1 r1 q1))
theorem opI {f : Value → Value → Sem Value} {C : Int → Int → Prop} {g : Int → Int → Int}
    (rule : ∀ (i j : Int) (t u : Tok) (s : Shared) (Q : Value → Shared → Prop) (E : Value → Shared → Prop), C i j → Q (.int (g i j) s.toks) { s with toks := s.toks + 1 } → wpAny (model X.prog X.w) X.A (f (.int i t) (.int j u)) Q E s) :
    OpR X f (rI C fun i j => .int (g i j)) := by
  intro pins s σ H x y v u Q I rx ry h
  obtain ⟨i, j, rfl, rfl, hc, q⟩ := h
  obtain ⟨t, rfl⟩ := rx
  obtain ⟨t', rfl⟩ := ry
  exact rule i j t t' s _ _ hc ⟨.int (g i j), H, I.tok _, ⟨_, rfl⟩, q⟩
theorem opI0 {f : Value → Value → Sem Value} {g : Int → Int → Int}
    (rule : ∀ (i j : Int) (t u : Tok) (s : Shared) (Q : Value → Shared → Prop) (E : Value → Shared → Prop), Q (.int (g i j) s.toks) { s with toks := s.toks + 1 } → wpAny (model X.prog X.w) X.A (f (.int i t) (.int j u)) Q E s) :
    OpR X f (rI0 fun i j => .int (g i j)) := by
  intro pins s σ H x y v u Q I rx ry h
  obtain ⟨i, j, rfl, rfl, q⟩ := h
  obtain ⟨t, rfl⟩ := rx
  obtain ⟨t', rfl⟩ := ry
  exact rule i j t t' s _ _ ⟨.int (g i j), H, I.tok _, ⟨_, rfl⟩, q⟩
theorem opB0 {f : Value → Value → Sem Value} {g : Int → Int → Bool}
    (rule : ∀ (i j : Int) (t u : Tok) (s : Shared) (Q : Value → Shared → Prop) (E : Value → Shared → Prop), Q (.bool (g i j)) s → wpAny (model X.prog X.w) X.A (f (.int i t) (.int j u)) Q E s) :
    OpR X f (rI0 fun i j => .bl (g i j)) := by
  intro pins s σ H x y v u Q I rx ry h
  obtain ⟨i, j, rfl, rfl, q⟩ := h
  obtain ⟨t, rfl⟩ := rx
  obtain ⟨t', rfl⟩ := ry
  exact rule i j t t' s _ _ ⟨.bl (g i j), H, I, rfl, q⟩
noncomputable def CDiv (i j : Int) : Prop := 0 < j ∧ j < 1073741824
noncomputable def CDivN (i j : Int) : Prop := j ≠ 0 ∧ j.natAbs < 1073741824
noncomputable def CPow (i j : Int) : Prop := 0 ≤ j ∧ j ≤ 1000000 ∧ i.natAbs < 2 ^ 64
noncomputable def CMul (i j : Int) : Prop := (-(2 ^ 64) < i ∧ i < 2 ^ 64) ∨ (-(2 ^ 64) < j ∧ j < 2 ^ 64)
theorem CMul.ok {i j : Int} (h : CMul i j) : IntMulOk i j := by
  rcases h with ⟨h1, h2⟩ | ⟨h1, h2⟩
  · exact .of_left (intBits_le_64 h1 h2)
  · exact .of_right (intBits_le_64 h1 h2)
theorem op_add : OpR X (binaryOp .Add) (rI0 fun i j => .int (i + j)) := opI0 fun _ _ _ _ _ _ _ q => add_int q
theorem op_sub : OpR X (binaryOp .Sub) (rI0 fun i j => .int (i - j)) := opI0 fun _ _ _ _ _ _ _ q => sub_int q
theorem op_modN : OpR X (binaryOp .Mod) (rI (fun _ j => j ≠ 0) fun i j => .int (i.fmod j)) := opI fun _ _ _ _ _ _ _ hc q => mod_int' hc q
theorem op_pow : OpR X (binaryOp .Pow) (rI CPow fun i j => .int (i ^ j.toNat)) := opI fun _ _ _ _ _ _ _ hc q => pow_int_small hc.1 hc.2.1 hc.2.2 q
theorem unI {f : Value → Sem Value} {g : Int → Int}
    (rule : ∀ (i : Int) (t : Tok) (s : Shared) (Q : Value → Shared → Prop) (E : Value → Shared → Prop), Q (.int (g i) s.toks) { s with toks := s.toks + 1 } → wpAny (model X.prog X.w) X.A (f (.int i t)) Q E s) :
    UnR X f (rU fun i => .int (g i)) := by
  intro pins s σ H x v Q I rx h
  obtain ⟨i, rfl, q⟩ := h
  obtain ⟨t, rfl⟩ := rx
  exact rule i t s _ _ ⟨.int (g i), H, I.tok _, ⟨_, rfl⟩, q⟩
theorem un_neg : UnR X (unaryOp .USub) (rU fun i => .int (-i)) := unI fun _ _ _ _ _ q => neg_int q
end
noncomputable def scal : V → V → Bool
  | .non, .non => true | .non, .int _ => true | .int _, .non => true | .non, .bl _ => true | .bl _, .non => true | .non, .str _ => true | .str _, .non => true
  | .int _, .int _ => true | .bl _, .bl _ => true | .str _, .str _ => true | .byt _, .byt _ => true
  | .int _, .str _ => true | .str _, .int _ => true | .bl _, .str _ => true | .str _, .bl _ => true
  | _, _ => false
noncomputable def rEq : R2 := fun x y H Q => scal x y = true ∧ Q (.bl (decide (x = y))) H
noncomputable def rNe : R2 := fun x y H Q => scal x y = true ∧ Q (.bl (!decide (x = y))) H
theorem dec_int {i j : Int} : decide (V.int i = V.int j) = (i == j) := by
  rw [Bool.eq_iff_iff]
  simp
theorem dec_bl {i j : Bool} : decide (V.bl i = V.bl j) = (i == j) := by
  rw [Bool.eq_iff_iff]
  simp
theorem dec_str {i j : Str} : decide (V.str i = V.str j) = (i == j) := by
  rw [Bool.eq_iff_iff]
  simp
theorem dec_byt {i j : Array UInt8} : decide (V.byt i = V.byt j) = (i.toList == j.toList) := by
  rw [Bool.eq_iff_iff]
  cases i
  cases j
  simp
section
variable {X : Cx} {a b c : Expr} {ta tb tc : TE} {pos : Pos}
theorem fin_bl {pins : List (Addr × Obj)} {σ : St} {H : Hp} {s : Shared} {Q : VK} {k k' : Bool} (I : Inv X pins σ H s) (q : Q (.bl k) H) (e : k = k') : EP X pins σ Q (.bool k') s := by
  subst e
  exact ⟨.bl k, H, I, rfl, q⟩
theorem op_eq : OpR X (compareOp .Eq) rEq := by
  intro pins s σ H x y v u Q I rx ry h
  obtain ⟨hs, q⟩ := h
  cases x with
  | non =>
    cases rx
    cases y with
    | non => cases ry; exact PySem.EqNone.eq_none_none (fin_bl I q (by simp))
    | bl j => cases ry; exact PySem.EqNone.eq_none_bool (fin_bl I q (by simp))
    | int j => obtain ⟨t', rfl⟩ := ry; exact PySem.EqNone.eq_none_int (fin_bl I q (by simp))
    | str j => obtain ⟨t', rfl⟩ := ry; exact PySem.EqNone.eq_none_str (fin_bl I q (by simp))
    | _ => exact absurd (show false = true from hs) Bool.false_ne_true
  | bl i =>
    cases rx
    cases y with
    | non => cases ry; exact PySem.EqNone.eq_bool_none (fin_bl I q (by simp))
    | bl j => cases ry; exact eq_bool (fin_bl I q dec_bl)
    | str j => obtain ⟨t', rfl⟩ := ry; exact PySem.EqMixed.eq_bool_str (fin_bl I q (by simp))
    | _ => exact absurd (show false = true from hs) Bool.false_ne_true
  | int i =>
    obtain ⟨t, rfl⟩ := rx
    cases y with
    | non => cases ry; exact PySem.EqNone.eq_int_none (fin_bl I q (by simp))
    | int j => obtain ⟨t', rfl⟩ := ry; exact eq_int (fin_bl I q dec_int)
    | str j => obtain ⟨t', rfl⟩ := ry; exact PySem.EqMixed.eq_int_str (fin_bl I q (by simp))
    | _ => exact absurd (show false = true from hs) Bool.false_ne_true
  | str i =>
    obtain ⟨t, rfl⟩ := rx
    cases y with
    | non => cases ry; exact PySem.EqNone.eq_str_none (fin_bl I q (by simp))
    | bl j => cases ry; exact PySem.EqMixed.eq_str_bool (fin_bl I q (by simp))
    | int j => obtain ⟨t', rfl⟩ := ry; exact PySem.EqMixed.eq_str_int (fin_bl I q (by simp))
    | str j => obtain ⟨t', rfl⟩ := ry; exact eq_str (fin_bl I q dec_str)
    | _ => exact absurd (show false = true from hs) Bool.false_ne_true
  | byt i =>
    obtain ⟨t, rfl⟩ := rx
    cases y with
    | byt j => obtain ⟨t', rfl⟩ := ry; exact PySem.W.eq_bytes (fin_bl I q dec_byt)
    | _ => exact absurd (show false = true from hs) Bool.false_ne_true
  | _ => cases y <;> exact absurd (show false = true from hs) Bool.false_ne_true
theorem op_ne : OpR X (compareOp .NotEq) rNe := by
  intro pins s σ H x y v u Q I rx ry h
  obtain ⟨hs, q⟩ := h
  cases x with
  | non =>
    cases rx
    cases y with
    | non => cases ry; exact PySem.EqNone.ne_none_none (fin_bl I q (by simp))
    | bl j => cases ry; exact PySem.EqNone.ne_none_bool (fin_bl I q (by simp))
    | int j => obtain ⟨t', rfl⟩ := ry; exact PySem.EqNone.ne_none_int (fin_bl I q (by simp))
    | str j => obtain ⟨t', rfl⟩ := ry; exact PySem.EqNone.ne_none_str (fin_bl I q (by simp))
    | _ => exact absurd (show false = true from hs) Bool.false_ne_true
  | bl i =>
    cases rx
    cases y with
    | non => cases ry; exact PySem.EqNone.ne_bool_none (fin_bl I q (by simp))
    | bl j => cases ry; exact ne_bool (fin_bl I q (congrArg not dec_bl))
    | str j => obtain ⟨t', rfl⟩ := ry; exact PySem.EqMixed.ne_bool_str (fin_bl I q (by simp))
    | _ => exact absurd (show false = true from hs) Bool.false_ne_true
  | int i =>
    obtain ⟨t, rfl⟩ := rx
    cases y with
    | non => cases ry; exact PySem.EqNone.ne_int_none (fin_bl I q (by simp))
    | int j => obtain ⟨t', rfl⟩ := ry; exact ne_int (fin_bl I q (congrArg not dec_int))
    | str j => obtain ⟨t', rfl⟩ := ry; exact PySem.EqMixed.ne_int_str (fin_bl I q (by simp))
    | _ => exact absurd (show false = true from hs) Bool.false_ne_true
  | str i =>
    obtain ⟨t, rfl⟩ := rx
    cases y with
    | non => cases ry; exact PySem.EqNone.ne_str_none (fin_bl I q (by simp))
    | bl j => cases ry; exact PySem.EqMixed.ne_str_bool (fin_bl I q (by simp))
    | int j => obtain ⟨t', rfl⟩ := ry; exact PySem.EqMixed.ne_str_int (fin_bl I q (by simp))
    | str j => obtain ⟨t', rfl⟩ := ry; exact ne_str (fin_bl I q (congrArg not dec_str))
    | _ => exact absurd (show false = true from hs) Bool.false_ne_true
  | byt i =>
    obtain ⟨t, rfl⟩ := rx
    cases y with
    | byt j => obtain ⟨t', rfl⟩ := ry; exact PySem.W.ne_bytes (fin_bl I q (congrArg not dec_byt))
    | _ => exact absurd (show false = true from hs) Bool.false_ne_true
  | _ => cases y <;> exact absurd (show false = true from hs) Bool.false_ne_true
theorem op_lt : OpR X (compareOp .Lt) (rI0 fun i j => .bl (decide (i < j))) := opB0 fun _ _ _ _ _ _ _ q => lt_int q
theorem op_le : OpR X (compareOp .LtE) (rI0 fun i j => .bl (decide (i ≤ j))) := opB0 fun _ _ _ _ _ _ _ q => le_int q
theorem op_gt : OpR X (compareOp .Gt) (rI0 fun i j => .bl (decide (j < i))) := opB0 fun _ _ _ _ _ _ _ q => gt_int q
theorem op_ge : OpR X (compareOp .GtE) (rI0 fun i j => .bl (decide (j ≤ i))) := opB0 fun _ _ _ _ _ _ _ q => ge_int q
theorem op_notin_str : OpR X (compareOp .NotIn) (fun x y H Q => ∃ i j, x = .str i ∧ y = .str j ∧ Q (.bl (!(!(Builtin.Str.occurrences j i 0 j.length 1).isEmpty))) H) := by
  intro pins s σ H x y v u Q I rx ry h
  obtain ⟨i, j, rfl, rfl, q⟩ := h
  obtain ⟨t, rfl⟩ := rx
  obtain ⟨t', rfl⟩ := ry
  exact notIn_str (fin_bl I q rfl)
noncomputable def isObj : HO → Bool
  | .lst _ => true
  | .ins _ _ _ => true
  | _ => false
theorem OpR.or {f : Value → Value → Sem Value} {r r' : R2} (h : OpR X f r) (h' : OpR X f r') : OpR X f (fun x y H Q => r x y H Q ∨ r' x y H Q) := by
  intro pins s σ H x y v u Q I rx ry q
  rcases q with q | q
  · exact h pins s σ H x y v u Q I rx ry q
  · exact h' pins s σ H x y v u Q I rx ry q
theorem nomark (b : Expr) {op : CmpOp} (h : op ≠ .In := by decide) (h2 : op ≠ .NotIn := by decide) : behindInMarks op b = false := by
  have e1 : (op == CmpOp.In) = false := by cases op <;> first | rfl | exact absurd rfl h
  have e2 : (op == CmpOp.NotIn) = false := by cases op <;> first | rfl | exact absurd rfl h2
  cases b <;> simp [behindInMarks, e1, e2]
theorem pe_cmpR {op : CmpOp} {r : R2} (ho : OpR X (compareOp op) r) (ha : PE X a ta) (hb : PE X b tb) (hm : behindInMarks op b = false) : PE X (.Compare a [op] [b] pos) (tOp r ta tb) := by
  intro pins s σ H Q I h
  exact wpAny_Compare1 (binT ha hb I h fun v u s2 x y H2 I2 rx ry q => ho pins s2 σ H2 x y v u Q I2 rx ry q) hm
noncomputable def tTest (t : TE) : TT := fun σ H Q => t σ H fun x H' => ∃ k, x = .bl k ∧ Q k H'
theorem pt_cmpR {op : CmpOp} {r : R2} (ho : OpR X (compareOp op) r) (ha : PE X a ta) (hb : PE X b tb) (hm : behindInMarks op b = false) : PT X (.Compare a [op] [b] pos) (tTest (tOp r ta tb)) := by
  intro pins s σ H Q I h
  refine wpAny_isTrue_Compare1 (thn (ha pins s σ H _ I h) fun v s1 ⟨x, H1, I1, r1, q1⟩ => thn (hb pins s1 σ H1 _ I1 q1) fun u s2 ⟨y, H2, I2, r2, q2⟩ =>
    thn (ho pins s2 σ H2 x y v u _ I2 r1 r2 q2) fun c s3 ⟨z, H3, I3, r3, k, e, q3⟩ => ?_) hm
  subst e
  cases r3
  exact wpAny_truthy_bool ⟨H3, I3, q3⟩
noncomputable def tChain (r r' : R2) (ta tb tc : TE) : TE := fun σ H Q => ta σ H fun x H1 => tb σ H1 fun y H2 => r x y H2 fun z H3 => ∃ k, z = .bl k ∧
  (if k = true then tc σ H3 fun w' H4 => r' y w' H4 Q else Q (.bl false) H3)
theorem pe_chain {op op' : CmpOp} {r r' : R2} (ho : OpR X (compareOp op) r) (ho' : OpR X (compareOp op') r') (ha : PE X a ta) (hb : PE X b tb) (hc : PE X c tc)
    (hm : lastMarks [op, op'] [b, c] = false := by with_unfolding_all rfl) : PE X (.Compare a [op, op'] [b, c] pos) (tChain r r' ta tb tc) := by
  intro pins s σ H Q I h
  refine Compare_chain (thn (ha pins s σ H _ I h) fun v s1 ⟨x, H1, I1, r1, q1⟩ => chain_link (thn (hb pins s1 σ H1 _ I1 q1) fun u s2 ⟨y, H2, I2, r2, q2⟩ =>
    thn (ho pins s2 σ H2 x y v u _ I2 r1 r2 q2) fun d s3 ⟨z, H3, I3, r3, k, e, q3⟩ => ?_)) hm
  subst e
  cases r3
  refine wpAny_truthy_bool ?_
  cases k with
  | false => exact ite_ff ⟨.bl false, H3, I3, rfl, q3⟩
  | true => exact ite_tt (chain_last (thn (hc pins s3 σ H3 _ I3 q3) fun w' s4 zz46_0 => by obtain ⟨z', H4, I4, r4, q4⟩ := zz46_0; exact (ho' pins s4 σ H4 y z' u w' Q I4 r2 r4 q4)))
theorem pt_chain {op op' : CmpOp} {r r' : R2} (ho : OpR X (compareOp op) r) (ho' : OpR X (compareOp op') r') (ha : PE X a ta) (hb : PE X b tb) (hc : PE X c tc)
    (hm : lastMarks [op, op'] [b, c] = false := by with_unfolding_all rfl) : PT X (.Compare a [op, op'] [b, c] pos) (tTest (tChain r r' ta tb tc)) := by
  intro pins s σ H Q I h
  refine isTrue_chain (thn (ha pins s σ H _ I h) fun v s1 ⟨x, H1, I1, r1, q1⟩ => test_link (thn (hb pins s1 σ H1 _ I1 q1) fun u s2 ⟨y, H2, I2, r2, q2⟩ =>
    thn (ho pins s2 σ H2 x y v u _ I2 r1 r2 q2) fun d s3 ⟨z, H3, I3, r3, k, e, q3⟩ => ?_)) hm
  subst e
  cases r3
  refine wpAny_truthy_bool ?_
  cases k with
  | false =>
    obtain ⟨k', e', q'⟩ := q3
    cases e'
    exact ite_ff ⟨H3, I3, q'⟩
  | true =>
    refine ite_tt (test_last (thn (hc pins s3 σ H3 _ I3 q3) fun w' s4 ⟨z', H4, I4, r4, q4⟩ => thn (ho' pins s4 σ H4 y z' u w' _ I4 r2 r4 q4) fun d' s5 zz47_0 => ?_))
    obtain ⟨z2, H5, I5, r5, k2, e2, q5⟩ := zz47_0
    subst e2
    cases r5
    exact wpAny_truthy_bool ⟨H5, I5, q5⟩
noncomputable def TruV (K : PySem.W.Frag) (x : V) (H : Hp) (k : Bool) : Prop :=
  match x with
  | .non => k = false
  | .bl b => k = b
  | .int i => k = (i != 0)
  | .str y => y.length ≤ sizeLine ∧ k = ((y.length : Int) != 0)
  | .byt y => y.size ≤ sizeLine ∧ k = ((y.size : Int) != 0)
  | .ref p => (∃ xs, SqL K H p xs ∧ k = !xs.isEmpty) ∨ (∃ xs, SqT K H p xs ∧ k = !xs.isEmpty) ∨ ∃ kvs, H p = some (.dK kvs) ∧ k = !kvs.isEmpty
  | _ => False
theorem isEmpty_kv {κ : Type} {kvs : List (κ × V)} {vs : List (κ × Value)} (r : KV kvs vs) : (!vs.isEmpty) = !kvs.isEmpty := by
  cases r <;> rfl
theorem isEmpty_of {xs : List V} {its : List Value} (r : Vals xs its) : (!its.toArray.isEmpty) = !xs.isEmpty := by
  cases r <;> simp
theorem line63 : (sizeLine : Nat) < 2 ^ 63 := by rw [sizeLine_eq]; decide
theorem tru_ok : TruR X (fun x H Q => ∃ k, TruV X.K x H k ∧ Q k H) := by
  intro pins s σ H x v Q I rx h
  obtain ⟨k, e, q⟩ := h
  have hl := line63
  have hs : sizeLine = 16777216 := sizeLine_eq
  cases x with
  | non =>
    cases rx
    have e' : k = false := e
    subst e'
    exact truthy_none ⟨H, I, q⟩
  | bl b =>
    cases rx
    have e' : k = b := e
    subst e'
    exact wpAny_truthy_bool ⟨H, I, q⟩
  | int i =>
    obtain ⟨t, rfl⟩ := rx
    have e' : k = (i != 0) := e
    subst e'
    exact PySem.P.truthy_int ⟨H, I, q⟩
  | str y =>
    obtain ⟨t, rfl⟩ := rx
    obtain ⟨hy, e'⟩ : y.length ≤ sizeLine ∧ k = ((y.length : Int) != 0) := e
    subst e'
    exact PySem.P.truthy_str (by omega) ⟨H, I.tok _, q⟩
  | byt y =>
    obtain ⟨t, rfl⟩ := rx
    obtain ⟨hy, e'⟩ : y.size ≤ sizeLine ∧ k = ((y.size : Int) != 0) := e
    subst e'
    exact PySem.W.truthy_bytes (by omega) ⟨H, I.tok _, q⟩
  | ref p =>
    cases rx
    have e' : (∃ xs, SqL X.K H p xs ∧ k = !xs.isEmpty) ∨ (∃ xs, SqT X.K H p xs ∧ k = !xs.isEmpty) ∨ ∃ kvs, H p = some (.dK kvs) ∧ k = !kvs.isEmpty := e
    rcases e' with ⟨xs, hx, e'⟩ | ⟨xs, hx, e'⟩ | ⟨kvs, hx, e'⟩
    · subst e'
      obtain ⟨its, r, pl, hz⟩ := I.list hx
      have hlen := r.length
      exact wpAny_truthy_list pl.isList (by simp only [List.size_toArray]; omega) ⟨H, I.tok _, by rw [isEmpty_of r]; exact q⟩
    · subst e'
      obtain ⟨its, r, pl, hz⟩ := I.tuple hx
      have hlen := r.length
      exact truthy_tuple pl (by simp only [List.size_toArray]; omega) ⟨H, I.tok _, by rw [isEmpty_of r]; exact q⟩
    · subst e'
      obtain ⟨hz, hS, vs, r, m⟩ : kvs.length ≤ sizeLine ∧ (p == sysModules) = false ∧ ∃ vs, KV kvs vs ∧ s.heap.DictOf (mixKind X.prog X.w) p vs := I.hok p _ hx
      have hlen : kvs.length = vs.length := Paired.length r
      exact wpAny_truthy_dict hS m (by omega) ⟨H, I.tok _, by rw [isEmpty_kv r]; exact q⟩
  | _ => exact (show False from e).elim
theorem pt_truth (ha : PE X a ta) (he : ∀ whole, isTrue a X.env whole = (do let v ← whole; standAt a.pos; holding [v] (truthy v))) :
    PT X a (fun σ H Q => ta σ H fun x H' => ∃ k, TruV X.K x H' k ∧ Q k H') := by
  intro pins s σ H Q I h
  exact isTrue_plain (thn (ha pins s σ H _ I h) fun v s1 zz48_0 => by obtain ⟨x, H1, I1, r1, q1⟩ := zz48_0; exact (tru_ok pins s1 σ H1 x v Q I1 r1 q1)) (he _)
theorem op_add_str : OpR X (binaryOp .Add) (fun x y H Q => ∃ i j, x = .str i ∧ y = .str j ∧ i.length + j.length ≤ sizeLine ∧ Q (.str (i ++ j)) H) := by
  intro pins s σ H x y v u Q I rx ry h
  obtain ⟨i, j, rfl, rfl, hz, q⟩ := h
  obtain ⟨t, rfl⟩ := rx
  obtain ⟨t', rfl⟩ := ry
  exact add_str (fun t' tk => ⟨.str (i ++ j), H, I.tok _, ⟨_, rfl⟩, q⟩) hz
noncomputable def PlainIxT (b : Expr) : Prop := ∀ o i, subscripted b false o i = operate [o, i] (getItem o i)
theorem vals1 {x : V} {us : List Value} (r : Vals [x] us) : ∃ u, us = [u] ∧ RelV x u := by
  cases r with
  | cons r1 r2 => cases r2; exact ⟨_, rfl, r1⟩
theorem vals2 {x y : V} {us : List Value} (r : Vals [x, y] us) : ∃ u w', us = [u, w'] ∧ RelV x u ∧ RelV y w' := by
  cases r with
  | cons r1 r2 =>
    cases r2 with
    | cons r3 r4 => cases r4; exact ⟨_, _, rfl, r1, r3⟩
theorem call_abs : CallR X (.builtin "abs") (fun xs H Q => ∃ i, xs = [.int i] ∧ Q (.int (if i < 0 then -i else i)) H) := by
  intro pins s σ H xs us Q I r h
  obtain ⟨i, rfl, q⟩ := h
  obtain ⟨u, rfl, t, rfl⟩ := vals1 r
  exact call_abs_int fun u tk => ⟨.int (if i < 0 then -i else i), H, I.tok _, ⟨_, rfl⟩, q⟩
theorem call_max2 (hc : X.calm = true) : CallR X (.builtin "max") (fun xs H Q => ∃ i j, xs = [.int i, .int j] ∧ Q (.int (if j > i then j else i)) H) := by
  intro pins s σ H xs us Q I r h
  obtain ⟨i, j, rfl, q⟩ := h
  obtain ⟨u, w', rfl, ⟨t, rfl⟩, ⟨t', rfl⟩⟩ := vals2 r
  refine max_two_ints (I.ok.hd hc) fun h' tk k => ⟨_, H, I.kept k, ?_, q⟩
  by_cases hj : j > i
  · rw [if_pos hj, if_pos hj]; exact ⟨_, rfl⟩
  · rw [if_neg hj, if_neg hj]; exact ⟨_, rfl⟩
theorem call_min2 (hc : X.calm = true) : CallR X (.builtin "min") (fun xs H Q => ∃ i j, xs = [.int i, .int j] ∧ Q (.int (if j < i then j else i)) H) := by
  intro pins s σ H xs us Q I r h
  obtain ⟨i, j, rfl, q⟩ := h
  obtain ⟨u, w', rfl, ⟨t, rfl⟩, ⟨t', rfl⟩⟩ := vals2 r
  refine min_two_ints (I.ok.hd hc) fun h' tk k => ⟨_, H, I.kept k, ?_, q⟩
  by_cases hj : j < i
  · rw [if_pos hj, if_pos hj]; exact ⟨_, rfl⟩
  · rw [if_neg hj, if_neg hj]; exact ⟨_, rfl⟩
theorem call_int1 : CallR X (.type "int") (fun xs H Q => (∃ i, xs = [.int i] ∧ Q (.int i) H) ∨ ∃ k, xs = [.bl k] ∧ Q (.int (if k then 1 else 0)) H) := by
  intro pins s σ H xs us Q I r h
  rcases h with ⟨i, rfl, q⟩ | ⟨k, rfl, q⟩
  · obtain ⟨u, rfl, t, rfl⟩ := vals1 r
    exact call_int_int ⟨.int i, H, I, ⟨_, rfl⟩, q⟩
  · obtain ⟨u, rfl, r1⟩ := vals1 r
    cases r1
    exact call_int_bool ⟨.int (if k then 1 else 0), H, I.tok _, ⟨_, rfl⟩, q⟩
theorem call_str_int : CallR X (.type "str") (fun xs H Q => ∃ i, xs = [.int i] ∧ i.natAbs.log2 < 1920 ∧ Q (.str (toString i)) H) := by
  intro pins s σ H xs us Q I r h
  obtain ⟨i, rfl, hz, q⟩ := h
  obtain ⟨u, rfl, t, rfl⟩ := vals1 r
  exact PySem.P.str_of_int hz ⟨.str _, H, I.tok _, ⟨_, rfl⟩, q⟩
noncomputable def LenV (K : PySem.W.Frag) (x : V) (H : Hp) (n : Nat) : Prop :=
  match x with
  | .str y => y.length ≤ sizeLine ∧ n = y.length
  | .byt y => y.size ≤ sizeLine ∧ n = y.size
  | .ref p => (∃ xs, SqL K H p xs ∧ n = xs.length) ∨ ∃ xs, SqT K H p xs ∧ n = xs.length
  | _ => False
end
end L2
namespace L2
open PySem PySem.Spec PyProof.Rows
structure ObjM (h : Heap) (x dx C : Addr) (mA : Str → Option Value) : Prop where
  obj : h.get? x = some (PySem.W.instObj C dx)
  ns : h.Ns1 dx mA
  ne : dx ≠ x
section
variable {prog : Program} {w : World} {A : Around} {E : Value → Shared → Prop} {s : Shared} {K : PySem.W.Frag} {x dx C f : Addr} {mA : Str → Option Value} {name : Str} {v : Value}
end
noncomputable def putF (f : Str) (v : V) : List (Str × V) → List (Str × V)
  | [] => [(f, v)]
  | (g, x) :: r => if g = f then (g, v) :: r else (g, x) :: putF f v r
section
variable {P : Program} {w : World} {H H' : Hp} {h h' : Heap} {a C dx : Addr} {fs fs' : List (Str × V)}
end
structure Cls (K : PySem.W.Frag) (C : Addr) : Prop where
  pg : PySem.W.plainGet K C Str.empty = true
  hd : PySem.W.hasDictIn K C = true
  po : PySem.W.plainOver K C = true
  sa : PySem.W.findIn K (.ref C) "__setattr__" = some (some (.builtin "object.__setattr__"))
theorem Cls.get {K : PySem.W.Frag} {C : Addr} (c : Cls K C) (f : Str) : PySem.W.plainGet K C f = true := c.pg
noncomputable def NoAttr (K : PySem.W.Frag) (C : Addr) (f : Str) : Prop := PySem.W.findIn K (.ref C) f = some none
structure Con (K : PySem.W.Frag) (C : Addr) (f : Str) (v : V) (u : Value) : Prop where
  at_ : PySem.W.findIn K (.ref C) f = some (some u)
  rel : RelV v u
  get : PySem.W.specialIn K u "__get__" = some none
  cp : PySem.W.copiedNames.contains f = false
structure Meth (K : PySem.W.Frag) (C : Addr) (m : Str) (f : Addr) : Prop where
  at_ : PySem.W.findIn K (.ref C) m = some (some (.ref f))
  fn : PySem.W.isFn K (.ref f) = true
  kp : PySem.W.keepIn K (.ref f) = true
section
variable {X : Cx} {pins : List (Addr × Obj)} {σ : St} {H : Hp} {s : Shared} {a C dx : Addr} {fs : List (Str × V)} {f : Str} {v : V} {A : Around} {E : Value → Shared → Prop}
theorem Inv.made (I : Inv X pins σ H s) : Inv X pins σ (upd (upd H s.heap.objs.size (.own (s.heap.objs.size + 1))) (s.heap.objs.size + 1) (.ins C s.heap.objs.size []))
    { s with heap := (s.heap.push PySem.W.emptyDict).push (PySem.W.instObj C s.heap.objs.size) } := by
  have e1 : (s.heap.push PySem.W.emptyDict).get? s.heap.objs.size = some PySem.W.emptyDict := Heap.get?_push_size s.heap rfl
  have e2 : ((s.heap.push PySem.W.emptyDict).push (PySem.W.instObj C s.heap.objs.size)).get? (s.heap.objs.size + 1) = some (PySem.W.instObj C s.heap.objs.size) := by
    have := Heap.get?_push_size (s.heap.push PySem.W.emptyDict) (o := PySem.W.instObj C s.heap.objs.size) rfl
    rwa [Heap.size_push] at this
  have e3 : (s.heap.push PySem.W.emptyDict).Ns s.heap.objs.size (fun _ => none) := ⟨PySem.W.emptyDict, #[], _, e1, rfl, (fun e he => absurd he (by simp)), fun _ => rfl⟩
  have I1 := I.laid (a := s.heap.objs.size) (o := .own (s.heap.objs.size + 1)) (h' := s.heap.push PySem.W.emptyDict) (t' := s.toks) (fun b u q => Heap.get?_push_of_some _ q) (Nat.le_refl _) ⟨_, e1⟩
  refine I1.laid (a := s.heap.objs.size + 1) (o := .ins C s.heap.objs.size []) (t' := s.toks) (fun b u q => Heap.get?_push_of_some _ q) (Nat.le_of_eq (Heap.size_push _ _)) ?_
  have ne : s.heap.objs.size ≠ s.heap.objs.size + 1 := Nat.ne_of_lt (Nat.lt_succ_self _)
  refine ⟨by rw [upd_ne ne, upd_same], Nat.zero_le _, ne, e2, fun _ => none, (Heap.Ns1.of_empty e3).at fun o q => Heap.get?_push_of_some _ q, fun _ => True.intro, fun y hy => absurd rfl hy⟩
end
noncomputable def tFld (K : PySem.W.Frag) (ta : TE) (f : Str) : TE := fun σ H Q => ta σ H fun x H1 => ∃ a C dx fs v, x = .ref a ∧ H1 a = some (.ins C dx fs) ∧ Cls K C ∧ NoAttr K C f ∧ fs.lookup f = some v ∧ Q v H1
noncomputable def tCon (K : PySem.W.Frag) (ta : TE) (f : Str) : TE := fun σ H Q => ta σ H fun x H1 => ∃ a C dx fs v u, x = .ref a ∧ H1 a = some (.ins C dx fs) ∧ Cls K C ∧ Con K C f v u ∧ fs.lookup f = none ∧ Q v H1
noncomputable def sFld (K : PySem.W.Frag) (ta tv : TE) (f : Str) : TS := fun D σ H => tv σ H fun y H1 => ta σ H1 fun x H2 => ∃ a C dx fs, x = .ref a ∧ H2 a = some (.ins C dx fs) ∧ Cls K C ∧ NoAttr K C f ∧ fs.length < 1000 ∧
  D.nx σ (upd H2 a (.ins C dx (putF f y fs)))
noncomputable def InOp (X : Cx) (op : Operator) (rd : V → V → Hp → VK → Prop) : Prop :=
  ∀ (pins : List (Addr × Obj)) (s : Shared) (σ : St) (H : Hp) (x y : V) (u v : Value) (Q : VK), Inv X pins σ H s → RelV x u → RelV y v → rd x y H Q → wpAny (model X.prog X.w) X.A (inplaceOp op u v) (EP X pins σ Q) X.xe s
noncomputable def sFldAug (K : PySem.W.Frag) (ta tv : TE) (rd : V → V → Hp → VK → Prop) (f : Str) : TS := fun D σ H => ta σ H fun x H1 => ∃ a C dx fs v, x = .ref a ∧ H1 a = some (.ins C dx fs) ∧ Cls K C ∧ NoAttr K C f ∧ fs.lookup f = some v ∧
  tv σ H1 fun y H2 => rd v y H2 fun z H3 => ∃ dx' fs', H3 a = some (.ins C dx' fs') ∧ fs'.length < 1000 ∧ D.nx σ (upd H3 a (.ins C dx' (putF f z fs')))
section
variable {X : Cx} {o e value : Expr} {f : Str} {pos pos' tpos : Pos} {ta tv : TE}
noncomputable def rAdd : V → V → Hp → VK → Prop := fun x y H Q => ∃ i j, x = .int i ∧ y = .int j ∧ Q (.int (i + j)) H
noncomputable def rSub : V → V → Hp → VK → Prop := fun x y H Q => ∃ i j, x = .int i ∧ y = .int j ∧ Q (.int (i - j)) H
end
section
variable {X : Cx} {pins : List (Addr × Obj)} {σ : St} {H : Hp} {s : Shared} {A : Around} {E : Value → Shared → Prop} {Q : Value → Shared → Prop} {c : Value} {b : Bool}
inductive TyOf (K : PySem.W.Frag) (H : Hp) : V → Value → Prop where
  | non : TyOf K H .non (.type "NoneType")
  | bl (x : Bool) : TyOf K H (.bl x) (.type "bool")
  | int (i : Int) : TyOf K H (.int i) (.type "int")
  | str (x : Str) : TyOf K H (.str x) (.type "str")
  | flt (x : UInt64) : TyOf K H (.flt x) (.type "float")
  | lst {a : Addr} {xs : List V} (e : H a = some (.lst xs)) : TyOf K H (.ref a) (.type "list")
  | frz {a : Addr} {o : Obj} {xs : List V} (e : H a = some (.frz o (.lst xs))) : TyOf K H (.ref a) (.type "list")
  | tup {a : Addr} {xs : List V} (e : H a = some (.tup xs)) : TyOf K H (.ref a) (.type "tuple")
  | dK {a : Addr} {kvs : List (Key × V)} (e : H a = some (.dK kvs)) : TyOf K H (.ref a) (.type "dict")
  | dT {a : Addr} {kvs : List (List Key × V)} (e : H a = some (.dT kvs)) : TyOf K H (.ref a) (.type "dict")
  | ins {a C dx : Addr} {fs : List (Str × V)} (e : H a = some (.ins C dx fs)) (cl : Cls K C) (ha : PySem.W.findIn K (.ref C) "__class__" = some (some (.builtin "object.__class__")))
      (hn : PySem.W.specialIn K (.builtin "object.__class__") "__get__" = some (some (.builtin "getset_descriptor.__get__"))) (htk : PySem.W.takesIn K (.builtin "object.__class__") = some true)
      (hm : PySem.W.mroIn K C (.type "object") = some true) : TyOf K H (.ref a) (.ref C)
end
end L2
namespace L2
open PySem PySem.Spec PyProof.Rows
structure Room (k : Nat) (A : Around) : Prop where
  hd : A.handled = none
  dp : A.depth + 3 * k + 5 < recursionLimit
  un : A.units + 16 * k + 200 < cLine
theorem Room.mono {j k : Nat} {A : Around} (r : Room k A) (h : j ≤ k) : Room j A := ⟨r.hd, by have := r.dp; omega, by have := r.un; omega⟩
theorem Room.deeper {k : Nat} {A : Around} (r : Room (k + 1) A) (env : Env) : Room k (A.deeper env) :=
  ⟨r.hd, by have := r.dp; show A.depth + 1 + 3 * k + 5 < _; omega, by have := r.un; show A.units + 3 + 16 * k + 200 < _; omega⟩
theorem Room.in1 {k : Nat} {A : Around} (r : Room (k + 1) A) : Room k A.in1 :=
  ⟨r.hd, by have := r.dp; show A.depth + 3 * k + 5 < _; omega, by have := r.un; show A.units + 1 + 16 * k + 200 < _; omega⟩
theorem Room.depth {k : Nat} {A : Around} (r : Room k A) : A.depth < recursionLimit := by have := r.dp; omega
theorem Room.units {k : Nat} {A : Around} (r : Room k A) : A.units + 64 < cLine := by have := r.un; omega
noncomputable def tNil : TA := fun _ H Q => Q [] H
noncomputable def tCons (ta : TE) (tr : TA) : TA := fun σ H Q => ta σ H fun x H1 => tr σ H1 fun xs H2 => Q (x :: xs) H2
section
variable {X : Cx} {e : Expr} {es : List Expr} {te : TE} {t : TA} {pos : Pos}
theorem pa_nil : PA X [] tNil := fun _ _ _ _ H Q I h => Calls.spliced_nil ⟨[], H, I, .nil, h⟩
theorem pa_cons (ha : PE X e te) (hr : PA X es t) (hs : starEach (e :: es) X.env = (false, eval e X.env) :: starEach es X.env := by rfl) : PA X (e :: es) (tCons te t) := by
  intro pos pins s σ H Q I h
  rw [hs]
  show wpAny _ _ (spliced ((false, eval e X.env) :: backTo pos (starEach es X.env))) _ _ s
  refine Calls.spliced_cons (thn (ha pins s σ H _ I h) fun u s1 zz55_0 => ?_)
  obtain ⟨x, H1, I1, r1, q1⟩ := zz55_0
  exact thn (hr pos pins s1 σ H1 _ I1 q1) fun us s2 zz56_0 => by obtain ⟨xs, H2, I2, r2, q2⟩ := zz56_0; exact (⟨x :: xs, H2, I2, .cons r1 r2, q2⟩)
noncomputable def tTup (t : TA) : TE := fun σ H Q => t σ H fun xs H1 => xs.length ≤ sizeLine ∧ ∀ p, H1 p = none → Q (.ref p) (upd H1 p (.tup xs))
noncomputable def tLst (t : TA) : TE := fun σ H Q => t σ H fun xs H1 => xs.length ≤ sizeLine ∧ ∀ p, H1 p = none → Q (.ref p) (upd H1 p (.lst xs))
theorem pe_tup {x1} (h : PA X es t) : PE X (.Tuple es x1 pos) (tTup t) := by
  intro pins s σ H Q I hq
  refine wpAny_Tuple_spliced (thn (h pos pins s σ H _ I hq) fun us s1 ⟨xs, H1, I1, r, z, q⟩ => ⟨by rw [← r.length]; exact z, ?_⟩)
  have hf : H1 s1.heap.objs.size = none := I1.hok.fresh (Nat.le_refl _)
  refine ⟨.ref s1.heap.objs.size, upd H1 s1.heap.objs.size (.tup xs), I1.laid (t' := s1.toks) (fun b u e => Heap.get?_push_of_some _ e) (Nat.le_refl _) ?_, rfl, q _ hf⟩
  exact ⟨z, us, r, ⟨_, Heap.get?_push_size _ rfl, rfl, _, rfl⟩⟩
theorem pe_lst (h : PA X es t) : PE X (.List es pos) (tLst t) := by
  intro pins s σ H Q I hq
  refine wpAny_List_spliced (thn (h pos pins s σ H _ I hq) fun us s1 ⟨xs, H1, I1, r, z, q⟩ => ⟨by rw [← r.length]; exact z, ?_⟩)
  have hf : H1 s1.heap.objs.size = none := I1.hok.fresh (Nat.le_refl _)
  refine ⟨.ref s1.heap.objs.size, upd H1 s1.heap.objs.size (.lst xs), I1.laid (t' := s1.toks) (fun b u e => Heap.get?_push_of_some _ e) (Nat.le_refl _) ?_, rfl, q _ hf⟩
  exact ⟨z, us, 0, r, Heap.get?_push_size _ rfl⟩
end
noncomputable abbrev Sp := List V → Hp → VK → XK → Prop
noncomputable abbrev CXT := List Env → Hp → Shared → XK → Value → Shared → Prop
structure Env0 (P : Program) (w : World) (K : PySem.W.Frag) (mg : Str → Option Value) (base : Heap) (A : Around) (outer : List Env) (s : Shared) (H : Hp) : Prop where
  frames : A.frames = some outer
  mod : Mod K mg base
  bs : ∀ b o, base.get? b = some o → s.heap.get? b = some o ∧ H b = none
  bsz : base.objs.size ≤ s.heap.objs.size
  funs : s.heap.FunFrames base outer
  frf : ∀ b ∈ frs outer, H b = none
  hok : HOk P w H s.heap
  bare : AllBare s.gens
noncomputable def CE (outer : List Env) (P : Program) (w : World) (H : Hp) (s : Shared) (Q : VK) (u : Value) (s' : Shared) : Prop :=
  ∃ v H', s'.os = s.os ∧ AllBare s'.gens ∧ Un (frs outer) [] H H' s.heap s'.heap ∧ HOk P w H' s'.heap ∧ RelV v u ∧ Q v H'
noncomputable def CR (CX : CXT) (outer : List Env) (P : Program) (w : World) (H : Hp) (s : Shared) (Q : VK) (E : XK) (r : Result) (s' : Shared) : Prop :=
  match r with
  | .ok (.ret u) => CE outer P w H s Q u s'
  | .ok _ => False
  | .error e => CX outer H s E e s'
structure FnOk (P : Program) (w : World) (K : PySem.W.Frag) (mg : Str → Option Value) (base : Heap) (CX : CXT) (k : Nat) (f : Addr) (fd : FuncData) (ps : List Str) (sp : Sp) : Prop where
  len : ∀ vs H Q E, sp vs H Q E → vs.length = ps.length
  run : ∀ (A : Around) (outer : List Env) (s : Shared) (H : Hp) (args : Args) (us : List Value) (vs : List V) (Q : VK) (E : XK), Room k A → Env0 P w K mg base A outer s H → BindsTo s fd args (ps.zip us) → Vals vs us → sp vs H Q E →
    codeAny (model P w) A (.call (.ref f) args) (CR CX outer P w H s Q E) s
theorem FnOk.mono {P : Program} {w : World} {K : PySem.W.Frag} {mg : Str → Option Value} {base : Heap} {CX : CXT} {j k : Nat} {f : Addr} {fd : FuncData} {ps : List Str} {sp : Sp} (F : FnOk P w K mg base CX j f fd ps sp) (h : j ≤ k) :
    FnOk P w K mg base CX k f fd ps sp := ⟨F.len, fun A outer s H args us vs Q E hr => F.run A outer s H args us vs Q E (hr.mono h)⟩
theorem Env0.in1 {P : Program} {w : World} {K : PySem.W.Frag} {mg : Str → Option Value} {base : Heap} {A : Around} {outer : List Env} {s : Shared} {H : Hp} (e : Env0 P w K mg base A outer s H) :
    Env0 P w K mg base A.in1 outer s H := ⟨e.frames, e.mod, e.bs, e.bsz, e.funs, e.frf, e.hok, e.bare⟩
section
variable {X : Cx} {pins : List (Addr × Obj)} {σ : St} {H : Hp} {s s' : Shared}
theorem Inv.env0 (I : Inv X pins σ H s) : Env0 X.prog X.w X.K X.mg X.base X.A X.stack s H :=
  ⟨I.ok.frames, I.ok.mod, I.bs, Nat.le_trans I.ok.bsz I.sz, I.stack, I.stkFree, I.hok, I.bare⟩
theorem Inv.after {Q : VK} {u : Value} (I : Inv X pins σ H s) (h : CE X.stack X.prog X.w H s Q u s') : EP X pins σ Q u s' := by
  obtain ⟨v, H', os, bare, un, hok, r, q⟩ := h
  obtain ⟨hh, g, d, t, os'⟩ := s'
  obtain rfl : os' = s.os := os
  exact ⟨v, H', I.call (h' := hh) (g' := g) (d' := d) (t' := t) (ch := []) un hok bare (fun b z => absurd z (by simp)), r, q⟩
end
noncomputable def tCall (sp : Sp) (dvs : List V) (E : XK) (t : TA) : TE := fun σ H Q => t σ H fun vs H1 => sp (vs ++ dvs) H1 Q E
noncomputable def tMeth (C : Addr) (m : Str) (sp : Sp) (dvs : List V) (E : XK) (ta : TE) (t : TA) : TE := fun σ H Q => ta σ H fun x H1 => ∃ a dx fs, x = .ref a ∧ H1 a = some (.ins C dx fs) ∧ fs.lookup m = none ∧
  t σ H1 fun vs H2 => sp (x :: (vs ++ dvs)) H2 Q E
noncomputable def tMake (C : Addr) (sp : Sp) (dvs : List V) (E : XK) (t : TA) : TE := fun σ H Q => t σ H fun vs H1 => ∀ x dx, H1 x = none → H1 dx = none → dx ≠ x →
  sp (.ref x :: (vs ++ dvs)) (upd (upd H1 dx (.own x)) x (.ins C dx [])) (fun v H2 => v = .non ∧ Q (.ref x) H2) E
noncomputable def Binds (K : PySem.W.Frag) (fd : FuncData) (ps : List Str) (ds : List Value) : Prop :=
  ∀ (s : Shared) (us : List Value), K.In s.heap → (us ++ ds).length = ps.length → BindsTo s fd ⟨us, []⟩ (ps.zip (us ++ ds))
theorem Binds.all {K : PySem.W.Frag} {fd : FuncData} {ps : List Str} (h : ∀ us : List Value, us.length = ps.length → bindArgs fd ⟨us, []⟩ = pure (ps.zip us)) : Binds K fd ps [] := fun s us _ hl => by
  rw [List.append_nil] at hl ⊢
  exact .of_eq (h us hl)
noncomputable def Passes (CX : CXT) (X : Cx) (E : XK) : Prop := ∀ (pins : List (Addr × Obj)) (σ : St) (H : Hp) (s : Shared) (e : Value) (s' : Shared), Inv X pins σ H s → CX X.stack H s E e s' → X.xe e s'
section
variable {X : Cx} {CX : CXT} {k : Nat} {f C : Addr} {fd : FuncData} {ps : List Str} {sp : Sp} {dvs : List V} {ds : List Value} {E : XK} {x m : Str} {p pos apos : Pos} {e o : Expr} {es : List Expr} {ta : TE} {t : TA}
theorem run_fn {pins : List (Addr × Obj)} {σ : St} {H : Hp} {s : Shared} {Q : VK} {us : List Value} {vs : List V} (F : FnOk X.prog X.w X.K X.mg X.base CX k f fd ps sp) (hr : Room k X.A) (hb : Binds X.K fd ps ds) (hd : Vals dvs ds) (hx : Passes CX X E)
    (I : Inv X pins σ H s) (r : Vals vs us) (h : sp (vs ++ dvs) H Q E) : wpAny (model X.prog X.w) X.A (call (.ref f) us) (EP X pins σ Q) X.xe s := by
  have r2 : Vals (vs ++ dvs) (us ++ ds) := r.append hd
  have hl : (us ++ ds).length = ps.length := by rw [← r2.length]; exact F.len _ _ _ _ h
  refine wpAny_call (codeAny_mono (F.run X.A X.stack s H ⟨us, []⟩ (us ++ ds) (vs ++ dvs) Q E hr I.env0 (hb s us I.kIn hl) r2 h) fun r s' hq => ?_)
  cases r with
  | error e => exact hx pins σ H s e s' I hq
  | ok fl =>
    cases fl with
    | ret u => exact I.after hq
    | next => exact False.elim hq
    | brk => exact False.elim hq
    | cont => exact False.elim hq
theorem pe_call (F : FnOk X.prog X.w X.K X.mg X.base CX k f fd ps sp) (hr : Room k X.A) (hg : Gl X x) (hm : X.mg x = some (.ref f)) (hk : PySem.W.keepIn X.K (.ref f) = true) (hb : Binds X.K fd ps ds) (hd : Vals dvs ds) (hx : Passes CX X E)
    (ha : PA X (e :: es) t) (hdb : (x == ("__debug__" : Str)) = false := by decide) (he : starEach (e :: es) X.env = (false, eval e X.env) :: starEach es X.env := by rfl) (hpl : (backTo pos (starEach es X.env)).any (·.1) = false := by rfl) :
    PE X (.Call (.Name x p) (e :: es) [] pos) (tCall sp dvs E t) := by
  intro pins s σ H Q I h
  refine wpAny_Call_Name_kw (ld_glob I hg hm ?_ hdb)
  refine PySem.W.callWith_K (h₀ := X.base) I.ok.mod.kin hk (thn (ha pos pins s σ H _ I h) fun us s1 ⟨vs, H1, I1, r, q⟩ => ⟨I1.kIn, ?_⟩) he hpl
  exact run_fn F hr hb hd hx I1 r q
structure Mk (K : PySem.W.Frag) (C f : Addr) : Prop where
  makes : PySem.W.makesIn K C = true
  init : PySem.W.findIn K (.ref C) "__init__" = some (some (.ref f))
  fn : PySem.W.isFn K (.ref f) = true
  kp : PySem.W.keepIn K (.ref C) = true
end
noncomputable def PK (X : Cx) (kws : List Keyword) (t : TA) : Prop :=
  ∀ (pos : Pos) (pins : List (Addr × Obj)) (s : Shared) (σ : St) (H : Hp) (Q : List V → Hp → Prop), Inv X pins σ H s → t σ H Q → wpAny (model X.prog X.w) X.A (evalAll ((backToKw pos (keywordEach kws X.env)).map (·.2))) (AP X pins σ Q) X.xe s
section
variable {X : Cx} {CX : CXT} {k : Nat} {f C : Addr} {fd : FuncData} {ps ks : List Str} {sp : Sp} {E : XK} {x m : Str} {p pos apos kpos : Pos} {e o : Expr} {es : List Expr} {kws : List Keyword} {te ta : TE} {t tk : TA} {nm : Option Str}
structure KBinds (K : PySem.W.Frag) (fd : FuncData) (ps ks : List Str) (g : List Value → List Value → List Value) (gV : List V → List V → List V) : Prop where
  to : ∀ (s : Shared) (us ws : List Value), K.In s.heap → (g us ws).length = ps.length → BindsTo s fd ⟨us, ks.zip ws⟩ (ps.zip (g us ws))
  rel : ∀ {vs : List V} {us : List Value} {zs : List V} {ws : List Value}, Vals vs us → Vals zs ws → Vals (gV vs zs) (g us ws)
noncomputable def tCallK (sp : Sp) (gV : List V → List V → List V) (E : XK) (t tk : TA) : TE := fun σ H Q => t σ H fun vs H1 => tk σ H1 fun zs H2 => sp (gV vs zs) H2 Q E
variable {g : List Value → List Value → List Value} {gV : List V → List V → List V}
end
structure FnScope (N P : List Str) (sc : Scope) : Prop where
  kind : sc.kind = .function
  co : sc.isCoroutine = false
  gen : sc.isGenerator = false
  nd : N.Nodup
  pre : N.take P.length = P
  par : ∀ x ∈ P, sc.names.lookup x = some .local ∨ sc.names.lookup x = some .cell
  nofree : ∀ y ∈ sc.names, y.2 ≠ .free
theorem bindL_out {kindOf : Str → Option NameKind} {x : Str} : ∀ {binds : List (Str × Value)} {m : Str → Option Value}, (∀ v, (x, v) ∉ binds) → bindL kindOf binds m x = m x
  | [], _, _ => rfl
  | (n, v) :: r, m, h => by
    unfold bindL
    rw [bindL_out fun w hw => h w (List.mem_cons_of_mem _ hw)]
    split
    · have : x ≠ n := by rintro rfl; exact h v List.mem_cons_self
      simp [this]
    · rfl
theorem bindC_out {kindOf : Str → Option NameKind} {x : Str} : ∀ {binds : List (Str × Value)} {m : Str → Option Value}, (∀ v, (x, v) ∉ binds) → bindC kindOf binds m x = m x
  | [], _, _ => rfl
  | (n, v) :: r, m, h => by
    unfold bindC
    rw [bindC_out fun w hw => h w (List.mem_cons_of_mem _ hw)]
    split
    · rfl
    · have : x ≠ n := by rintro rfl; exact h v List.mem_cons_self
      simp [this]
theorem bindL_get {kindOf : Str → Option NameKind} {x : Str} {v : Value} : ∀ {P : List Str} {vs : List Value} {i : Nat} {m : Str → Option Value}, P.Nodup → P[i]? = some x → vs[i]? = some v → kindOf x = some .local →
    bindL kindOf (P.zip vs) m x = some v
  | [], _, _, _, _, h, _, _ => by simp at h
  | _ :: _, [], _, _, _, _, h, _ => by simp at h
  | p :: P, w :: vs, 0, m, nd, h1, h2, hk => by
    simp at h1 h2; subst h1; subst h2
    show bindL kindOf ((p, w) :: P.zip vs) m p = _
    unfold bindL
    rw [bindL_out fun v hv => (List.nodup_cons.mp nd).1 (List.of_mem_zip hv).1, if_pos hk]
    simp
  | p :: P, w :: vs, i + 1, m, nd, h1, h2, hk => by
    show bindL kindOf ((p, w) :: P.zip vs) m x = _
    unfold bindL
    exact bindL_get (i := i) (List.nodup_cons.mp nd).2 (by simpa using h1) (by simpa using h2) hk
theorem bindC_get {kindOf : Str → Option NameKind} {x : Str} {v : Value} : ∀ {P : List Str} {vs : List Value} {i : Nat} {m : Str → Option Value}, P.Nodup → P[i]? = some x → vs[i]? = some v → kindOf x ≠ some .local →
    bindC kindOf (P.zip vs) m x = some v
  | [], _, _, _, _, h, _, _ => by simp at h
  | _ :: _, [], _, _, _, _, h, _ => by simp at h
  | p :: P, w :: vs, 0, m, nd, h1, h2, hk => by
    simp at h1 h2; subst h1; subst h2
    show bindC kindOf ((p, w) :: P.zip vs) m p = _
    unfold bindC
    rw [bindC_out fun v hv => (List.nodup_cons.mp nd).1 (List.of_mem_zip hv).1, if_neg hk]
    simp
  | p :: P, w :: vs, i + 1, m, nd, h1, h2, hk => by
    show bindC kindOf ((p, w) :: P.zip vs) m x = _
    unfold bindC
    exact bindC_get (i := i) (List.nodup_cons.mp nd).2 (by simpa using h1) (by simpa using h2) hk
noncomputable def start (N : List Str) (vs : List V) : St := vs.map some ++ List.replicate (N.length - vs.length) none
noncomputable def cxOf (CX : CXT) (P : Program) (w : World) (K : PySem.W.Frag) (mg : Str → Option Value) (base : Heap) (N : List Str) (qual : Str) (scope : Scope) (f : Addr) (cd : Value) (A : Around) (outer : List Env) (s : Shared) (H : Hp) (E : XK) : Cx where
  prog := P
  w := w
  K := K
  mg := mg
  base := base
  A := A.deeper (envOfC qual scope s.heap.objs.size f cd)
  N := N
  s₀ := s
  H₀ := H
  env := envOfC qual scope s.heap.objs.size f cd
  outer := outer
  stack := envOfC qual scope s.heap.objs.size f cd :: outer
  ex := []
  calm := true
  fn := fun _ => true
  pn := []
  xe := fun e s' => wpAny (model P w) (A.deeper (envOfC qual scope s.heap.objs.size f cd)) (leaving (envOfC qual scope s.heap.objs.size f cd) e) (fun _ s'' => CX outer H s E e s'') (fun e' s'' => CX outer H s E e' s'') s'
theorem cell_has {sc : Scope} {n : Nat} {x : Str} (h : sc.names.lookup x = some .cell) : ∃ c, (cellsFrom n sc.names []).lookup x = some c := by
  have q := PySem.W.cellsFrom_some sc.names n [] (.inl h)
  exact Option.isSome_iff_exists.mp q
theorem inv_start {CX : CXT} {P : Program} {w : World} {K : PySem.W.Frag} {mg : Str → Option Value} {base : Heap} {N ps : List Str} {qual : Str} {scope : Scope} {f : Addr} {cd : Value} {A : Around} {outer : List Env} {s s1 : Shared} {H : Hp} {E : XK} {us : List Value} {vs : List V}
    (S : FnScope N ps scope) (hd : A.handled = none) (e0 : Env0 P w K mg base A outer s H) (hl : vs.length = ps.length) (r : Vals vs us)
    (x : InCallC s s.heap.objs.size (bindL (envOfC qual scope s.heap.objs.size f cd).kindOf (ps.zip us) fun _ => none) (cellsFrom (s.heap.objs.size + 1) scope.names []) (bindC (envOfC qual scope s.heap.objs.size f cd).kindOf (ps.zip us) fun _ => none) s1) :
    Inv (cxOf CX P w K mg base N qual scope f cd A outer s H E) [] (start N vs) H s1 := by
  have hpl : ps.length ≤ N.length := by have := congrArg List.length S.pre; rw [List.length_take] at this; omega
  obtain ⟨h1, tk, rfl, hk⟩ := x.done
  have noA : ∀ b : Addr, b ∉ (cxOf CX P w K mg base N qual scope f cd A outer s H E).ex := fun b z => absurd (show b ∈ ([] : List Addr) from z) (by simp)
  refine ⟨⟨e0.mod, S.kind, rfl, rfl, Nat.le_refl _, fun y z c h1 h2 => ?_, fun y hy => ?_, fun y c _ h => ?_, fun _ => hd, Around.frames_deeper e0.frames, .inr ⟨rfl, rfl⟩, fun b z => absurd z (noA b), e0.bs, e0.bsz, fun b _ _ => noA b, fun b z => absurd z (noA b), e0.funs, e0.frf⟩,
    rfl, e0.bare, Un.kept hk, ⟨_, x.toInCall.ns, fun i y v h1 h2 h3 => ?_⟩, fun y c h => ⟨_, x.cell y c h⟩, e0.hok.fresh (Nat.le_refl _), fun y c h => ?_, fun p hp => absurd (show p ∈ ([] : List (Addr × Obj)) from hp) (by simp), e0.hok.kept hk, ?_⟩
  · exact name_of_addr x.apart (PySem.mem_of_lookup h1) (PySem.mem_of_lookup h2)
  · have hy : scope.names.lookup y = some .cell ∨ scope.names.lookup y = some .free := hy
    rcases hy with hy | hy
    · exact cell_has hy
    · exact absurd rfl (S.nofree _ (PySem.mem_of_lookup hy))
  · exact Nat.le_of_lt (x.above y c (PySem.mem_of_lookup h))
  · have hi : i < vs.length := by
      unfold start at h2
      by_cases hi : i < vs.length
      · exact hi
      · rw [List.getElem?_append_right (by simpa using hi)] at h2
        rw [List.getElem?_replicate] at h2
        split at h2 <;> cases h2
    have ha : vs[i]? = some v := by
      unfold start at h2
      rw [List.getElem?_append_left (by simpa using hi), List.getElem?_map] at h2
      cases e : vs[i]? with
      | none => rw [e] at h2; cases h2
      | some a => rw [e] at h2; cases h2; rfl
    obtain ⟨u, hu, rv⟩ := r.get ha
    have hp : ps[i]? = some y := by
      rw [← S.pre, List.getElem?_take_of_lt (by omega)]; exact h1
    have ndP : ps.Nodup := by rw [← S.pre]; exact S.nd.sublist (List.take_sublist _ _)
    refine ⟨u, rv, ?_⟩
    rcases S.par y (List.mem_of_getElem? hp) with k | k
    · exact .inl ⟨k, bindL_get ndP hp hu k⟩
    · obtain ⟨c, e⟩ := cell_has (n := s.heap.objs.size + 1) k
      refine .inr ⟨.inl k, c, e, ?_⟩
      have q := x.cell y c e
      rw [bindC_get ndP hp hu (by show scope.names.lookup y ≠ _; rw [k]; decide)] at q
      exact q
  · exact e0.hok.fresh (Nat.le_of_lt (x.above y c (PySem.mem_of_lookup h)))
  · unfold start
    show _ = N.length
    rw [List.length_append, List.length_map, List.length_replicate]
    omega
theorem fn_of {CX : CXT} {P : Program} {w : World} {K : PySem.W.Frag} {mg : Str → Option Value} {base : Heap} {k : Nat} {f : Addr} {name qual : Str} {params : Arguments} {body : List Stmt} {scope : Scope} {dV kV doc pm cdv ct oc : Value} {an od : Option Addr}
    {osl : Array (Option Value)} {N ps : List Str} {sp : Sp} (lk : K.lookup f = some ⟨oc, od, .func (PySem.W.fnOf name qual params body scope dV kV doc pm an cdv ct), osl⟩) (hcd : PySem.W.codeIn K cdv qual = true) (S : FnScope N ps scope)
    (len : ∀ vs H Q E, sp vs H Q E → vs.length = ps.length)
    (hbody : ∀ (A : Around) (outer : List Env) (s : Shared) (H : Hp) (vs : List V) (Q : VK) (E : XK), Room k (A.deeper (envOfC qual scope s.heap.objs.size f cdv)) → sp vs H Q E →
      ∃ t, PSs (cxOf CX P w K mg base N qual scope f cdv A outer s H E) body t ∧ t { nx := fun _ H' => Q .non H', rt := Q } (start N vs) H) :
    FnOk P w K mg base CX (k + 1) f (PySem.W.fnOf name qual params body scope dV kV doc pm an cdv ct) ps sp := by
  refine ⟨len, fun A outer s H args us vs Q E hr e0 hb r hsp => ?_⟩
  have hl := len _ _ _ _ hsp
  have KX : K.In s.heap := e0.mod.kin.keeps fun b o e => (e0.bs b o e).1
  have lim : s.heap.NoLimit := e0.mod.nolimit.keeps fun b o e => (e0.bs b o e).1
  have hkind : ∀ y ∈ ps.zip us, scope.names.lookup y.1 = some .local ∨ (scope.names.lookup y.1 = some .cell ∧ ((cellsFrom (s.heap.objs.size + 1) scope.names []).lookup y.1).isSome = true) := fun zz62_0 hy => by
    obtain ⟨n, v⟩ := zz62_0
    rcases S.par n (List.of_mem_zip hy).1 with q | q
    · exact .inl q
    · exact .inr ⟨q, PySem.W.cellsFrom_some _ _ _ (.inl q)⟩
  refine codeAny_call_function hr.depth (KX _ _ lk) rfl S.co S.gen rfl (PySem.W.codeRec_of KX hcd) (hb _ _ _ _ ?_)
  refine wpAny_newFunctionEnv_cells S.kind hkind fun env he s1 x => ?_
  subst he
  refine ⟨lim.keeps x.toInCall.keep, codeAny_func ?_⟩
  obtain ⟨t, ht, hq⟩ := hbody A outer s H vs Q E (hr.deeper _) hsp
  have I : Inv (cxOf CX P w K mg base N qual scope f cdv A outer s H E) [] (start N vs) H s1 := inv_start S hr.hd e0 hl r x
  refine wpAny_mono (ht [] s1 (start N vs) H _ I hq) (fun fl s' hs => ?_) fun e s' hs => hs
  have fin : ∀ {σ' : St} {H' : Hp} {v : V} {u : Value}, Inv (cxOf CX P w K mg base N qual scope f cdv A outer s H E) [] σ' H' s' → RelV v u → Q v H' → CE outer P w H s Q u s' :=
    fun {σ' H' v u} J rv q => ⟨v, H', J.os, J.bare, J.base, J.hok, rv, q⟩
  cases fl with
  | ret u =>
    obtain ⟨v, σ', H', J, rv, q⟩ := hs
    exact fin J rv q
  | next =>
    obtain ⟨σ', H', J, q⟩ := hs
    exact fin (v := V.non) (u := Value.none) J rfl q
  | brk =>
    obtain ⟨_, _, _, q⟩ := hs
    exact False.elim q
  | cont =>
    obtain ⟨_, _, _, q⟩ := hs
    exact False.elim q
end L2
namespace L2
open PySem PySem.Spec PyProof.Rows
section
variable {X : Cx} {x : Str} {p pos : Pos} {e : Expr} {es : List Expr} {t : TA} {id T : String} {r : List V → Hp → VK → Prop}
noncomputable def tCB (r : List V → Hp → VK → Prop) (t : TA) : TE := fun σ H Q => t σ H fun vs H1 => r vs H1 Q
theorem pe_callB (hc : CallR X (.builtin id) r) (hg : Gl X x) (hm : X.mg x = none) (hv : bootBuiltins x = some (.builtin id)) (ha : PA X (e :: es) t) (hn : x ≠ "__name__" := by decide) (hdb : (x == ("__debug__" : Str)) = false := by decide)
    (he : starEach (e :: es) X.env = (false, eval e X.env) :: starEach es X.env := by rfl) (hpl : (backTo pos (starEach es X.env)).any (·.1) = false := by rfl) : PE X (.Call (.Name x p) (e :: es) [] pos) (tCB r t) := by
  intro pins s σ H Q I h
  refine wpAny_Call_Name_kw (ld_blt I hg hm hv ?_ hn hdb)
  exact PyProof.Rows.callWith_builtin1 (thn (ha pos pins s σ H _ I h) fun us s1 zz63_0 => by obtain ⟨vs, H1, I1, r1, q1⟩ := zz63_0; exact (hc pins s1 σ H1 vs us Q I1 r1 q1)) he hpl
theorem pe_callTy (hc : CallR X (.type T) r) (hg : Gl X x) (hm : X.mg x = none) (hv : bootBuiltins x = some (.type T)) (ha : PA X (e :: es) t) (hn : x ≠ "__name__" := by decide) (hdb : (x == ("__debug__" : Str)) = false := by decide)
    (he : starEach (e :: es) X.env = (false, eval e X.env) :: starEach es X.env := by rfl) (hpl : (backTo pos (starEach es X.env)).any (·.1) = false := by rfl) : PE X (.Call (.Name x p) (e :: es) [] pos) (tCB r t) := by
  intro pins s σ H Q I h
  refine wpAny_Call_Name_kw (ld_blt I hg hm hv ?_ hn hdb)
  exact PyProof.Rows.callWith_type1 (thn (ha pos pins s σ H _ I h) fun us s1 zz64_0 => by obtain ⟨vs, H1, I1, r1, q1⟩ := zz64_0; exact (hc pins s1 σ H1 vs us Q I1 r1 q1)) he hpl
end
end L2
namespace HT
open PySem PyProof.Rows
noncomputable def lexLt : List Int → List Int → Bool
  | [], [] => false
  | [], _ :: _ => true
  | _ :: _, [] => false
  | x :: xs, y :: ys => if x = y then lexLt xs ys else decide (x < y)
theorem lexLt_cons (x y : Int) (xs ys : List Int) : lexLt (x :: xs) (y :: ys) = if x = y then lexLt xs ys else decide (x < y) := rfl
theorem lexLt_nil_nil : lexLt [] [] = false := rfl
theorem lexLt_nil_cons (y : Int) (ys : List Int) : lexLt [] (y :: ys) = true := rfl
theorem lexLt_cons_nil (x : Int) (xs : List Int) : lexLt (x :: xs) [] = false := rfl
theorem eqAt_int (A : Around) (s : Shared) (a : Int) (t : Tok) (c : Int) (u : Tok) : ∃ e, SeqAt.EqAt A s (.int a t) (.int c u) e ∧ (e = true ↔ a = c) :=
  ⟨(a == c), SeqAt.EqAt.int_int a t c u, by simp⟩
theorem rcLt_int (A : Around) (s : Shared) (a : Int) (t : Tok) (c : Int) (u : Tok) (prog : Program) (w : World) (E : Value → Shared → Prop) (Q : Value → Shared → Prop) (h : Q (.bool (decide (a < c))) s) :
    wpAny (model prog w) A (richCompare .Lt (.int a t) (.int c u)) Q E s :=
  (PyProof.Rows.lt_int h : wpAny (model prog w) A (compareOp .Lt (.int a t) (.int c u)) Q E s)
section
open PySem.SeqAt
open PySem.AutoSeq1 (wpAny_loadPart')
open PySem.MeetsSeq PySem.MeetsSeq2 PySem.MeetsSeq3
theorem tuple_lt_ints (l b : Addr) (items items2 : Array Value) (n n2 : Nat) (dd dd2 : Option Addr) (sl sl2 : Array (Option Value)) (ns ms : List Int) (hi : IntsAre items.toList ns) (hj : IntsAre items2.toList ms) :
    Meets (Builtin.«tuple.__lt__» ⟨[.ref l, .ref b], []⟩)
      (fun _ R s => s.heap.get? l = some { cls := .type "tuple", dict := dd, data := .seq items n, slots := sl } ∧ s.heap.get? b = some { cls := .type "tuple", dict := dd2, data := .seq items2 n2, slots := sl2 } ∧
        R (.ok (.ret (.bool (lexLt ns ms)))) s) :=
  .of_wp fun prog w A R s h => by
    obtain ⟨hp, g, d, tk, os⟩ := s; obtain ⟨hl, hb, h⟩ := h
    have f2 := AutoSeq1.sub_tuple_tuple
    have z1 : items.size = ns.length := by rw [← hi.length]; simp
    have z2 : items2.size = ms.length := by rw [← hj.length]; simp
    wp_walk using wpAny_loadPart' hl, wpAny_loadPart' hb, wpAny_forIn_list _ (fun rest b s' => b.1 = none ∧ s' = ⟨hp, g, d, tk, os⟩ ∧ ∃ (vs ws : List Value) (ns' ms' : List Int), rest = vs.zip ws ∧
      IntsAre vs ns' ∧ IntsAre ws ms' ∧ ns'.length + items2.size = ms'.length + items.size ∧ R (.ok (.ret (.bool (lexLt ns' ms')))) ⟨hp, g, d, tk, os⟩) _
    case turn =>
      rintro ⟨y, x⟩ rest b s' ⟨hb', rfl, vs, ws, ns', ms', hz, hvi, hwi, hlen, hR⟩
      cases hvi with
      | nil => rw [List.zip_nil_left] at hz; cases hz
      | cons a t hvi' =>
        cases hwi with
        | nil => rw [List.zip_nil_right] at hz; cases hz
        | cons c u hwi' =>
          rw [List.zip_cons_cons] at hz
          injection hz with hyx hrest
          injection hyx with hy hx
          subst hy hx
          rw [lexLt_cons] at hR
          simp only [List.length_cons] at hlen
          obtain ⟨e, he, hiff⟩ := eqAt_int A.in1 ⟨hp, g, d, tk, os⟩ a t c u
          refine wpAny_bind (he prog w _ _ ?_)
          cases e with
          | true =>
            rw [if_pos (hiff.mp rfl)] at hR
            wp_walk
            exact ⟨rfl, rfl, _, _, _, _, hrest, hvi', hwi', by omega, hR⟩
          | false =>
            rw [if_neg (fun q => absurd (hiff.mpr q) Bool.false_ne_true)] at hR
            have hri := rcLt_int A.in1 ⟨hp, g, d, tk, os⟩ a t c u prog w
            wp_walk using hri
            exact ⟨_, rfl, by simpa using hR⟩
    case fin =>
      rintro ⟨b1, b2⟩ s' ⟨hb', rfl, vs, ws, ns', ms', hz, hvi, hwi, hlen, hR⟩
      simp only at hb'
      subst hb'
      have hv : lexLt ns' ms' = decide (items.size < items2.size) := by
        cases hvi with
        | nil =>
          cases hwi with
          | nil =>
            simp only [List.length_nil] at hlen
            rw [lexLt_nil_nil]
            exact (decide_eq_false (by omega)).symm
          | cons c u hw =>
            simp only [List.length_nil, List.length_cons] at hlen
            rw [lexLt_nil_cons]
            exact (decide_eq_true (by omega)).symm
        | cons a t hv =>
          cases hwi with
          | nil =>
            simp only [List.length_nil, List.length_cons] at hlen
            rw [lexLt_cons_nil]
            exact (decide_eq_false (by omega)).symm
          | cons c u hw =>
            rw [List.zip_cons_cons] at hz
            cases hz
      rw [hv] at hR
      wp_walk
      exact ⟨_, rfl, by simpa [Builtin.Tuple.tupleCompareSizes] using hR⟩
    case h =>
      exact ⟨rfl, rfl, items.toList, items2.toList, ns, ms, rfl, hi, hj, by omega, h⟩
end
section
variable {prog : Program} {w : World} {A : Around} {E : Value → Shared → Prop} {s : Shared}
theorem lt_tupInts {l b : Addr} {items items2 : Array Value} {ns ms : List Int} {Q : Value → Shared → Prop} (hl : IsTup s.heap l items) (hb : IsTup s.heap b items2) (hi : IntsAre items.toList ns) (hj : IntsAre items2.toList ms)
    (hu : A.units < cLine) (h : Q (.bool (lexLt ns ms)) s) : wpAny (model prog w) A (compareOp .Lt (.ref l) (.ref b)) Q E s := by
  obtain ⟨⟨cls, dd, data, sl⟩, ho, hc, n, hd⟩ := id hl
  obtain ⟨⟨cls2, dd2, data2, sl2⟩, ho2, hc2, n2, hd2⟩ := id hb
  simp only at hc hd hc2 hd2
  subst hc hd hc2 hd2
  exact richCompare_meets_room (op := .Lt) ⟨_, ho, rfl⟩ ⟨_, ho2, rfl⟩ PySem.F.slot_tuple_lt PySem.F.entry_tuple_lt (PySem.F.args_tuple_lt_2 _ _) (tuple_lt_ints l b items items2 n n2 dd dd2 sl sl2 ns ms hi hj)
    ⟨ho, ho2, show Value.bool (lexLt ns ms) ≠ Value.notImplemented ∧ Q (.bool (lexLt ns ms)) s from ⟨(fun x => nomatch x), h⟩⟩ hu
theorem cat_tup {t b : Addr} {vs ws : List Value} {Q : Value → Shared → Prop} (ht : IsTup s.heap t vs.toArray) (hb : IsTup s.heap b ws.toArray) (hv : vs ≠ [])
    (h1 : ws = [] → Q (.ref t) s) (h2 : ws ≠ [] → Q (.ref s.heap.objs.size) { s with heap := s.heap.push { cls := .type "tuple", data := .seq (vs ++ ws).toArray } })
    (hsz : vs.length + ws.length ≤ sizeLine) : wpAny (model prog w) A (binaryOp .Add (.ref t) (.ref b)) Q E s := by
  obtain ⟨⟨cls, dd, data, sl⟩, ho, hc, n, hd⟩ := id ht
  obtain ⟨⟨cls2, dd2, data2, sl2⟩, ho2, hc2, n2, hd2⟩ := id hb
  simp only at hc hd hc2 hd2
  subst hc hd hc2 hd2
  have e : vs.toArray ++ ws.toArray = (vs ++ ws).toArray := by simp
  by_cases hw : ws = []
  · exact concat_meets ⟨_, ho, rfl⟩ ⟨_, ho2, rfl⟩ noFill_tuple_add seq_tuple_add PySem.F.slot_tuple_add PySem.F.entry_tuple_add (PySem.F.args_tuple_add_2 _ _)
      (tuple_addW1 t b vs.toArray ws.toArray n n2 dd dd2 sl sl2 (by simpa using hv) (by simp [hw])) ⟨ho, ho2, h1 hw⟩
  · refine concat_meets ⟨_, ho, rfl⟩ ⟨_, ho2, rfl⟩ noFill_tuple_add seq_tuple_add PySem.F.slot_tuple_add PySem.F.entry_tuple_add (PySem.F.args_tuple_add_2 _ _)
      (tuple_addW2 t b vs.toArray ws.toArray n n2 dd dd2 sl sl2 (by simpa using hv) (by simpa using hw) (by rw [List.size_toArray, List.size_toArray]; exact hsz)) ⟨ho, ho2, ?_⟩
    rw [e]
    exact h2 hw
noncomputable def sIx (n d : Nat) : Option Int → Nat
  | none => d
  | some v => if v < 0 then (v + (n : Int)).toNat else min v.toNat n
end
end HT
namespace L2
open PySem PySem.Spec PyProof.Rows
noncomputable abbrev TO := St → Hp → (Option Int → Hp → Prop) → Prop
noncomputable def PO (X : Cx) (e : Option Expr) (t : TO) : Prop :=
  ∀ (pins : List (Addr × Obj)) (s : Shared) (σ : St) (H : Hp) (Q : Option Int → Hp → Prop), Inv X pins σ H s → t σ H Q →
    wpAny (model X.prog X.w) X.A (evalPart e X.env) (fun u s' => ∃ o H', Inv X pins σ H' s' ∧ IsPart u o ∧ Q o H') X.xe s
noncomputable def tNoPart : TO := fun _ H Q => Q none H
noncomputable def tPart (t : TE) : TO := fun σ H Q => t σ H fun x H1 => ∃ i, x = .int i ∧ Q (some i) H1
theorem intsAre_of {ns : List Int} : ∀ {us : List Value}, Vals (ns.map V.int) us → IntsAre us ns := by
  induction ns with
  | nil => intro us r; rw [List.map_nil] at r; cases r; exact .nil
  | cons n ns ih =>
    intro us r
    rw [List.map_cons] at r
    cases r with
    | cons r1 r2 =>
      obtain ⟨t, e⟩ := r1
      subst e
      exact .cons n t (ih r2)
section
variable {X : Cx} {e : Expr} {te : TE} {lo hi : Option Expr} {tl th : TO} {pos p2 : Pos}
theorem po_none : PO X none tNoPart := by
  intro pins s σ H Q I h
  rw [evalPart_none]
  exact wpAny_pure ⟨none, H, I, .none, h⟩
theorem po_some (h : PE X e te) : PO X (some e) (tPart te) := by
  intro pins s σ H Q I hw
  rw [evalPart_some]
  refine thn (h pins s σ H _ I hw) fun u s1 zz65_0 => ?_
  obtain ⟨x, H1, I1, r1, q1⟩ := zz65_0
  obtain ⟨i, rfl, q⟩ := q1
  obtain ⟨t, rfl⟩ := r1
  exact ⟨some i, H1, I1, .int i t, q⟩
noncomputable def SlR (X : Cx) (r : V → Option Int → Option Int → Hp → VK → Prop) : Prop :=
  ∀ (pins : List (Addr × Obj)) (s : Shared) (σ : St) (H : Hp) (x : V) (v vl vu : Value) (lo hi : Option Int) (sl : Addr) (Q : VK), Inv X pins σ H s → RelV x v → s.heap.IsSliceOf sl vl vu .none → IsPart vl lo → IsPart vu hi → r x lo hi H Q →
    ∃ T id, typeLookup (.type T) "__getitem__" = pure (some (.builtin id)) ∧ s.TypeIs v T ∧ wpAny (model X.prog X.w) X.A (getItem v (.ref sl)) (EP X pins σ Q) X.xe s
theorem SlR.or {r r' : V → Option Int → Option Int → Hp → VK → Prop} (h : SlR X r) (h' : SlR X r') : SlR X (fun x lo hi H Q => r x lo hi H Q ∨ r' x lo hi H Q) := by
  intro pins s σ H x v vl vu lo hi sl Q I rx hs pl pu q
  rcases q with q | q
  · exact h pins s σ H x v vl vu lo hi sl Q I rx hs pl pu q
  · exact h' pins s σ H x v vl vu lo hi sl Q I rx hs pl pu q
noncomputable def tSl (r : V → Option Int → Option Int → Hp → VK → Prop) (te : TE) (tl th : TO) : TE := fun σ H Q => te σ H fun x H1 => tl σ H1 fun l H2 => th σ H2 fun u H3 => r x l u H3 Q
theorem pe_slice {r : V → Option Int → Option Int → Hp → VK → Prop} (hr : SlR X r) (he : PE X e te) (hl : PO X lo tl) (hu : PO X hi th) : PE X (.Subscript e (.Slice lo hi none p2) pos) (tSl r te tl th) := by
  intro pins s σ H Q I h
  refine Subscript_ (thn (he pins s σ H _ I h) fun v s1 zz66_0 => ?_)
  obtain ⟨x, H1, I1, r1, q1⟩ := zz66_0
  refine wpAny_Slice (thn (hl pins s1 σ H1 _ I1 q1) fun vl s2 ⟨l, H2, I2, pl, q2⟩ => thn (hu pins s2 σ H2 _ I2 q2) fun vu s3 zz67_0 => ?_)
  obtain ⟨u, H3, I3, pu, q3⟩ := zz67_0
  rw [evalPart_none]
  refine wpAny_pure ?_
  have I4 : Inv X pins σ H3 { s3 with heap := s3.heap.push { cls := .type "slice", data := .fields #[vl, vu, .none] } } := I3.kept (t' := s3.toks) fun b ob q => Heap.get?_push_of_some _ q
  obtain ⟨T, id, hT, ht, hg⟩ := hr pins { s3 with heap := s3.heap.push { cls := .type "slice", data := .fields #[vl, vu, .none] } } σ H3 x v vl vu l u s3.heap.objs.size Q I4 r1 (Heap.IsSliceOf.new ..) pl pu q3
  show wpAny (model X.prog X.w) X.A (subscriptTail e (.Slice lo hi none p2) v (.ref s3.heap.objs.size)) (EP X pins σ Q) X.xe { s3 with heap := s3.heap.push { cls := .type "slice", data := .fields #[vl, vu, .none] } }
  exact tail_any (ops := [.ref s3.heap.objs.size, v]) ht hT hg (by with_unfolding_all rfl)
noncomputable def cutV (xs : List V) (lo hi : Option Int) : List V := (xs.drop (HT.sIx xs.length 0 lo)).take (HT.sIx xs.length xs.length hi - HT.sIx xs.length 0 lo)
noncomputable def rSlT (K : PySem.W.Frag) : V → Option Int → Option Int → Hp → VK → Prop := fun x lo hi H Q => ∃ a xs, x = .ref a ∧ SqT K H a xs ∧
  ¬ (HT.sIx xs.length 0 lo = 0 ∧ HT.sIx xs.length xs.length hi = xs.length) ∧ ∀ p, H p = none → Q (.ref p) (upd H p (.tup (cutV xs lo hi)))
noncomputable def rLtT (K : PySem.W.Frag) : R2 := fun x y H Q => ∃ a b ns ms, x = .ref a ∧ y = .ref b ∧ SqT K H a (ns.map V.int) ∧ SqT K H b (ms.map V.int) ∧ Q (.bl (HT.lexLt ns ms)) H
theorem op_ltT (hu : X.A.units < cLine) : OpR X (compareOp .Lt) (rLtT X.K) := by
  intro pins s σ H x y v u Q I rx ry h
  obtain ⟨a, b, ns, ms, rfl, rfl, ha, hb, q⟩ := h
  cases rx
  cases ry
  obtain ⟨its, r1, p1, _⟩ := I.tuple ha
  obtain ⟨its2, r2, p2, _⟩ := I.tuple hb
  have i1 : IntsAre its.toArray.toList ns := intsAre_of r1
  have i2 : IntsAre its2.toArray.toList ms := intsAre_of r2
  exact HT.lt_tupInts p1 p2 i1 i2 hu ⟨.bl (HT.lexLt ns ms), H, I, rfl, q⟩
noncomputable def rCatT (K : PySem.W.Frag) : R2 := fun x y H Q => ∃ a b xs ys, x = .ref a ∧ y = .ref b ∧ SqT K H a xs ∧ SqT K H b ys ∧ xs ≠ [] ∧ xs.length + ys.length ≤ sizeLine ∧
  (ys = [] → Q (.ref a) H) ∧ (ys ≠ [] → ∀ p, H p = none → Q (.ref p) (upd H p (.tup (xs ++ ys))))
theorem Vals.nil_iff {xs : List V} {us : List Value} (r : Vals xs us) : us = [] ↔ xs = [] := by
  cases r with
  | nil => simp
  | cons _ _ => simp
theorem op_catT : OpR X (binaryOp .Add) (rCatT X.K) := by
  intro pins s σ H x y v u Q I rx ry h
  obtain ⟨a, b, xs, ys, rfl, rfl, ha, hb, hx, hz, q1, q2⟩ := h
  cases rx
  cases ry
  obtain ⟨its, r1, p1, _⟩ := I.tuple ha
  obtain ⟨its2, r2, p2, _⟩ := I.tuple hb
  refine HT.cat_tup p1 p2 (fun z => hx (r1.nil_iff.mp z)) (fun z => ⟨.ref a, H, I, rfl, q1 (r2.nil_iff.mp z)⟩) (fun z => ?_) (by rw [← r1.length, ← r2.length]; exact hz)
  refine ⟨.ref s.heap.objs.size, _, I.laid (t' := s.toks) (o := .tup (xs ++ ys)) (fun b ob q => Heap.get?_push_of_some _ q) (Nat.le_refl _) ?_, rfl, q2 (fun w => z (r2.nil_iff.mpr w)) _ (I.hok.fresh (Nat.le_refl _))⟩
  exact ⟨by rw [List.length_append]; exact hz, _, r1.append r2, IsTup.new _ _⟩
end
end L2
namespace L2
open PySem PySem.Spec PyProof.Rows
noncomputable def ixN (n : Nat) (i : Int) : Option Nat := if 0 ≤ i then (if i < n then some i.toNat else none) else if -(n : Int) ≤ i then some (i + n).toNat else none
noncomputable def atI {α : Type} (xs : List α) (i : Int) : Option α := (ixN xs.length i).bind fun j => xs[j]?
theorem ixN_seq {n : Nat} {i : Int} {j : Nat} (h : ixN n i = some j) : seqIndex? i n = some j ∧ j < n ∧ -(n : Int) ≤ i ∧ i < n := by
  unfold ixN at h
  by_cases h0 : 0 ≤ i
  · rw [if_pos h0] at h
    by_cases h1 : i < n
    · rw [if_pos h1] at h
      have e : i.toNat = j := Option.some.inj h
      exact ⟨by rw [seqIndex_of h0 h1, e], by omega, by omega, h1⟩
    · rw [if_neg h1] at h; cases h
  · rw [if_neg h0] at h
    by_cases h1 : -(n : Int) ≤ i
    · rw [if_pos h1] at h
      have e : (i + n).toNat = j := Option.some.inj h
      exact ⟨by rw [seqIndex_neg (by omega) h1, e], by omega, h1, by omega⟩
    · rw [if_neg h1] at h; cases h
theorem atI_get {α : Type} {xs : List α} {i : Int} {v : α} (h : atI xs i = some v) : ∃ j, seqIndex? i xs.length = some j ∧ xs[j]? = some v ∧ j < xs.length ∧ -(xs.length : Int) ≤ i ∧ i < xs.length := by
  unfold atI at h
  cases e : ixN xs.length i with
  | none => rw [e] at h; cases h
  | some j =>
    rw [e] at h
    obtain ⟨h1, h2, h3, h4⟩ := ixN_seq e
    exact ⟨j, h1, h, h2, h3, h4⟩
theorem atI_nat {α : Type} {xs : List α} {j : Nat} {v : α} (h : xs[j]? = some v) : atI xs (j : Int) = some v := by
  have hj : j < xs.length := (List.getElem?_eq_some_iff.mp h).1
  have e : ixN xs.length (j : Int) = some j := by
    unfold ixN
    rw [if_pos (by omega), if_pos (by omega)]; simp
  unfold atI; rw [e]; exact h
noncomputable def PlainIx (b : Expr) : Prop := ∀ o i, subscripted b false o i = operate [o, i] (getItem o i)
noncomputable def IxR (X : Cx) (r : R2) : Prop :=
  ∀ (value slice : Expr) (pins : List (Addr × Obj)) (s : Shared) (σ : St) (H : Hp) (x y : V) (v u : Value) (Q : VK), Inv X pins σ H s → RelV x v → RelV y u → r x y H Q →
    subscripted slice false v u = operate [v, u] (getItem v u) → wpAny (model X.prog X.w) X.A (subscriptTail value slice v u) (EP X pins σ Q) X.xe s
noncomputable def MtR (X : Cx) (id : String) (r : V → List V → Hp → VK → Prop) : Prop :=
  ∀ (pins : List (Addr × Obj)) (s : Shared) (σ : St) (H : Hp) (x : V) (xs : List V) (v : Value) (us : List Value) (Q : VK), Inv X pins σ H s → RelV x v → Vals xs us → r x xs H Q →
    wpAny (model X.prog X.w) X.A (call (.builtin id) (v :: us)) (EP X pins σ Q) X.xe s
section
variable {X : Cx} {a b : Expr} {ta tb : TE} {pos : Pos}
theorem IxR.or {r r' : R2} (h : IxR X r) (h' : IxR X r') : IxR X (fun x y H Q => r x y H Q ∨ r' x y H Q) := by
  intro value slice pins s σ H x y v u Q I rx ry q hs
  rcases q with q | q
  · exact h value slice pins s σ H x y v u Q I rx ry q hs
  · exact h' value slice pins s σ H x y v u Q I rx ry q hs
theorem MtR.or {id : String} {r r' : V → List V → Hp → VK → Prop} (h : MtR X id r) (h' : MtR X id r') : MtR X id (fun x xs H Q => r x xs H Q ∨ r' x xs H Q) := by
  intro pins s σ H x xs v us Q I rx rs q
  rcases q with q | q
  · exact h pins s σ H x xs v us Q I rx rs q
  · exact h' pins s σ H x xs v us Q I rx rs q
theorem pe_ix {r : R2} (hr : IxR X r) (ha : PE X a ta) (hb : PE X b tb) (hs : PlainIx b) : PE X (.Subscript a b pos) (tOp r ta tb) := by
  intro pins s σ H Q I h
  exact Subscript_ (binT ha hb I h fun v u s2 x y H2 I2 rx ry q => hr a b pins s2 σ H2 x y v u Q I2 rx ry q (hs _ _))
noncomputable def rIxL (K : PySem.W.Frag) : R2 := fun x y H Q => ∃ p xs i v, x = .ref p ∧ y = .int i ∧ SqL K H p xs ∧ atI xs i = some v ∧ Q v H
noncomputable def rIxT (K : PySem.W.Frag) : R2 := fun x y H Q => ∃ p xs i v, x = .ref p ∧ y = .int i ∧ SqT K H p xs ∧ atI xs i = some v ∧ Q v H
noncomputable def rIxS : R2 := fun x y H Q => ∃ z i c, x = .str z ∧ y = .int i ∧ z.length ≤ sizeLine ∧ atI z.cps.toList i = some c ∧ Q (.str ⟨#[c]⟩) H
theorem ix_list : IxR X (rIxL X.K) := by
  intro value slice pins s σ H x y v u Q I rx ry h hs
  obtain ⟨p, xs, i, z, rfl, rfl, hq, he, q⟩ := h
  cases rx
  obtain ⟨t, rfl⟩ := ry
  obtain ⟨its, r, pl, hz⟩ := I.list hq
  obtain ⟨j, h1, h2, h3, h4, h5⟩ := atI_get he
  obtain ⟨w, ew, rw'⟩ := r.get h2
  have hl := r.length
  have hn := line63
  have fin : EP X pins σ Q w s := ⟨z, H, I, rw', q⟩
  by_cases h0 : 0 ≤ i
  · have hj : i.toNat = j := by
      rw [seqIndex_of h0 h5] at h1
      exact Option.some.inj h1
    exact item_listR pl.isList h0 (by omega) (by rw [hj]; simpa using ew) fin hs
  · have hj : (i + (its.toArray.size : Int)).toNat = j := by
      rw [seqIndex_neg (by omega) h4] at h1
      rw [List.size_toArray, ← hl]
      exact Option.some.inj h1
    exact subscriptTail_builtinR (x := w) pl.isList.typeIs slot_list_getitem.lookup
      (wpAny_getItem_list_neg (Q := fun r s' => r = w ∧ EP X pins σ Q r s') pl.isList (by omega) (by rw [List.size_toArray] <;> omega) (by omega) (by rw [hj]; simpa using ew) ⟨rfl, fin⟩) hs
theorem ix_tup : IxR X (rIxT X.K) := by
  intro value slice pins s σ H x y v u Q I rx ry h hs
  obtain ⟨p, xs, i, z, rfl, rfl, hq, he, q⟩ := h
  cases rx
  obtain ⟨t, rfl⟩ := ry
  obtain ⟨its, r, pl, hz⟩ := I.tuple hq
  obtain ⟨j, h1, h2, h3, h4, h5⟩ := atI_get he
  obtain ⟨w, ew, rw'⟩ := r.get h2
  have hl := r.length
  have hn := line63
  have fin : EP X pins σ Q w s := ⟨z, H, I, rw', q⟩
  exact subscriptTail_builtinR (x := w) pl.typeIs slot_tuple_getitem.lookup
    (getItem_tuple (j := j) (Q := fun r s' => r = w ∧ EP X pins σ Q r s') pl (by omega) (by omega) (by rw [List.size_toArray, ← hl]; exact h1) (by simpa using ew) ⟨rfl, fin⟩) hs
theorem ix_str : IxR X rIxS := by
  intro value slice pins s σ H x y v u Q I rx ry h hs
  obtain ⟨z, i, c, rfl, rfl, hz, he, q⟩ := h
  obtain ⟨t, rfl⟩ := rx
  obtain ⟨t', rfl⟩ := ry
  obtain ⟨j, h1, h2, h3, h4, h5⟩ := atI_get he
  have hl : z.cps.toList.length = z.length := by simp [Str.length]
  rw [hl] at h1 h4 h5
  have hn := line63
  exact tail_any (typeIs_str s z t) slot_str_getitem.lookup (getItem_str (c := c) (by
    have e1 : decide (i < -(2 ^ 63 : Int)) = false := decide_eq_false (by omega)
    have e2 : decide (i ≥ 2 ^ 63) = false := decide_eq_false (by omega)
    rw [e1, e2, Bool.or_false]) (by rw [h1]; simpa using h2) ⟨.str ⟨#[c]⟩, H, I.tok _, ⟨_, rfl⟩, q⟩) hs
noncomputable def rIx (K : PySem.W.Frag) : R2 := fun x y H Q => rIxL K x y H Q ∨ rIxT K x y H Q ∨ rIxS x y H Q
theorem ix_seq : IxR X (rIx X.K) := ix_list.or (ix_tup.or ix_str)
theorem mapSeq_set (its : List Value) (n j : Nat) (u : Value) : Obj.mapSeq (·.setIfInBounds j u) { cls := .type "list", data := .seq its.toArray n } = { cls := .type "list", data := .seq (its.set j u).toArray n } := by
  simp [Obj.mapSeq]
theorem Inv.lst {pins : List (Addr × Obj)} {σ : St} {H : Hp} {s : Shared} {p : Addr} {xs : List V} (I : Inv X pins σ H s) (h : H p = some (.lst xs)) :
    ∃ (its : List Value) (n : Nat), Vals xs its ∧ s.heap.get? p = some { cls := .type "list", data := .seq its.toArray n } ∧ xs.length ≤ sizeLine := by
  obtain ⟨z, its, n, r, e⟩ := I.hok p _ h
  exact ⟨its, n, r, e, z⟩
theorem Inv.lstUpd {pins : List (Addr × Obj)} {σ : St} {H : Hp} {s : Shared} {p : Addr} {xs ys : List V} {its its' : List Value} {n n' : Nat} {f : Obj → Obj} (I : Inv X pins σ H s) (h : H p = some (.lst xs))
    (ho : s.heap.get? p = some { cls := .type "list", data := .seq its.toArray n }) (hf : f { cls := .type "list", data := .seq its.toArray n } = { cls := .type "list", data := .seq its'.toArray n' }) (r : Vals ys its') (hz : ys.length ≤ sizeLine) (t : Nat) :
    Inv X pins σ (upd H p (.lst ys)) { s with heap := s.heap.update p f, toks := t } := by
  have e : (s.heap.update p f).get? p = some { cls := .type "list", data := .seq its'.toArray n' } := by
    rw [Heap.get?_update_self f ho (by rw [hf] <;> rfl), hf]
  refine I.write (x := p) (e := p) (by rw [h]; trivial) (.inl rfl) (fun b u hb q => (Heap.get?_update_other _ _ (Ne.symm hb)).trans q) ⟨_, e⟩ ?_
  exact ⟨hz, its', n', r, e⟩
noncomputable def rSetL : V → V → V → Hp → (Hp → Prop) → Prop := fun o i v H Q => ∃ p xs k j, o = .ref p ∧ i = .int k ∧ H p = some (.lst xs) ∧ ixN xs.length k = some j ∧ Q (upd H p (.lst (xs.set j v)))
theorem set_list : PSet X rSetL := by
  intro pins s σ H o i v ov iv u Q I ro ri rv h
  obtain ⟨p, xs, k, j, rfl, rfl, hp, hj, q⟩ := h
  cases ro
  obtain ⟨t, rfl⟩ := ri
  obtain ⟨its, n, r, ho, hz⟩ := I.lst hp
  obtain ⟨h1, h2, h3, h4⟩ := ixN_seq hj
  have hl := r.length
  have hn := line63
  have I' : Inv X pins σ (upd H p (.lst (xs.set j v))) { s with heap := s.heap.update p (Obj.mapSeq (·.setIfInBounds j u)) } :=
    I.lstUpd hp ho (mapSeq_set its n j u) (r.set rv j) (by rw [List.length_set]; exact hz) s.toks
  by_cases h0 : 0 ≤ k
  · have hk : k.toNat = j := by
      rw [seqIndex_of h0 h4] at h1
      exact Option.some.inj h1
    exact PySem.W.ki_setAt ho h0 (by omega) (by rw [List.size_toArray, ← hl]; exact h4) (by rw [hk]; exact ⟨_, I', q⟩)
  · have hk : (k + (its.toArray.size : Int)).toNat = j := by
      rw [seqIndex_neg (by omega) h3] at h1
      rw [List.size_toArray, ← hl]
      exact Option.some.inj h1
    exact PySem.W.ki_setBack ho (by omega) (by rw [List.size_toArray, ← hl]; exact h3) (by omega) (by rw [hk]; exact ⟨_, I', q⟩)
noncomputable def rSlL (K : PySem.W.Frag) : V → Option Int → Option Int → Hp → VK → Prop := fun x lo hi H Q => ∃ a xs, x = .ref a ∧ SqL K H a xs ∧ ∀ p, H p = none → Q (.ref p) (upd H p (.lst (cutV xs lo hi)))
noncomputable def flatV : V → Bool
  | .non => true
  | .bl _ => true
  | .int _ => true
  | .str _ => true
  | _ => false
noncomputable def eqV : V → V → Bool
  | .non, .non => true
  | .bl a, .bl b => a == b
  | .bl a, .int b => (if a then 1 else 0) == b
  | .int a, .bl b => a == (if b then 1 else 0)
  | .int a, .int b => a == b
  | .str a, .str b => a == b
  | _, _ => false
noncomputable def eqU (x : V) (u : Value) : Bool := match u with
  | .none => eqV .non x
  | .bool b => eqV (.bl b) x
  | .int i _ => eqV (.int i) x
  | .str z _ => eqV (.str z) x
  | _ => false
noncomputable def inV (x : V) (xs : List V) : Bool := xs.any fun y => eqV y x
noncomputable def rIn (K : PySem.W.Frag) (neg : Bool) : R2 := fun x y H Q => ∃ p xs, y = .ref p ∧ (SqL K H p xs ∨ SqT K H p xs) ∧ flatV x = true ∧ xs.all flatV = true ∧ Q (.bl (if neg then !inV x xs else inV x xs)) H
theorem call_len_seq : CallR X (.builtin "len") (fun xs H Q => ∃ p ys, xs = [.ref p] ∧ (SqL X.K H p ys ∨ SqT X.K H p ys) ∧ Q (.int ys.length) H) := by
  intro pins s σ H xs us Q I r h
  obtain ⟨p, ys, rfl, hq, q⟩ := h
  obtain ⟨u, rfl, rx⟩ := vals1 r
  cases rx
  have hn := line63
  rcases hq with hq | hq
  · obtain ⟨its, r', pl, hz⟩ := I.list hq
    have hlen := r'.length
    exact Calls.call_len_list pl.isList (by simp only [List.size_toArray] <;> omega) ⟨.int ys.length, H, I.tok _, ⟨s.toks + 1, by rw [List.size_toArray, hlen]⟩, q⟩
  · obtain ⟨its, r', pl, hz⟩ := I.tuple hq
    have hlen := r'.length
    exact len_tuple pl (by simp only [List.size_toArray] <;> omega) ⟨.int ys.length, H, I.tok _, ⟨s.toks + 1, by rw [List.size_toArray, hlen]⟩, q⟩
theorem call_len_str : CallR X (.builtin "len") (fun xs H Q => ∃ z, xs = [.str z] ∧ z.length ≤ sizeLine ∧ Q (.int z.length) H) := by
  intro pins s σ H xs us Q I r h
  obtain ⟨z, rfl, hz, q⟩ := h
  obtain ⟨u, rfl, t, rfl⟩ := vals1 r
  have hn := line63
  exact len_str (by omega) ⟨.int z.length, H, I.tok _, ⟨_, rfl⟩, q⟩
theorem CallR.or {f : Value} {r r' : List V → Hp → VK → Prop} (h : CallR X f r) (h' : CallR X f r') : CallR X f (fun xs H Q => r xs H Q ∨ r' xs H Q) := by
  intro pins s σ H xs us Q I rs q
  rcases q with q | q
  · exact h pins s σ H xs us Q I rs q
  · exact h' pins s σ H xs us Q I rs q
theorem call_list_of : CallR X (.type "list") (fun xs H Q => ∃ p ys, xs = [.ref p] ∧ (SqL X.K H p ys ∨ SqT X.K H p ys) ∧ ∀ l, H l = none → Q (.ref l) (upd H l (.lst ys))) := by
  intro pins s σ H xs us Q I r h
  obtain ⟨p, ys, rfl, hq, q⟩ := h
  obtain ⟨u, rfl, rx⟩ := vals1 r
  cases rx
  have fin : ∀ (its : List Value), Vals ys its → ys.length ≤ sizeLine → ∀ (h' : Heap) (c' : Nat), (∀ b o', s.heap.get? b = some o' → h'.get? b = some o') →
      h'.get? s.heap.objs.size = some { cls := .type "list", dict := none, data := .seq its.toArray c', slots := #[] } → EP X pins σ Q (.ref s.heap.objs.size) { s with heap := h' } := fun its r' hz h' c' kp e =>
    ⟨.ref s.heap.objs.size, _, I.laid (t' := s.toks) kp (Nat.le_refl _) (show ObjOk X.prog X.w _ h' _ (.lst ys) from ⟨hz, its, c', r', e⟩), rfl, q _ (I.hok.fresh (Nat.le_refl _))⟩
  rcases hq with hq | hq
  · obtain ⟨its, r', pl, hz⟩ := I.list hq
    have hlen := r'.length
    obtain ⟨o, ho, hc, n, hd⟩ := pl.isList
    exact call_list_seq p (.inl rfl) ho hc hd (fun h' c' kp e => fin its r' hz h' c' kp e) (by simp only [List.size_toArray] <;> omega)
  · obtain ⟨its, r', pl, hz⟩ := I.tuple hq
    have hlen := r'.length
    obtain ⟨o, ho, hc, n, hd⟩ := pl
    exact call_list_seq p (.inr rfl) ho hc hd (fun h' c' kp e => fin its r' hz h' c' kp e) (by simp only [List.size_toArray] <;> omega)
theorem call_tuple_of : CallR X (.type "tuple") (fun xs H Q => ∃ p ys, xs = [.ref p] ∧ ((SqL X.K H p ys ∧ ∀ l, H l = none → Q (.ref l) (upd H l (.tup ys))) ∨ (SqT X.K H p ys ∧ Q (.ref p) H))) := by
  intro pins s σ H xs us Q I r h
  obtain ⟨p, ys, rfl, h⟩ := h
  obtain ⟨u, rfl, rx⟩ := vals1 r
  cases rx
  rcases h with ⟨hq, q⟩ | ⟨hq, q⟩
  · obtain ⟨its, r', pl, hz⟩ := I.list hq
    have hlen := r'.length
    refine call_tuple_list pl.isList (fun h' kp => ?_) (by simp only [List.size_toArray] <;> omega)
    have I1 : Inv X pins σ H { s with heap := h' } := I.kept (t' := s.toks) kp
    have I2 : Inv X pins σ (upd H h'.objs.size (.tup ys)) { s with heap := h'.push { cls := .type "tuple", data := .seq its.toArray } } :=
      I1.laid (t' := s.toks) (fun b o e => Heap.get?_push_of_some _ e) (Nat.le_refl _) (show ObjOk X.prog X.w _ _ _ (.tup ys) from ⟨hz, its, r', IsTup.new _ _⟩)
    exact ⟨.ref h'.objs.size, _, I2, rfl, q _ (I1.hok.fresh (Nat.le_refl _))⟩
  · obtain ⟨its, r', pl, hz⟩ := I.tuple hq
    exact call_tuple_same pl ⟨.ref p, H, I, rfl, q⟩
noncomputable def tyV (K : PySem.W.Frag) (T : String) (x : V) (H : Hp) : Prop := match x with
  | .str _ => T = "str"
  | .int _ => T = "int"
  | .ref p => (T = "list" ∧ ∃ xs, SqL K H p xs) ∨ (T = "tuple" ∧ ∃ o, K.lookup p = some o ∧ o.cls = .type "tuple" ∧ o.dict = none) ∨
      (T = "dict" ∧ ((∃ kvs, H p = some (.dK kvs)) ∨ ∃ kvs, H p = some (.dT kvs))) ∨ (T = "set" ∧ ∃ S n, H p = some (.set S n))
  | _ => False
theorem tyV_is {pins : List (Addr × Obj)} {σ : St} {H : Hp} {s : Shared} {T : String} {x : V} {v : Value} (I : Inv X pins σ H s) (r : RelV x v) (ty : tyV X.K T x H) :
    s.TypeIs v T ∧ ∀ a, v = .ref a → ∃ ob, s.heap.get? a = some ob ∧ ob.dict = none := by
  cases x with
  | str z =>
    obtain ⟨t, rfl⟩ := r
    cases (show T = "str" from ty)
    exact ⟨typeIs_str s z t, fun _ e => nomatch e⟩
  | int i =>
    obtain ⟨t, rfl⟩ := r
    cases (show T = "int" from ty)
    exact ⟨typeIs_int s i t, fun _ e => nomatch e⟩
  | ref p =>
    cases r
    rcases ty with ⟨rfl, xs, hq⟩ | ⟨rfl, o, hk, hc, hd⟩ | ⟨rfl, hk⟩ | ⟨rfl, S, n, hk⟩
    · obtain ⟨its, _, pl, _⟩ := I.list hq
      refine ⟨pl.isList.typeIs, fun a e => ?_⟩
      cases e
      obtain ⟨o, n, e, c, hd, _⟩ := pl
      exact ⟨o, e, hd⟩
    · refine ⟨⟨o, I.kIn p o hk, hc⟩, fun a e => ?_⟩
      cases e
      exact ⟨o, I.kIn _ o hk, hd⟩
    · have z : ∃ o, s.heap.get? p = some o ∧ o.ExactDict := by
        rcases hk with ⟨kvs, hk⟩ | ⟨kvs, hk⟩
        · obtain ⟨_, _, _, _, o, _, _, e, ex, _⟩ := I.hok p _ hk
          exact ⟨o, e, ex⟩
        · obtain ⟨_, _, _, _, o, _, _, e, ex, _⟩ := I.hok p _ hk
          exact ⟨o, e, ex⟩
      obtain ⟨o, e, ex⟩ := z
      refine ⟨⟨o, e, ex.1⟩, fun a e2 => ?_⟩
      cases e2
      exact ⟨o, e, ex.2.1⟩
    · obtain ⟨o, _, _, _, e, ex, _⟩ := I.hok p _ hk
      refine ⟨⟨o, e, ex.1⟩, fun a e2 => ?_⟩
      cases e2
      exact ⟨o, e, ex.2.1⟩
  | _ => exact False.elim ty
noncomputable def tBM0 (K : PySem.W.Frag) (T : String) (r : V → List V → Hp → VK → Prop) (to : TE) : TE := fun σ H Q => to σ H fun x H1 => tyV K T x H1 ∧ r x [] H1 Q
noncomputable def tBM (K : PySem.W.Frag) (T : String) (r : V → List V → Hp → VK → Prop) (to : TE) (t : TA) : TE := fun σ H Q => to σ H fun x H1 => tyV K T x H1 ∧ t σ H1 fun xs H2 => r x xs H2 Q
variable {o e : Expr} {es : List Expr} {to : TE} {t : TA} {name : Str} {apos cpos : Pos} {T id : String} {r : V → List V → Hp → VK → Prop}
theorem pe_bm (pa : PlainAttrs T) (slot : Slot T name id) (hty : typeOf (.builtin id) = pure (.type "method_descriptor")) (hm : MtR X id r) (ho : PE X o to) (ha : PA X (e :: es) t)
    (hbase : attributeBase o name X.env (eval o X.env) = eval o X.env := by rfl)
    (hfew : ((backTo cpos (starEach (e :: es) X.env)).all (fun x => !x.1) && (backToKw cpos (keywordEach [] X.env)).all (fun x => x.1.isSome)
      && decide ((e :: es).length + ([] : List Keyword).length + (if ([] : List Keyword).isEmpty then 0 else 1) < 30)) = true := by rfl)
    (hline : (apos.endLine == cpos.line) = true := by rfl) (hs : starEach (e :: es) X.env = (false, eval e X.env) :: starEach es X.env := by rfl) (hplain : (backTo cpos (starEach es X.env)).any (·.1) = false := by rfl) :
    PE X (.Call (.Attribute o name apos) (e :: es) [] cpos) (tBM X.K T r to t) := by
  intro pins s σ H Q I h
  refine wpAny_Call_method_late hbase hfew hline rfl (thn (ho pins s σ H _ I h) fun v s1 zz69_0 => ?_)
  obtain ⟨x, H1, I1, r1, ty, q1⟩ := zz69_0
  obtain ⟨h1, h2⟩ := tyV_is I1 r1 ty
  refine ⟨T, id, pa, slot, hty, h1, h2, ?_⟩
  have hA := ha cpos pins s1 σ H1 _ I1 q1
  rw [hs] at hA ⊢
  refine Calls.callWith_builtin (by show (false || (backTo cpos (starEach es X.env)).any (·.1)) = false; rw [hplain] <;> rfl) (Calls.evalArgs_plain ?_)
  exact thn hA fun us s2 zz70_0 => by obtain ⟨vs, H2, I2, r2, q2⟩ := zz70_0; exact (hm pins s2 σ H2 x vs v us Q I2 r1 r2 q2)
/- xs.append(e), list.index on a module's tuple .. are MtR facts of 06m -/
end
end L2
namespace L2
open PySem PySem.Spec PyProof.Rows
noncomputable def MtM (X : Cx) (id : String) (r : V → List V → Hp → VK → Prop) : Prop :=
  ∀ (pins : List (Addr × Obj)) (s : Shared) (σ : St) (H : Hp) (x : V) (xs : List V) (v : Value) (us : List Value) (Q : VK), Inv X pins σ H s → RelV x v → Vals xs us → r x xs H Q →
    wpAny (model X.prog X.w) X.A (call (.builtin id) (v :: us)) (EP X pins σ Q) X.xe s
theorem Vals.one : ∀ {x : V} {us : List Value}, Vals [x] us → ∃ u, us = [u] ∧ RelV x u
  | _, _, .cons r .nil => ⟨_, rfl, r⟩
theorem Vals.two : ∀ {x y : V} {us : List Value}, Vals [x, y] us → ∃ u v, us = [u, v] ∧ RelV x u ∧ RelV y v
  | _, _, _, .cons r (.cons q .nil) => ⟨_, _, rfl, r, q⟩
theorem Vals.dropLast {xs : List V} {us : List Value} (h : Vals xs us) : Vals xs.dropLast us.dropLast := by
  induction h with
  | nil => exact .nil
  | cons r t ih =>
    cases t with
    | nil => exact .nil
    | cons q t' => exact .cons r ih
theorem Vals.eraseIdx : ∀ {xs : List V} {us : List Value} (i : Nat), Vals xs us → Vals (xs.eraseIdx i) (us.eraseIdx i)
  | _, _, _, .nil => .nil
  | _, _, 0, .cons _ t => t
  | _, _, i + 1, .cons r t => .cons r (Vals.eraseIdx i t)
theorem Vals.reverse {xs : List V} {us : List Value} (h : Vals xs us) : Vals xs.reverse us.reverse := by
  induction h with
  | nil => exact .nil
  | cons r t ih => rw [List.reverse_cons, List.reverse_cons]; exact Vals.append ih (.cons r .nil)
section
variable {X : Cx} {pins : List (Addr × Obj)} {σ : St} {H : Hp} {s : Shared} {l b : Addr} {xs ys zs : List V}
theorem Inv.lset {its its' : List Value} {n : Nat} {f : Array Value → Array Value} {t' : Nat} (I : Inv X pins σ H s) (hH : H l = some (.lst xs))
    (e : s.heap.get? l = some { cls := .type "list", data := .seq its.toArray n }) (hf : f its.toArray = its'.toArray) (hv : Vals ys its') (hz : ys.length ≤ sizeLine) :
    Inv X pins σ (upd H l (.lst ys)) { s with heap := s.heap.update l (Obj.mapSeq f), toks := t' } := by
  have q := PySem.IsL.update e f
  rw [hf] at q
  refine I.write (x := l) (e := l) (by rw [hH]; exact trivial) (.inl rfl) (fun b' u hb hu => (Heap.get?_update_other s.heap (Obj.mapSeq f) (Ne.symm hb)).trans hu) ⟨_, q⟩ ?_
  exact ⟨hz, its', _, hv, q⟩
theorem Inv.lnew {its : List Value} {t' : Nat} (I : Inv X pins σ H s) (hv : Vals ys its) (hz : ys.length ≤ sizeLine) :
    Inv X pins σ (upd H s.heap.objs.size (.lst ys)) { s with heap := s.heap.push { cls := .type "list", data := .seq its.toArray }, toks := t' } :=
  I.laid (fun _ _ q => Heap.get?_push_of_some _ q) (Nat.le_refl _) ⟨hz, its, 0, hv, Heap.get?_push_size _ rfl⟩
theorem Inv.fresh (I : Inv X pins σ H s) : H s.heap.objs.size = none := I.hok.fresh (Nat.le_refl _)
theorem Inv.lstM (I : Inv X pins σ H s) (hH : H l = some (.lst xs)) : xs.length ≤ sizeLine ∧ ∃ (its : List Value) (n : Nat), Vals xs its ∧ xs.length = its.length ∧ s.heap.get? l = some { cls := .type "list", data := .seq its.toArray n } := by
  obtain ⟨z, its, n, r, e⟩ := I.hok l _ hH
  exact ⟨z, its, n, r, r.length, e⟩
end
section
variable {X : Cx}
noncomputable def rAppend : V → List V → Hp → VK → Prop := fun x vs H Q => ∃ l xs y, x = .ref l ∧ vs = [y] ∧ H l = some (.lst xs) ∧ xs.length < sizeLine ∧ Q .non (upd H l (.lst (xs ++ [y])))
theorem mt_append : MtM X "list.append" rAppend := by
  intro pins s σ H x vs v us Q I rx rv h
  obtain ⟨l, xs, y, rfl, rfl, hH, hz, q⟩ := h
  cases rx
  obtain ⟨u, rfl, ru⟩ := rv.one
  obtain ⟨z, its, n, r, hl, e⟩ := I.lstM hH
  refine call_meets F.slot_list_append ⟨_, e, rfl⟩ F.entry_list_append (F.args_list_append_2 _ _) (PySem.list_append l its.toArray n u (by rw [List.size_toArray]; omega)) ⟨e, ?_⟩
  refine ⟨.non, _, I.lset (its' := its ++ [u]) hH e (by simp) (r.append (.cons ru .nil)) ?_, rfl, q⟩
  rw [List.length_append, List.length_singleton]
  omega
noncomputable def rExtend : V → List V → Hp → VK → Prop := fun x vs H Q => ∃ l b xs zs, x = .ref l ∧ vs = [.ref b] ∧ H l = some (.lst xs) ∧ H b = some (.lst zs) ∧ xs.length + zs.length ≤ sizeLine ∧ Q .non (upd H l (.lst (xs ++ zs)))
noncomputable def rPop : V → List V → Hp → VK → Prop := fun x vs H Q => ∃ l xs y, x = .ref l ∧ vs = [] ∧ H l = some (.lst xs) ∧ xs[xs.length - 1]? = some y ∧ Q y (upd H l (.lst xs.dropLast))
noncomputable def rPopAt : V → List V → Hp → VK → Prop := fun x vs H Q => ∃ l xs i k y, x = .ref l ∧ vs = [.int i] ∧ H l = some (.lst xs) ∧ -(2 ^ 63) ≤ i ∧ i < 2 ^ 63 ∧ seqIndex? i xs.length = some k ∧ xs[k]? = some y ∧ Q y (upd H l (.lst (xs.eraseIdx k)))
noncomputable def rReverse : V → List V → Hp → VK → Prop := fun x vs H Q => ∃ l xs, x = .ref l ∧ vs = [] ∧ H l = some (.lst xs) ∧ Q .non (upd H l (.lst xs.reverse))
noncomputable def rClear : V → List V → Hp → VK → Prop := fun x vs H Q => ∃ l xs, x = .ref l ∧ vs = [] ∧ H l = some (.lst xs) ∧ Q .non (upd H l (.lst []))
noncomputable def rCat : R2 := fun x y H Q => ∃ l b xs zs, x = .ref l ∧ y = .ref b ∧ H l = some (.lst xs) ∧ H b = some (.lst zs) ∧ xs.length + zs.length ≤ sizeLine ∧ ∀ p, H p = none → Q (.ref p) (upd H p (.lst (xs ++ zs)))
theorem op_cat : OpR X (binaryOp .Add) rCat := by
  intro pins s σ H x y v u Q I rx ry h
  obtain ⟨l, b, xs, zs, rfl, rfl, hH, hB, hz, q⟩ := h
  cases rx
  cases ry
  obtain ⟨z, its, n, r, hl, e⟩ := I.lstM hH
  obtain ⟨z2, its2, n2, r2, hl2, e2⟩ := I.lstM hB
  refine PySem.P.add_list e e2 ?_ (by rw [List.size_toArray, List.size_toArray]; omega)
  have ea : its.toArray ++ its2.toArray = (its ++ its2).toArray := by simp
  rw [ea]
  exact ⟨.ref _, _, I.lnew (t' := s.toks) (r.append r2) (by rw [List.length_append]; omega), rfl, q _ I.fresh⟩
noncomputable def rRep : R2 := fun x y H Q => ∃ l k xs, x = .ref l ∧ y = .int k ∧ H l = some (.lst xs) ∧ -(2 ^ 63) ≤ k ∧ k < 2 ^ 63 ∧ xs.length * k.toNat ≤ sizeLine ∧
  ∀ p, H p = none → Q (.ref p) (upd H p (.lst (List.replicate k.toNat xs).flatten))
end
section
variable {prog : Program} {w : World} {A : Around} {E : Value → Shared → Prop} {s : Shared}
end
section
variable {X : Cx}
end
end L2
namespace Att
open PySem PySem.W PySem.Calls PyProof.Rows
theorem ints_of_wellAll {P : Params} {h : Heap} : ∀ (ns : List Int) (vs : List Value), WellAll P h vs (ns.map WData.int) → IntsAre vs ns := by
  intro ns
  induction ns with
  | nil =>
    intro vs w
    rw [List.map_nil] at w
    cases w
    exact .nil
  | cons n ns ih =>
    intro vs w
    rw [List.map_cons] at w
    cases w with
    | cons a b =>
      cases a
      exact .cons _ _ (ih _ b)
theorem script_of {l : OpenLaw} {n : Nat} (hn : l.most = some n) {P : Params} {h : Heap} {args : List WData} {vals : List Value}
    (hpre : l.row.toRowW.claim.pre args = true) (hwl : WellAll P h vals args) :
    ∃ a vs ns, vals = [Value.ref a] ∧ args = [WData.list (ns.map WData.int)] ∧ h.get? a = some { cls := .type "list", data := .seq vs.toArray } ∧ IntsAre vs ns ∧ ns.length ≤ n := by
  have hsh : WShape.hasAll [] args [.list .int] = true := (pre_splitW hpre).1
  have hc : l.pre.holds [] { args := args } = true := (pre_splitW hpre).2
  obtain ⟨d, r, rfl, h1, h2⟩ := hasAllW_cons hsh
  obtain rfl := hasAllW_nil h2
  obtain ⟨xs, rfl, h3⟩ := hasW_list h1
  obtain ⟨ns, rfl⟩ := items_int h3
  have hlen : ns.length ≤ n := by
    unfold OpenLaw.pre at hc
    have h4 : (WTm.not (.lt (.lit (.int (n : Int))) (.len (.arg 0)))).holds [] { args := [.list (ns.map .int)] } = true := by
      have h4 := (holds_andW hc).1
      rw [hn] at h4
      exact h4
    have h5 := condW_of h4 (w_not (w_lt w_lit (w_len_list (w_arg rfl))))
    rw [List.length_map] at h5
    refine Nat.le_of_not_lt fun q => ?_
    have q' : (n : Int) < ((ns.length : Nat) : Int) := by omega
    first
      | (rw [decide_eq_true q'] at h5; exact absurd h5 (by decide))
      | (simp at h5; omega)
  cases hwl with
  | cons w1 w2 =>
    cases w2
    cases w1 with
    | list ho hall => exact ⟨_, _, ns, rfl, rfl, ho, ints_of_wellAll ns _ hall, hlen⟩
theorem post_true (l : OpenLaw) (args : List WData) : l.row.toRowW.claim.post args (.bool true) args = true :=
  postW_of (r := l.row.toRowW) (X := (true == true))
    (show WShape.has [] (.bool true) .bool = true by first | rfl | decide | simp [WShape.has, WShape.arms, WShape.armsAll])
    (show (WTm.eq .res (.lit (.bool true))).value [] { args := args, res := some (.bool true), after := args } = some (.bool (true == true)) from w_eq_bool (w_res rfl) w_lit) rfl
theorem attach_call {l : OpenLaw} {n : Nat} {q : Program} {loose : List Str} {XP : (Str → Option Value) → Heap → Prop} {YP : World → Heap → Prop} {d : DefRec}
    (hn : l.most = some n) (hdf : d.params.defaults = [])
    (call : ∀ (w : World) (s₀ s₁ : Shared) (mg mb : Str → Option Value) (fa : Addr) (o : Obj) (pm cd doc : Value) (a : Addr) (vs : List Value) (ns : List Int),
      Ground q loose [] XP w s₀ mg mb s₁.heap → YP w s₁.heap →
      s₁.heap.get? fa = some o → o.data = .func (docDef d.name d.params d.body d.scope pm cd doc) → s₁.heap.CodeRec cd d.name → mg d.name = some (.ref fa) →
      s₁.heap.get? a = some { cls := .type "list", data := .seq vs.toArray } → IntsAre vs ns → ns.length ≤ n → s₁.gens = #[] →
      codeAny (model l.prog w) callerA (.call (.ref fa) ⟨[.ref a], []⟩) (fun r s' => r = .ok (.ret (.bool true)) ∧ OldK s₁.heap s'.heap ∧ s'.os = s₁.os ∧ AllBare s'.gens) s₁) :
    WalkO q loose XP YP l.row.toRowW d [] (fun f vs => PySem.call f vs) := by
  intro w s₀ s₁ mg mb G Y fa o pm cd doc dV kV ho hd hcd hD hmg hg args vals as hpre hlay hrd hwl hlo
  obtain rfl : dV = .none := Dflts.none hD hdf
  obtain rfl : kV = .none := Dflts.noKw hD
  obtain ⟨a, vs, ns, rfl, rfl, hobj, hints, hlen⟩ := script_of hn hpre hwl
  refine enter_call (codeAny_mono (call w s₀ s₁ mg mb fa o pm cd doc a vs ns G Y ho (fd_plain hd) hcd hmg hobj hints hlen hg) fun r s' hq => ?_)
  obtain ⟨rfl, h2, h3, h4⟩ := hq
  exact ⟨.inl ⟨.bool true, .bool true, [], rfl, fun _ => rfl, .bool true, post_true l _, fun _ => ⟨List.Pairwise.nil, fun _ hm => (nomatch hm)⟩⟩, h2, h3, h4⟩
section
variable {prog : Program} {w : World} {A : Around} {E : Value → Shared → Prop} {s : Shared} {K : Frag}
noncomputable def noObjs (h : Heap) : Heap := { h with objs := #[] }
noncomputable def ledger (h : Heap) (L d : Addr) : List (Addr × Obj) := (List.range h.objs.size).filterMap fun a => if a = L ∨ a = d then none else (h.get? a).map fun o => (a, o)
end
end Att
namespace L2
open PySem PySem.Spec PyProof.Rows
theorem vals_ints : ∀ {vs : List Value} {ns : List Int}, IntsAre vs ns → Vals (ns.map V.int) vs
  | _, _, .nil => .nil
  | _, _, .cons n t h => .cons ⟨t, rfl⟩ (vals_ints h)
noncomputable def Only (H : Hp) : Prop := ∀ b, H b = none ∨ ∃ o xs, H b = some (.frz o (.lst xs))
theorem law_call {P : Program} {w : World} {K : PySem.W.Frag} {mg mb : Str → Option Value} {CX : CXT} {k : Nat} {fa a : Addr} {fd : FuncData} {x : Str} {sp : Sp} {s₁ : Shared} {vs : List Value} {ns : List Int}
    (KX : K.In s₁.heap) (hns : s₁.heap.Ns mainGlobals mg) (hb : s₁.heap.Ns builtinsNs mb) (hbb : ∀ x : Str, x ≠ "__name__" → mb x = bootBuiltins x) (hlim : s₁.heap.NoLimit) (hg : s₁.gens = #[])
    (ha : s₁.heap.get? a = some { cls := .type "list", data := .seq vs.toArray }) (hi : IntsAre vs ns) (hl : ns.length ≤ sizeLine) (hr : Room k callerA)
    (F : ∀ base : Heap, K.In base → base.Ns mainGlobals mg → FnOk P w K mg base CX k fa fd [x] sp) (hbind : ∀ (s : Shared) (u : Value), BindsTo s fd ⟨[u], []⟩ [(x, u)])
    (hsp : ∀ H : Hp, Only H → SqL K H a (ns.map V.int) → sp [.ref a] H (fun v _ => v = .bl true) fun _ _ _ => False)
    (hCX : ∀ H e s', CX [] H s₁ (fun _ _ _ => False) e s' → False) :
    codeAny (model P w) callerA (.call (.ref fa) ⟨[.ref a], []⟩) (fun r s' => r = .ok (.ret (.bool true)) ∧ OldK s₁.heap s'.heap ∧ s'.os = s₁.os ∧ AllBare s'.gens) s₁ := by
  have rv := vals_ints hi
  have lenV := hi.length
  have core : ∀ H : Hp, Only H → SqL K H a (ns.map V.int) → HOk P w H s₁.heap → (∀ b, H b ≠ none → b = a) → (H a ≠ none → K.lookup a = none) →
      codeAny (model P w) callerA (.call (.ref fa) ⟨[.ref a], []⟩) (fun r s' => r = .ok (.ret (.bool true)) ∧ OldK s₁.heap s'.heap ∧ s'.os = s₁.os ∧ AllBare s'.gens) s₁ := by
    intro H hO hS hok hA hK
    have base_of : ∀ {b : Addr} {o : Obj}, s₁.heap.get? b = some o → H b = none → (hidT s₁.heap H).get? b = some o := fun e n => hidT_get e n
    have noA : ∀ {b : Addr} {o : Obj} {es : Array DictEntry} {ep : Nat}, s₁.heap.get? b = some o → o.data = .dict es ep → H b = none := fun {b o es ep} e d => by
      cases q : H b with
      | none => rfl
      | some u =>
        have e' : b = a := hA b (by rw [q]; simp)
        subst e'
        rw [ha] at e; cases e
        have d' : Data.seq vs.toArray _ = Data.dict es ep := d
        cases d'
    have nsK : ∀ {b : Addr} {m : Str → Option Value}, s₁.heap.Ns b m → (hidT s₁.heap H).Ns b m := fun {b m} zz73_0 => by obtain ⟨o, es, ep, e, d, r⟩ := zz73_0; exact (⟨o, es, ep, base_of e (noA e d), d, r⟩)
    have hKb : K.In (hidT s₁.heap H) := fun b o e => base_of (KX b o e) (by
      cases q : H b with
      | none => rfl
      | some u =>
        have e' : b = a := hA b (by rw [q]; simp)
        subst e'
        rw [hK (by rw [q]; simp)] at e; cases e)
    have hM : Mod K mg (hidT s₁.heap H) := ⟨hKb, nsK hns, ⟨mb, nsK hb, hbb⟩, let ⟨mc, h1, h2⟩ := hlim; ⟨mc, nsK h1, h2⟩⟩
    have e0 : Env0 P w K mg (hidT s₁.heap H) callerA [] s₁ H := ⟨rfl, hM, fun b o e => of_hidT e, Nat.le_of_eq (hidT_size _ _), trivial, fun b hb => absurd (show b ∈ ([] : List Addr) from hb) (by simp), hok, .of_eq hg⟩
    refine codeAny_mono ((F _ hKb (nsK hns)).run callerA [] s₁ H ⟨[.ref a], []⟩ [.ref a] [.ref a] _ _ hr e0 (hbind s₁ (.ref a)) (.cons rfl .nil) (hsp H hO hS)) fun r s' h => ?_
    cases r with
    | error e => exact (hCX H e s' h).elim
    | ok fl =>
      cases fl with
      | next => exact False.elim h
      | brk => exact False.elim h
      | cont => exact False.elim h
      | ret u =>
        obtain ⟨v, H', os, bare, un, hok', r', q⟩ := h
        have q' : v = .bl true := q
        subst q'
        obtain rfl : u = Value.bool true := r'
        refine ⟨rfl, OldK.of_keep fun b o e => ?_, os, bare⟩
        cases q : H b with
        | none => exact un.keep b o e q (by intro z; exact absurd (show b ∈ ([] : List Addr) from z) (by simp)) (by simp)
        | some u =>
          rcases hO b with z | ⟨ob, xs, z⟩
          · rw [q] at z; cases z
          · have z2 := un.frzs b ob _ z
            obtain ⟨e1, _⟩ := hok b _ z
            obtain ⟨e2, _⟩ := hok' b _ z2
            rw [e] at e1; cases e1
            exact e2
  cases hk : K.lookup a with
  | some o =>
    have e := KX a o hk
    rw [ha] at e
    cases e
    refine core (fun _ => none) (fun _ => .inl rfl) (.inr ⟨_, vs.toArray, _, hk, rfl, rfl, rfl, by rw [List.size_toArray, lenV]; exact hl, by simpa using rv⟩) (fun b u z => by have z' : (none : Option HO) = some u := z; cases z') (fun b z => absurd rfl z) fun z => absurd rfl z
  | none =>
    refine core (fun b => if b = a then some (.frz { cls := .type "list", data := .seq vs.toArray } (.lst (ns.map V.int))) else none) (fun b => ?_) (.inl (.inr ⟨{ cls := .type "list", data := .seq vs.toArray }, if_pos rfl⟩)) (fun b u z => ?_) (fun b z => ?_) fun _ => hk
    · by_cases hb : b = a
      · exact .inr ⟨_, _, if_pos hb⟩
      · exact .inl (if_neg hb)
    · by_cases hb : b = a
      · have z' := (if_pos hb).symm.trans z
        cases z'
        subst hb
        exact ⟨ha, by rw [List.length_map]; exact hl, vs, _, rv, ha⟩
      · have z' := (if_neg hb).symm.trans z
        cases z'
    · by_cases hb : b = a
      · exact hb
      · exact absurd (if_neg hb) z
end L2
namespace L2
open PySem PySem.Spec PyProof.Rows
noncomputable abbrev KOf {K : PySem.W.Frag} {h : Heap} (_ : K.In h) : PySem.W.Frag := K
theorem walk_of {l : PySem.W.OpenLaw} {n k : Nat} {q : Program} {loose : List Str} {XP : (Str → Option Value) → Heap → Prop} {YP : World → Heap → Prop} {d : DefRec} {K : Params → PySem.W.Frag} {CX : World → CXT} {sp : World → Sp} {x : Str}
    (hn : l.most = some n) (hn2 : n ≤ sizeLine) (hdf : d.params.defaults = []) (hr : Room k callerA)
    (hY : ∀ (w : World) (h : Heap), YP w h → (K w.params).In h)
    (F : ∀ (w : World) (mg : Str → Option Value) (fa : Addr) (h : Heap), (K w.params).In h → h.Ns mainGlobals mg → mg d.name = some (.ref fa) →
      ∃ fd : FuncData, (∀ (s : Shared) (u : Value), BindsTo s fd ⟨[u], []⟩ [(x, u)]) ∧
        ∀ base : Heap, (K w.params).In base → base.Ns mainGlobals mg → FnOk l.prog w (K w.params) mg base (CX w) k fa fd [x] (sp w))
    (hsp : ∀ (w : World) (H : Hp) (a : Addr) (ns : List Int), ns.length ≤ n → Only H → SqL (K w.params) H a (ns.map V.int) → sp w [.ref a] H (fun v _ => v = .bl true) fun _ _ _ => False)
    (hCX : ∀ (w : World) (H : Hp) (s : Shared) (e : Value) (s' : Shared), CX w [] H s (fun _ _ _ => False) e s' → False) :
    PySem.W.WalkO q loose XP YP l.row.toRowW d [] (fun f vs => PySem.call f vs) := by
  refine Att.attach_call hn hdf fun w s₀ s₁ mg mb fa o pm cd doc a vs ns G Y ho hd hcd hmg hobj hints hlen hg => ?_
  have KX := hY w _ Y
  obtain ⟨fd, hb, hF⟩ := F w mg fa _ KX G.T.g hmg
  exact law_call KX G.T.g G.T.b G.T.builtins G.T.nolimit hg hobj hints (Nat.le_trans hlen hn2) hr hF hb (fun H hO hS => hsp w H a ns hlen hO hS) fun H e s' => hCX w H s₁ e s'
end L2
namespace L2
open PySem PySem.Spec PyProof.Rows
noncomputable def inClass (s : Stmt) (j : Nat) : Stmt := match s with
  | .ClassDef _ _ _ body _ _ _ _ _ _ _ => body.getD j (.Pass ⟨0, 0, 0, 0⟩)
  | _ => .Pass ⟨0, 0, 0, 0⟩
noncomputable def defArgs (s : Stmt) : Arguments := match s with
  | .FunctionDef _ a _ _ _ _ _ _ _ _ => a
  | _ => { posonlyargs := [], args := [], vararg := none, kwonlyargs := [], kw_defaults := [], kwarg := none, defaults := [] }
noncomputable def defBody (s : Stmt) : List Stmt := match s with
  | .FunctionDef _ _ b _ _ _ _ _ _ _ => b
  | _ => []
noncomputable def defScope (s : Stmt) : Scope := match s with
  | .FunctionDef _ _ _ _ _ _ sc _ _ _ => sc
  | _ => { kind := .function, names := [], isGenerator := false, isCoroutine := false }
noncomputable abbrev CX0 : CXT := fun _ _ _ _ _ _ => False
noncomputable abbrev E0 : XK := fun _ _ _ => False
theorem pass0 {X : Cx} : Passes CX0 X E0 := fun _ _ _ _ _ _ _ h => h.elim
structure Fun (K : PySem.W.Frag) (x qual : Str) (st : Stmt) (f : Addr) (fd : FuncData) : Prop where
  ex : ∃ (oc : Value) (od : Option Addr) (kV doc pm : Value) (an : Option Addr) (cdv ct : Value) (osl : Array (Option Value)),
    fd = PySem.W.fnOf x qual (defArgs st) (defBody st) (defScope st) .none kV doc pm an cdv ct ∧ K.lookup f = some ⟨oc, od, .func fd, osl⟩ ∧ PySem.W.codeIn K cdv qual = true
  kp : PySem.W.keepIn K (.ref f) = true
section
variable {P : Program} {w : World} {K : PySem.W.Frag} {mg : Str → Option Value} {base : Heap}
theorem Fun.ok {x qual : Str} {st : Stmt} {f : Addr} {fd : FuncData} {N ps : List Str} {k : Nat} {sp : Sp} (F : Fun K x qual st f fd) (S : FnScope N ps (defScope st)) (len : ∀ vs H Q E, sp vs H Q E → vs.length = ps.length)
    (hbody : ∀ (cdv : Value) (A : Around) (outer : List Env) (s : Shared) (H : Hp) (vs : List V) (Q : VK) (E : XK), Room k (A.deeper (envOfC qual (defScope st) s.heap.objs.size f cdv)) → sp vs H Q E →
      ∃ t, PSs (cxOf CX0 P w K mg base N qual (defScope st) f cdv A outer s H E).nox (defBody st) t ∧ t { nx := fun _ H' => Q .non H', rt := Q } (start N vs) H) : FnOk P w K mg base CX0 (k + 1) f fd ps sp := by
  obtain ⟨oc, od, kV, doc, pm, an, cdv, ct, osl, rfl, lk, hcd⟩ := F.ex
  refine fn_of lk hcd S len fun A outer s H vs Q E hr hsp => ?_
  obtain ⟨t, h, q⟩ := hbody cdv A outer s H vs Q E hr hsp
  exact ⟨t, h.nox, q⟩
theorem Fun.binds {x qual : Str} {st : Stmt} {f : Addr} {fd : FuncData} {ps : List Str} (F : Fun K x qual st f fd)
    (h : ∀ (kV doc pm : Value) (an : Option Addr) (cdv ct : Value) (us : List Value), us.length = ps.length → bindArgs (PySem.W.fnOf x qual (defArgs st) (defBody st) (defScope st) .none kV doc pm an cdv ct) ⟨us, []⟩ = pure (ps.zip us)) : Binds K fd ps [] := by
  obtain ⟨oc, od, kV, doc, pm, an, cdv, ct, osl, rfl, lk, hcd⟩ := F.ex
  exact .all (h kV doc pm an cdv ct)
theorem fun_mk {x qual : Str} {st : Stmt} {f : Addr} {oc : Value} {od an : Option Addr} {osl : Array (Option Value)} {kV doc pm cdv ct : Value} (l : K.lookup f = some ⟨oc, od, .func (PySem.W.fnOf x qual (defArgs st) (defBody st) (defScope st) .none kV doc pm an cdv ct), osl⟩)
    (c : PySem.W.codeIn K cdv qual = true) (k : PySem.W.keepIn K (.ref f) = true) : Fun K x qual st f (PySem.W.fnOf x qual (defArgs st) (defBody st) (defScope st) .none kV doc pm an cdv ct) := ⟨⟨oc, od, kV, doc, pm, an, cdv, ct, osl, rfl, l, c⟩, k⟩
end
section
variable {X : Cx}
theorem pv (i : Nat) {x : Str} {pos : Pos} (hN : X.N[i]? = some x := by rfl) (hv : Vis X.env.scope x := by first | exact Or.inl rfl | exact Or.inr (Or.inl rfl) | exact Or.inr (Or.inr rfl)) (hd : (x == ("__debug__" : Str)) = false := by decide)
    (hcd : (x == ("__classdict__" : Str)) = false := by decide) : PE X (.Name x pos) (tVar i) := pe_var hN hv hd hcd
end
theorem iteT {A B : Prop} (h : A) : if true = true then A else B := by
  rw [if_pos rfl]
  exact h
theorem ite2 {c A B : Prop} [Decidable c] (h1 : c → A) (h2 : ¬ c → B) : if c then A else B := by
  by_cases h : c
  · rw [if_pos h]
    exact h1 h
  · rw [if_neg h]
    exact h2 h
noncomputable def Same (H H' : Hp) : Prop := ∀ b o, H b = some o → H' b = some o
theorem Same.refl (H : Hp) : Same H H := fun _ _ h => h
theorem Same.trans {H H1 H2 : Hp} (a : Same H H1) (b : Same H1 H2) : Same H H2 := fun c o h => b c o (a c o h)
theorem Same.free {H H' : Hp} (e : Same H H') {l : Addr} (h : H' l = Option.none) : H l = Option.none := by
  cases q : H l with
  | none => rfl
  | some o =>
    rw [e l o q] at h
    cases h
theorem Same.seq {K : PySem.W.Frag} {H H' : Hp} {a : Addr} {xs : List V} (e : Same H H') (h : SqL K H a xs) : SqL K H' a xs := by
  rcases h with (h | ⟨o, h⟩) | h
  · exact .inl (.inl (e _ _ h))
  · exact .inl (.inr ⟨o, e _ _ h⟩)
  · exact .inr h
end L2
set_option Elab.async false
set_option linter.all false
namespace SD
theorem ln_1 {α : Type} {l : List α} (h : l.length = 1) : ∃ a, l = [a] := by
  cases l with
  | nil => cases h
  | cons a l =>
    cases l with
    | nil => exact ⟨a, rfl⟩
    | cons b l => cases h
theorem ln_s {α : Type} {n : Nat} {l : List α} (h : l.length = n + 1) : ∃ a r, l = a :: r ∧ r.length = n := by
  cases l with
  | nil => cases h
  | cons a l => exact ⟨a, l, rfl, Nat.succ.inj h⟩
theorem ln_2 {α : Type} {l : List α} (h : l.length = 2) : ∃ a b, l = [a, b] := by
  obtain ⟨a, r, rfl, h2⟩ := ln_s h
  obtain ⟨b, rfl⟩ := ln_1 h2
  exact ⟨a, b, rfl⟩
theorem ln_3 {α : Type} {l : List α} (h : l.length = 3) : ∃ a b c, l = [a, b, c] := by
  obtain ⟨a, r, rfl, h2⟩ := ln_s h
  obtain ⟨b, c, rfl⟩ := ln_2 h2
  exact ⟨a, b, c, rfl⟩
end SD
set_option Elab.async false
set_option linter.all false
set_option maxRecDepth 100000
namespace SD
open PySem PySem.Spec PyProof.Rows L2
inductive D where
  | non | bl (b : Bool) | int (i : Int) | str (x : Str) | ty (n : String) | ref (a : Addr) | rol (ds : List D) | tup (ds : List D)
noncomputable def SqF (K : PySem.W.Frag) (H : Hp) (a : Addr) (xs : List V) : Prop :=
  (∃ o, H a = some (.frz o (.lst xs))) ∨
    ∃ (o : Obj) (its : Array Value) (n : Nat), K.lookup a = some o ∧ o.cls = .type "list" ∧ o.dict = none ∧ o.data = .seq its n ∧ its.size ≤ sizeLine ∧ Vals xs its.toList
theorem SqF.sql {K : PySem.W.Frag} {H : Hp} {a : Addr} {xs : List V} (h : SqF K H a xs) : SqL K H a xs := by
  rcases h with h | h
  · exact .inl (.inr h)
  · exact .inr h
mutual
noncomputable def Rep (K : PySem.W.Frag) (H : Hp) : D → V → Prop
  | .non, v => v = .non
  | .bl b, v => v = .bl b
  | .int i, v => v = .int i
  | .str x, v => v = .str x
  | .ty n, v => v = .ty n
  | .ref a, v => v = .ref a
  | .rol ds, v => ∃ a xs, v = .ref a ∧ SqF K H a xs ∧ Reps K H ds xs
  | .tup ds, v => ∃ a xs, v = .ref a ∧ SqT K H a xs ∧ Reps K H ds xs
noncomputable def Reps (K : PySem.W.Frag) (H : Hp) : List D → List V → Prop
  | [], xs => xs = []
  | d :: ds, xs => ∃ x r, xs = x :: r ∧ Rep K H d x ∧ Reps K H ds r
end
structure Grow (K : PySem.W.Frag) (H H' : Hp) : Prop where
  t : ∀ a xs, SqT K H a xs → SqT K H' a xs
  f : ∀ a xs, SqF K H a xs → SqF K H' a xs
theorem Grow.refl {K : PySem.W.Frag} {H : Hp} : Grow K H H := ⟨fun _ _ h => h, fun _ _ h => h⟩
theorem Grow.trans {K : PySem.W.Frag} {H H1 H2 : Hp} (a : Grow K H H1) (b : Grow K H1 H2) : Grow K H H2 := ⟨fun x y h => b.t x y (a.t x y h), fun x y h => b.f x y (a.f x y h)⟩
theorem Grow.put {K : PySem.W.Frag} {H : Hp} {p : Addr} {o : HO} (h1 : ∀ xs, H p ≠ some (.tup xs)) (h2 : ∀ u xs, H p ≠ some (.frz u xs)) : Grow K H (upd H p o) := by
  refine ⟨fun a xs h => ?_, fun a xs h => ?_⟩
  · rcases h with (h | ⟨u, h⟩) | h
    · exact .inl (.inl (by rw [upd_ne (by intro e; subst e; exact h1 _ h)]; exact h))
    · exact .inl (.inr ⟨u, by rw [upd_ne (by intro e; subst e; exact h2 _ _ h)]; exact h⟩)
    · exact .inr h
  · rcases h with ⟨u, h⟩ | h
    · exact .inl ⟨u, by rw [upd_ne (by intro e; subst e; exact h2 _ _ h)]; exact h⟩
    · exact .inr h
theorem Grow.new {K : PySem.W.Frag} {H : Hp} {p : Addr} {o : HO} (h : H p = none) : Grow K H (upd H p o) :=
  .put (fun xs e => by rw [h] at e; cases e) (fun u xs e => by rw [h] at e; cases e)
theorem Grow.lst {K : PySem.W.Frag} {H : Hp} {p : Addr} {o : HO} {xs : List V} (h : H p = some (.lst xs)) : Grow K H (upd H p o) :=
  .put (fun ys e => by rw [h] at e; cases e) (fun u ys e => by rw [h] at e; cases e)
mutual
theorem Rep.mono {K : PySem.W.Frag} {H H' : Hp} (g : Grow K H H') : ∀ {d : D} {v : V}, Rep K H d v → Rep K H' d v
  | .non, _, h => h
  | .bl _, _, h => h
  | .int _, _, h => h
  | .str _, _, h => h
  | .ty _, _, h => h
  | .ref _, _, h => h
  | .rol ds, _, h => by
    rw [Rep] at h ⊢
    obtain ⟨a, xs, e, h1, h2⟩ := h
    exact ⟨a, xs, e, g.f _ _ h1, Reps.mono g h2⟩
  | .tup ds, _, h => by
    rw [Rep] at h ⊢
    obtain ⟨a, xs, e, h1, h2⟩ := h
    exact ⟨a, xs, e, g.t _ _ h1, Reps.mono g h2⟩
theorem Reps.mono {K : PySem.W.Frag} {H H' : Hp} (g : Grow K H H') : ∀ {ds : List D} {xs : List V}, Reps K H ds xs → Reps K H' ds xs
  | [], _, h => h
  | d :: ds, _, h => by
    rw [Reps] at h ⊢
    obtain ⟨x, r, e, h1, h2⟩ := h
    exact ⟨x, r, e, Rep.mono g h1, Reps.mono g h2⟩
end
section
variable {K : PySem.W.Frag} {H H' : Hp}
theorem Reps.nil : Reps K H [] [] := by rw [Reps]
theorem Reps.cons {d : D} {ds : List D} {x : V} {r : List V} (a : Rep K H d x) (b : Reps K H ds r) : Reps K H (d :: ds) (x :: r) := by rw [Reps]; exact ⟨x, r, rfl, a, b⟩
theorem Reps.length : ∀ {ds : List D} {xs : List V}, Reps K H ds xs → ds.length = xs.length
  | [], xs, h => by rw [Reps] at h; subst h; rfl
  | d :: ds, xs, h => by
    rw [Reps] at h
    obtain ⟨x, r, rfl, _, h2⟩ := h
    simp [Reps.length h2]
theorem Reps.get : ∀ {ds : List D} {xs : List V} {i : Nat} {d : D}, Reps K H ds xs → ds[i]? = some d → ∃ x, xs[i]? = some x ∧ Rep K H d x
  | [], _, _, _, _, e => by simp at e
  | _ :: _, xs, 0, _, h, e => by
    rw [Reps] at h
    obtain ⟨x, r, rfl, h1, _⟩ := h
    simp at e; subst e
    exact ⟨x, rfl, h1⟩
  | _ :: ds, xs, i + 1, d, h, e => by
    rw [Reps] at h
    obtain ⟨x, r, rfl, _, h2⟩ := h
    simpa using Reps.get (i := i) (d := d) h2 (by simpa using e)
theorem Reps.set {d : D} {x : V} (a : Rep K H d x) : ∀ {ds : List D} {xs : List V} (i : Nat), Reps K H ds xs → Reps K H (ds.set i d) (xs.set i x)
  | [], _, _, h => by rw [Reps] at h; subst h; simp [Reps.nil]
  | _ :: _, _, 0, h => by
    rw [Reps] at h
    obtain ⟨y, r, rfl, _, h2⟩ := h
    exact .cons a h2
  | _ :: ds, _, i + 1, h => by
    rw [Reps] at h
    obtain ⟨y, r, rfl, h1, h2⟩ := h
    exact .cons h1 (Reps.set a i h2)
theorem Reps.append : ∀ {ds es : List D} {xs ys : List V}, Reps K H ds xs → Reps K H es ys → Reps K H (ds ++ es) (xs ++ ys)
  | [], _, _, _, h, k => by rw [Reps] at h; subst h; exact k
  | _ :: ds, _, _, _, h, k => by
    rw [Reps] at h
    obtain ⟨y, r, rfl, h1, h2⟩ := h
    exact .cons h1 (Reps.append h2 k)
theorem Reps.of_get : ∀ {ds : List D} {xs : List V}, ds.length = xs.length → (∀ (i : Nat) d x, ds[i]? = some d → xs[i]? = some x → Rep K H d x) → Reps K H ds xs
  | [], [], _, _ => .nil
  | [], _ :: _, h, _ => by simp at h
  | _ :: _, [], h, _ => by simp at h
  | d :: ds, x :: xs, h, k => .cons (k 0 d x rfl rfl) (Reps.of_get (by simpa using h) fun i d x a b => k (i + 1) d x (by simpa using a) (by simpa using b))
theorem Reps.take {ds : List D} {xs : List V} (n : Nat) (h : Reps K H ds xs) : Reps K H (ds.take n) (xs.take n) := by
  refine .of_get (by simp [h.length]) fun i d x a b => ?_
  have hi : i < n := by
    rw [List.getElem?_take] at a
    split at a
    · assumption
    · cases a
  rw [List.getElem?_take_of_lt hi] at a b
  obtain ⟨y, e, r⟩ := h.get a
  rw [e] at b; cases b
  exact r
theorem Reps.drop {ds : List D} {xs : List V} (n : Nat) (h : Reps K H ds xs) : Reps K H (ds.drop n) (xs.drop n) := by
  refine .of_get (by simp [h.length]) fun i d x a b => ?_
  rw [List.getElem?_drop] at a b
  obtain ⟨y, e, r⟩ := h.get a
  rw [e] at b; cases b
  exact r
theorem reps_ints : ∀ (ns : List Int), Reps K H (ns.map D.int) (ns.map V.int)
  | [] => .nil
  | n :: ns => .cons (by rw [Rep]) (reps_ints ns)
end
noncomputable def errF (a C : Addr) : Heap → Prop := fun h => ∃ o, h.get? a = some o ∧ o.cls = .ref C
inductive MO where
  | lst (ds : List D) | err (C : Addr)
  | dct (n : Nat) (P : List Int → Bool)
  | gen (A : PySem.W.Frag → Hp → Addr → Prop)
noncomputable abbrev MH := Addr → Option MO
noncomputable def AbsO (K : PySem.W.Frag) (H : Hp) (a : Addr) : MO → Prop
  | .lst ds => ∃ xs, H a = some (.lst xs) ∧ Reps K H ds xs
  | .err C => H a = some (.ext (errF a C))
  | .dct n P => ∃ kvs : List (List Key × V), H a = some (.dT kvs) ∧ kvs.length ≤ n ∧ ∀ k : List Int, (kvs.any fun kv => decide (kv.1 = k.map Sum.inl)) = P k
  | .gen A => A K H a ∧ H a ≠ none ∧ ∀ H', Grow K H H' → H' a = H a → A K H' a
noncomputable def Abs (K : PySem.W.Frag) (H : Hp) (M : MH) : Prop := ∀ a o, M a = some o → AbsO K H a o
noncomputable def updM (M : MH) (a : Addr) (o : MO) : MH := fun b => if b = a then some o else M b
theorem updM_same {M : MH} {a : Addr} {o : MO} : updM M a o a = some o := by unfold updM; rw [if_pos rfl]
theorem updM_ne {M : MH} {a b : Addr} {o : MO} (h : b ≠ a) : updM M a o b = M b := by unfold updM; rw [if_neg h]
theorem updM_updM {M : MH} {a : Addr} {o u : MO} : updM (updM M a o) a u = updM M a u := by
  funext b; unfold updM; split <;> rfl
section
variable {K : PySem.W.Frag} {H H' : Hp} {M : MH}
theorem AbsO.some {a : Addr} {o : MO} (h : AbsO K H a o) : H a ≠ none := by
  cases o with
  | lst ds =>
    obtain ⟨xs, h1, _⟩ := h
    rw [h1]; simp
  | err C => rw [show H a = _ from h]; simp
  | dct n P =>
    obtain ⟨kvs, h1, _⟩ := h
    rw [h1]; simp
  | gen A => exact h.2.1
theorem Abs.fresh (h : Abs K H M) {p : Addr} (hp : H p = none) : M p = none := by
  cases e : M p with
  | none => rfl
  | some o => exact absurd hp (h p o e).some
theorem AbsO.stay {a : Addr} {o : MO} (g : Grow K H H') (e : H' a = H a) (h : AbsO K H a o) : AbsO K H' a o := by
  cases o with
  | lst ds =>
    obtain ⟨xs, h1, h2⟩ := h
    exact ⟨xs, e.trans h1, h2.mono g⟩
  | err C => exact e.trans h
  | dct n P =>
    obtain ⟨kvs, h1, h2⟩ := h
    exact ⟨kvs, e.trans h1, h2⟩
  | gen A => exact ⟨h.2.2 H' g e, fun z => h.2.1 (by rw [← e]; exact z), fun H2 g2 e2 => h.2.2 H2 (g.trans g2) (e2.trans e)⟩
theorem Abs.new {p : Addr} {o : HO} (h : Abs K H M) (hp : H p = none) : Abs K (upd H p o) M := fun a u e => by
  have ne : a ≠ p := fun z => by subst z; rw [h.fresh hp] at e; cases e
  exact (h a u e).stay (.new hp) (upd_ne ne)
theorem Abs.newL {p : Addr} {xs : List V} {ds : List D} (h : Abs K H M) (hp : H p = none) (r : Reps K H ds xs) : Abs K (upd H p (.lst xs)) (updM M p (.lst ds)) := fun a u e => by
  by_cases ne : a = p
  · subst ne
    rw [updM_same] at e; cases e
    exact ⟨xs, upd_same, r.mono (.new hp)⟩
  · rw [updM_ne ne] at e
    exact (h a u e).stay (.new hp) (upd_ne ne)
theorem Abs.setL {p : Addr} {xs ys : List V} {ds : List D} (h : Abs K H M) (hp : H p = some (.lst xs)) (r : Reps K H ds ys) : Abs K (upd H p (.lst ys)) (updM M p (.lst ds)) := fun a u e => by
  by_cases ne : a = p
  · subst ne
    rw [updM_same] at e; cases e
    exact ⟨ys, upd_same, r.mono (.lst hp)⟩
  · rw [updM_ne ne] at e
    exact (h a u e).stay (.lst hp) (upd_ne ne)
theorem Abs.sub {M' : MH} (h : Abs K H M) (s : ∀ a o, M' a = some o → M a = some o) : Abs K H M' := fun a o e => h a o (s a o e)
end
noncomputable abbrev DS := List (Option D)
structure Slots (K : PySem.W.Frag) (H : Hp) (δ : DS) (σ : L2.St) : Prop where
  len : δ.length = σ.length
  at' : ∀ (i : Nat) d, δ[i]? = some (some d) → ∃ v, σ[i]? = some (some v) ∧ Rep K H d v
section
variable {K : PySem.W.Frag} {H H' : Hp} {δ : DS} {σ : L2.St}
theorem Slots.mono (g : Grow K H H') (h : Slots K H δ σ) : Slots K H' δ σ := ⟨h.len, fun i d e => let ⟨v, a, b⟩ := h.at' i d e; ⟨v, a, b.mono g⟩⟩
theorem Slots.set {d : D} {v : V} (r : Rep K H d v) (i : Nat) (h : Slots K H δ σ) : Slots K H (δ.set i (some d)) (σ.set i (some v)) := by
  refine ⟨by simp [h.len], fun j e q => ?_⟩
  rw [List.getElem?_set] at q
  by_cases hij : i = j
  · subst hij
    rw [if_pos rfl] at q
    by_cases hl : i < δ.length
    · rw [if_pos hl] at q
      cases q
      exact ⟨v, by rw [List.getElem?_set, if_pos rfl, if_pos (by rw [← h.len]; exact hl)], r⟩
    · rw [if_neg hl] at q; cases q
  · rw [if_neg hij] at q
    obtain ⟨v', e1, e2⟩ := h.at' j e q
    exact ⟨v', by rw [List.getElem?_set, if_neg hij]; exact e1, e2⟩
theorem slots_start {N : List Str} {ds : List D} {vs : List V} (r : Reps K H ds vs) : Slots K H (ds.map some ++ List.replicate (N.length - ds.length) none) (L2.start N vs) := by
  have hl := r.length
  refine ⟨by unfold L2.start; simp [hl], fun i d e => ?_⟩
  unfold L2.start
  by_cases hi : i < ds.length
  · rw [List.getElem?_append_left (by simpa using hi), List.getElem?_map] at e
    cases q : ds[i]? with
    | none => rw [q] at e; cases e
    | some d' =>
      rw [q] at e; cases e
      obtain ⟨x, e1, e2⟩ := r.get q
      refine ⟨x, ?_, e2⟩
      rw [List.getElem?_append_left (by simp; omega), List.getElem?_map, e1]; rfl
  · rw [List.getElem?_append_right (by simpa using hi), List.getElem?_replicate] at e
    split at e <;> cases e
end
noncomputable abbrev DK := D → MH → Prop
noncomputable abbrev TD := DS → MH → DK → Prop
noncomputable abbrev TTD := DS → MH → (Bool → MH → Prop) → Prop
noncomputable abbrev TAD := DS → MH → (List D → MH → Prop) → Prop
structure EndsD where
  nx : DS → MH → Prop
  rt : DK
  bk : DS → MH → Prop := fun _ _ => False
  ct : DS → MH → Prop := fun _ _ => False
noncomputable abbrev TSD := EndsD → DS → MH → Prop
section
variable (K : PySem.W.Frag)
noncomputable def Fin (H : Hp) (R : DK) (Q : VK) : Prop := ∀ d M' v H', Grow K H H' → Rep K H' d v → Abs K H' M' → R d M' → Q v H'
noncomputable def FinT (H : Hp) (R : Bool → MH → Prop) (Q : Bool → Hp → Prop) : Prop := ∀ b M' H', Grow K H H' → Abs K H' M' → R b M' → Q b H'
noncomputable def FinA (H : Hp) (R : List D → MH → Prop) (Q : List V → Hp → Prop) : Prop := ∀ ds M' vs H', Grow K H H' → Reps K H' ds vs → Abs K H' M' → R ds M' → Q vs H'
noncomputable def lift (t : TD) : TE := fun σ H Q => ∃ δ M R, Slots K H δ σ ∧ Abs K H M ∧ t δ M R ∧ Fin K H R Q
noncomputable def liftT (t : TTD) : TT := fun σ H Q => ∃ δ M R, Slots K H δ σ ∧ Abs K H M ∧ t δ M R ∧ FinT K H R Q
noncomputable def liftA (t : TAD) : TA := fun σ H Q => ∃ δ M R, Slots K H δ σ ∧ Abs K H M ∧ t δ M R ∧ FinA K H R Q
structure EndsOk (H : Hp) (B : EndsD) (E : Ends) : Prop where
  nx : ∀ δ M σ H', Grow K H H' → Slots K H' δ σ → Abs K H' M → B.nx δ M → E.nx σ H'
  rt : ∀ d M v H', Grow K H H' → Rep K H' d v → Abs K H' M → B.rt d M → E.rt v H'
  bk : ∀ δ M σ H', Grow K H H' → Slots K H' δ σ → Abs K H' M → B.bk δ M → E.bk σ H'
  ct : ∀ δ M σ H', Grow K H H' → Slots K H' δ σ → Abs K H' M → B.ct δ M → E.ct σ H'
noncomputable def liftS (t : TSD) : TS := fun E σ H => ∃ δ M, Slots K H δ σ ∧ Abs K H M ∧ ∃ B, EndsOk K H B E ∧ t B δ M
end
noncomputable def DE (X : Cx) (e : Expr) (t : TD) : Prop := PE X e (lift X.K t)
noncomputable def DT (X : Cx) (e : Expr) (t : TTD) : Prop := PT X e (liftT X.K t)
noncomputable def DW (X : Cx) (e : Expr) (t : TTD) : Prop := PW X e (liftT X.K t)
noncomputable def DA (X : Cx) (es : List Expr) (t : TAD) : Prop := PA X es (liftA X.K t)
noncomputable def DSt (X : Cx) (st : Stmt) (t : TSD) : Prop := PS X st (liftS X.K t)
noncomputable def DSs (X : Cx) (st : List Stmt) (t : TSD) : Prop := PSs X st (liftS X.K t)
theorem pe_imp {X : Cx} {e : Expr} {t t' : TE} (h : PE X e t) (k : ∀ σ H Q, t' σ H Q → t σ H Q) : PE X e t' := fun pins s σ H Q I q => h pins s σ H Q I (k σ H Q q)
theorem pt_imp {X : Cx} {e : Expr} {t t' : TT} (h : PT X e t) (k : ∀ σ H Q, t' σ H Q → t σ H Q) : PT X e t' := fun pins s σ H Q I q => h pins s σ H Q I (k σ H Q q)
theorem pw_imp {X : Cx} {e : Expr} {t t' : TT} (h : PW X e t) (k : ∀ σ H Q, t' σ H Q → t σ H Q) : PW X e t' := fun wh pins s σ H Q I q => h wh pins s σ H Q I (k σ H Q q)
theorem pa_imp {X : Cx} {e : List Expr} {t t' : TA} (h : PA X e t) (k : ∀ σ H Q, t' σ H Q → t σ H Q) : PA X e t' := fun pos pins s σ H Q I q => h pos pins s σ H Q I (k σ H Q q)
theorem ps_imp {X : Cx} {e : Stmt} {t t' : TS} (h : PS X e t) (k : ∀ D σ H, t' D σ H → t D σ H) : PS X e t' := fun pins s σ H D I q => h pins s σ H D I (k D σ H q)
theorem pss_imp {X : Cx} {e : List Stmt} {t t' : TS} (h : PSs X e t) (k : ∀ D σ H, t' D σ H → t D σ H) : PSs X e t' := fun pins s σ H D I q => h pins s σ H D I (k D σ H q)
end SD
set_option Elab.async false
set_option linter.all false
set_option maxRecDepth 100000
namespace SD
open PySem PySem.Spec PyProof.Rows L2
section
variable {K : PySem.W.Frag} {H H1 H' : Hp}
theorem Fin.go {R : DK} {Q : VK} (g : Grow K H H1) (h : Fin K H R Q) : Fin K H1 R Q := fun d M v H' g' => h d M v H' (g.trans g')
theorem FinT.go {R : Bool → MH → Prop} {Q : Bool → Hp → Prop} (g : Grow K H H1) (h : FinT K H R Q) : FinT K H1 R Q := fun b M H' g' => h b M H' (g.trans g')
theorem FinA.go {R : List D → MH → Prop} {Q : List V → Hp → Prop} (g : Grow K H H1) (h : FinA K H R Q) : FinA K H1 R Q := fun d M v H' g' => h d M v H' (g.trans g')
theorem EndsOk.go {B : EndsD} {E : Ends} (g : Grow K H H1) (h : EndsOk K H B E) : EndsOk K H1 B E :=
  ⟨fun d M v H' g' => h.nx d M v H' (g.trans g'), fun d M v H' g' => h.rt d M v H' (g.trans g'), fun d M v H' g' => h.bk d M v H' (g.trans g'), fun d M v H' g' => h.ct d M v H' (g.trans g')⟩
end
section
variable {X : Cx}
inductive tVarD (i : Nat) (δ : DS) (M : MH) (Q : DK) : Prop
  | mk (d : D) (h : δ[i]? = some (some d)) (q : Q d M) : tVarD i δ M Q
noncomputable def tCD (d : D) : TD := fun _ M Q => Q d M
theorem dv (i : Nat) {x : Str} {pos : Pos} (hN : X.N[i]? = some x := by rfl) (hv : Vis X.env.scope x := by first | exact Or.inl rfl | exact Or.inr (Or.inl rfl) | exact Or.inr (Or.inr rfl)) (hd : (x == ("__debug__" : Str)) = false := by decide)
    (hcd : (x == ("__classdict__" : Str)) = false := by decide) : DE X (.Name x pos) (tVarD i) :=
  pe_imp (pe_var hN hv hd hcd) fun σ H Q z9 => by
    obtain ⟨δ, M, R, hs, hM, ⟨d, e, r⟩, fin⟩ := z9
    obtain ⟨v, e1, e2⟩ := hs.at' i d e
    exact ⟨v, e1, fin d M v H .refl e2 hM r⟩
theorem dc {e : Expr} {v : V} {d : D} (h : PE X e (tC v)) (r : ∀ H, Rep X.K H d v) : DE X e (tCD d) :=
  pe_imp h fun σ H Q zz1_0 => by obtain ⟨δ, M, R, hs, hM, q, fin⟩ := zz1_0; exact (fin d M v H .refl (r H) hM q)
theorem de_int {i j pos} : DE X (.Constant (.int i) j pos) (tCD (.int i)) := dc pe_int fun _ => by rw [Rep]
theorem de_bl {i j pos} : DE X (.Constant (.bool i) j pos) (tCD (.bl i)) := dc pe_bl fun _ => by rw [Rep]
theorem de_non {j pos} : DE X (.Constant .none j pos) (tCD .non) := dc pe_non fun _ => by rw [Rep]
theorem de_str {x j pos} : DE X (.Constant (.str x) j pos) (tCD (.str x)) := dc pe_str fun _ => by rw [Rep]
theorem de_ty {x : Str} {n : String} {pos : Pos} (hg : Gl X x) (hm : X.mg x = none) (hv : bootBuiltins x = some (.type n)) (hn : x ≠ "__name__" := by decide) (hd : (x == ("__debug__" : Str)) = false := by decide) : DE X (.Name x pos) (tCD (.ty n)) :=
  dc (pe_bltn (v := .ty n) hg hm hv rfl hn hd) fun _ => by rw [Rep]
end
noncomputable abbrev R2D := D → D → MH → DK → Prop
noncomputable def liftR2 (K : PySem.W.Frag) (r : R2D) : R2 := fun v u H Q => ∃ x y M R, Rep K H x v ∧ Rep K H y u ∧ Abs K H M ∧ r x y M R ∧ Fin K H R Q
noncomputable def OpD (X : Cx) (f : Value → Value → Sem Value) (r : R2D) : Prop := OpR X f (liftR2 X.K r)
noncomputable def tOpD (r : R2D) (ta tb : TD) : TD := fun δ M Q => ta δ M fun x M1 => tb δ M1 fun y M2 => r x y M2 Q
theorem op_imp {X : Cx} {f : Value → Value → Sem Value} {r r' : R2} (h : OpR X f r) (k : ∀ x y H Q, r' x y H Q → r x y H Q) : OpR X f r' := fun pins s σ H x y v u Q I a b q => h pins s σ H x y v u Q I a b (k _ _ _ _ q)
theorem lift_op {K : PySem.W.Frag} {r : R2D} {ta tb : TD} {σ : L2.St} {H : Hp} {Q : VK} (h : lift K (tOpD r ta tb) σ H Q) : tOp (liftR2 K r) (lift K ta) (lift K tb) σ H Q := by
  obtain ⟨δ, M, R, hs, hM, q, fin⟩ := h
  refine ⟨δ, M, _, hs, hM, q, fun x M1 v H1 g1 r1 a1 q1 => ?_⟩
  exact ⟨δ, M1, _, hs.mono g1, a1, q1, fun y M2 u H2 g2 r2 a2 q2 => ⟨x, y, M2, R, r1.mono g2, r2, a2, q2, fin.go (g1.trans g2)⟩⟩
section
variable {X : Cx} {a b : Expr} {ta tb : TD} {pos : Pos}
theorem de_op {op : Operator} {r : R2D} (ho : OpD X (binaryOp op) r) (ha : DE X a ta) (hb : DE X b tb) : DE X (.BinOp a op b pos) (tOpD r ta tb) := pe_imp (pe_op ho ha hb) fun _ _ _ h => lift_op h
theorem de_cmp {op : CmpOp} {r : R2D} (ho : OpD X (compareOp op) r) (ha : DE X a ta) (hb : DE X b tb) (hm : behindInMarks op b = false := by exact nomark _) : DE X (.Compare a [op] [b] pos) (tOpD r ta tb) := pe_imp (pe_cmpR ho ha hb hm) fun _ _ _ h => lift_op h
inductive IsBl (x : D) (M : MH) (Q : Bool → MH → Prop) : Prop
  | mk (c : Bool) (h : x = .bl c) (q : Q c M) : IsBl x M Q
noncomputable def tBD (t : TD) : TTD := fun δ M Q => t δ M fun x M1 => IsBl x M1 Q
theorem lift_test {K : PySem.W.Frag} {t : TD} {t' : TE} (ht : ∀ σ H Q, lift K t σ H Q → t' σ H Q) {σ : L2.St} {H : Hp} {Q : Bool → Hp → Prop} (h : liftT K (tBD t) σ H Q) : tTest t' σ H Q := by
  obtain ⟨δ, M, R, hs, hM, q, fin⟩ := h
  refine ht _ _ _ ⟨δ, M, _, hs, hM, q, fun x M1 v H1 g1 r1 a1 zz2_0 => ?_⟩
  obtain ⟨c, e, q1⟩ := zz2_0
  subst e
  rw [Rep] at r1
  exact ⟨c, r1, fin c M1 H1 g1 a1 q1⟩
theorem dt_cmp {op : CmpOp} {r : R2D} (ho : OpD X (compareOp op) r) (ha : DE X a ta) (hb : DE X b tb) (hm : behindInMarks op b = false := by exact nomark _) : DT X (.Compare a [op] [b] pos) (tBD (tOpD r ta tb)) :=
  pt_imp (pt_cmpR ho ha hb hm) fun _ _ _ h => lift_test (fun _ _ _ h => lift_op h) h
theorem dt_val {e : Expr} {t : TD} (h : DE X e t) (he : ∀ whole, isTrue e X.env whole = (do let v ← whole; standAt e.pos; holding [v] (truthy v)) := by intro _; rfl) : DT X e (tBD t) :=
  pt_imp (pt_val h he) fun _ _ _ h => lift_test (t' := lift X.K t) (fun _ _ _ h => h) h
end
section
variable {X : Cx} {a b c : Expr} {ta tb : TD} {tA tB' : TTD} {rest : List Expr} {pos : Pos}
noncomputable def tAndD (t u : TTD) : TTD := fun δ M Q => t δ M fun c M1 => if c = true then u δ M1 Q else Q false M1
noncomputable def tOrD (t u : TTD) : TTD := fun δ M Q => t δ M fun c M1 => if c = true then Q true M1 else u δ M1 Q
noncomputable def tNotD (t : TTD) : TTD := fun δ M Q => t δ M fun c M1 => Q (!c) M1
theorem dw_and1 (ha : DT X a tA) : DW X (.BoolOp .And [a] pos) tA := pw_and1 ha
theorem dw_or1 (ha : DT X a tA) : DW X (.BoolOp .Or [a] pos) tA := pw_or1 ha
theorem dw_and (ha : DT X a tA) (hb : DW X (.BoolOp .And (b :: rest) pos) tB') : DW X (.BoolOp .And (a :: b :: rest) pos) (tAndD tA tB') :=
  pw_imp (pw_and ha hb) fun σ H Q zz3_0 => by obtain ⟨δ, M, R, hs, hM, q, fin⟩ := zz3_0; exact (⟨δ, M, _, hs, hM, q, fun c M1 H1 g1 a1 q1 => by
    cases c with
    | true => rw [if_pos rfl] at q1 ⊢; exact ⟨δ, M1, R, hs.mono g1, a1, q1, fin.go g1⟩
    | false => rw [if_neg Bool.false_ne_true] at q1 ⊢; exact fin _ _ _ g1 a1 q1⟩)
theorem dw_or (ha : DT X a tA) (hb : DW X (.BoolOp .Or (b :: rest) pos) tB') : DW X (.BoolOp .Or (a :: b :: rest) pos) (tOrD tA tB') :=
  pw_imp (pw_or ha hb) fun σ H Q zz4_0 => by obtain ⟨δ, M, R, hs, hM, q, fin⟩ := zz4_0; exact (⟨δ, M, _, hs, hM, q, fun c M1 H1 g1 a1 q1 => by
    cases c with
    | true => rw [if_pos rfl] at q1 ⊢; exact fin _ _ _ g1 a1 q1
    | false => rw [if_neg Bool.false_ne_true] at q1 ⊢; exact ⟨δ, M1, R, hs.mono g1, a1, q1, fin.go g1⟩⟩)
theorem dt_w {e : Expr} {t : TTD} (h : DW X e t) : DT X e t := PW.pt h
theorem dt_not (ha : DT X a tA) : DT X (.UnaryOp .Not a pos) (tNotD tA) :=
  pt_imp (pt_not ha) fun σ H Q zz5_0 => by obtain ⟨δ, M, R, hs, hM, q, fin⟩ := zz5_0; exact (⟨δ, M, _, hs, hM, q, fun c M1 H1 g1 a1 q1 => fin _ _ _ g1 a1 q1⟩)
noncomputable def tAndVD (ta tb : TD) : TD := fun δ M Q => ta δ M fun x M1 => IsBl x M1 fun c M1 => if c = true then tb δ M1 Q else Q (.bl false) M1
noncomputable def tOrVD (ta tb : TD) : TD := fun δ M Q => ta δ M fun x M1 => IsBl x M1 fun c M1 => if c = true then Q (.bl true) M1 else tb δ M1 Q
noncomputable def tNotVD (ta : TD) : TD := fun δ M Q => ta δ M fun x M1 => IsBl x M1 fun c M1 => Q (.bl (!c)) M1
theorem de_one {op} {t : TD} (h : DE X a t) : DE X (.BoolOp op [a] pos) t := pe_one h
theorem de_and (ha : DE X a ta) (hb : DE X (.BoolOp .And (b :: rest) pos) tb) : DE X (.BoolOp .And (a :: b :: rest) pos) (tAndVD ta tb) :=
  pe_imp (pe_and ha hb) fun σ H Q ⟨δ, M, R, hs, hM, q, fin⟩ => ⟨δ, M, _, hs, hM, q, fun x M1 v H1 g1 r1 a1 z9 => by
    obtain ⟨c, e, q1⟩ := z9
    subst e
    rw [Rep] at r1
    refine ⟨c, r1, ?_⟩
    cases c with
    | true => rw [if_pos rfl] at q1 ⊢; exact ⟨δ, M1, R, hs.mono g1, a1, q1, fin.go g1⟩
    | false => rw [if_neg Bool.false_ne_true] at q1 ⊢; exact fin _ _ _ _ g1 (by rw [Rep]) a1 q1⟩
theorem de_or (ha : DE X a ta) (hb : DE X (.BoolOp .Or (b :: rest) pos) tb) : DE X (.BoolOp .Or (a :: b :: rest) pos) (tOrVD ta tb) :=
  pe_imp (pe_or ha hb) fun σ H Q ⟨δ, M, R, hs, hM, q, fin⟩ => ⟨δ, M, _, hs, hM, q, fun x M1 v H1 g1 r1 a1 z9 => by
    obtain ⟨c, e, q1⟩ := z9
    subst e
    rw [Rep] at r1
    refine ⟨c, r1, ?_⟩
    cases c with
    | true => rw [if_pos rfl] at q1 ⊢; exact fin _ _ _ _ g1 (by rw [Rep]) a1 q1
    | false => rw [if_neg Bool.false_ne_true] at q1 ⊢; exact ⟨δ, M1, R, hs.mono g1, a1, q1, fin.go g1⟩⟩
noncomputable def tIfD (t : TTD) (ta tb : TD) : TD := fun δ M Q => t δ M fun c M1 => if c = true then ta δ M1 Q else tb δ M1 Q
theorem de_ife (hc : DT X c tA) (ha : DE X a ta) (hb : DE X b tb) : DE X (.IfExp c a b pos) (tIfD tA ta tb) :=
  pe_imp (pe_ifExp hc ha hb) fun σ H Q zz7_0 => by obtain ⟨δ, M, R, hs, hM, q, fin⟩ := zz7_0; exact (⟨δ, M, _, hs, hM, q, fun c M1 H1 g1 a1 q1 => by
    cases c with
    | true => rw [if_pos rfl] at q1 ⊢; exact ⟨δ, M1, R, hs.mono g1, a1, q1, fin.go g1⟩
    | false => rw [if_neg Bool.false_ne_true] at q1 ⊢; exact ⟨δ, M1, R, hs.mono g1, a1, q1, fin.go g1⟩⟩)
end
noncomputable def tUnD (r : D → MH → DK → Prop) (ta : TD) : TD := fun δ M Q => ta δ M fun x M1 => r x M1 Q
noncomputable def liftU (K : PySem.W.Frag) (r : D → MH → DK → Prop) : V → Hp → VK → Prop := fun v H Q => ∃ x M R, Rep K H x v ∧ Abs K H M ∧ r x M R ∧ Fin K H R Q
theorem de_un {X : Cx} {a : Expr} {ta : TD} {pos : Pos} {op : UnaryOp} {r : D → MH → DK → Prop} (ho : UnR X (unaryOp op) (liftU X.K r)) (ha : DE X a ta) : DE X (.UnaryOp op a pos) (tUnD r ta) :=
  pe_imp (pe_un ho ha) fun σ H Q zz8_0 => by obtain ⟨δ, M, R, hs, hM, q, fin⟩ := zz8_0; exact (⟨δ, M, _, hs, hM, q, fun x M1 v H1 g1 r1 a1 q1 => ⟨x, M1, R, r1, a1, q1, fin.go g1⟩⟩)
noncomputable def tNilD : TAD := fun _ M Q => Q [] M
noncomputable def tConsD (ta : TD) (tr : TAD) : TAD := fun δ M Q => ta δ M fun x M1 => tr δ M1 fun xs M2 => Q (x :: xs) M2
section
variable {X : Cx} {e : Expr} {es : List Expr} {te : TD} {t : TAD} {pos : Pos}
theorem da_nil : DA X [] tNilD := pa_imp pa_nil fun σ H Q zz9_0 => by obtain ⟨δ, M, R, hs, hM, q, fin⟩ := zz9_0; exact (fin _ _ _ _ .refl .nil hM q)
theorem da_cons (ha : DE X e te) (hr : DA X es t) (hs : starEach (e :: es) X.env = (false, eval e X.env) :: starEach es X.env := by rfl) : DA X (e :: es) (tConsD te t) :=
  pa_imp (pa_cons ha hr hs) fun σ H Q zz10_0 => by obtain ⟨δ, M, R, hs, hM, q, fin⟩ := zz10_0; exact (⟨δ, M, _, hs, hM, q, fun x M1 v H1 g1 r1 a1 q1 =>
    ⟨δ, M1, _, hs.mono g1, a1, q1, fun xs M2 vs H2 g2 r2 a2 q2 => fin _ _ _ _ (g1.trans g2) (.cons (r1.mono g2) r2) a2 q2⟩⟩)
noncomputable def tTupD (t : TAD) : TD := fun δ M Q => t δ M fun xs M1 => xs.length ≤ sizeLine ∧ Q (.tup xs) M1
noncomputable def tLstD (t : TAD) : TD := fun δ M Q => t δ M fun xs M1 => xs.length ≤ sizeLine ∧ ∀ p, M1 p = none → Q (.ref p) (updM M1 p (.lst xs))
theorem de_tup {x1} (h : DA X es t) : DE X (.Tuple es x1 pos) (tTupD t) :=
  pe_imp (pe_tup h) fun σ H Q zz11_0 => by obtain ⟨δ, M, R, hs, hM, q, fin⟩ := zz11_0; exact (⟨δ, M, _, hs, hM, q, fun xs M1 vs H1 g1 r1 a1 zz12_0 => by obtain ⟨z, q1⟩ := zz12_0; exact (⟨by rw [← r1.length]; exact z, fun p hp => fin _ _ _ _ (g1.trans (.new hp)) (by rw [Rep]; exact ⟨p, vs, rfl, SqT.of upd_same, r1.mono (.new hp)⟩) (a1.new hp) q1⟩)⟩)
theorem de_lst (h : DA X es t) : DE X (.List es pos) (tLstD t) :=
  pe_imp (pe_lst h) fun σ H Q zz13_0 => by obtain ⟨δ, M, R, hs, hM, q, fin⟩ := zz13_0; exact (⟨δ, M, _, hs, hM, q, fun xs M1 vs H1 g1 r1 a1 zz14_0 => by obtain ⟨z, q1⟩ := zz14_0; exact (⟨by rw [← r1.length]; exact z, fun p hp => fin _ _ _ _ (g1.trans (.new hp)) (by rw [Rep]) (a1.newL hp r1) (q1 p (a1.fresh hp))⟩)⟩)
end
noncomputable def IxD (X : Cx) (r : R2D) : Prop := IxR X (liftR2 X.K r)
theorem ix_imp {X : Cx} {r r' : R2} (h : IxR X r) (k : ∀ x y H Q, r' x y H Q → r x y H Q) : IxR X r' := fun e1 e2 pins s σ H x y v u Q I a b q => h e1 e2 pins s σ H x y v u Q I a b (k _ _ _ _ q)
theorem de_ixR {X : Cx} {a b : Expr} {ta tb : TD} {pos : Pos} {r : R2D} (hr : IxD X r) (ha : DE X a ta) (hb : DE X b tb) (hs : PlainIx b) : DE X (.Subscript a b pos) (tOpD r ta tb) := pe_imp (pe_ix hr ha hb hs) fun _ _ _ h => lift_op h
inductive AtD (ds : List D) (i : Int) (M : MH) (Q : DK) : Prop
  | mk (d : D) (h : atI ds i = some d) (q : Q d M) : AtD ds i M Q
inductive AtM (a : Addr) (i : Int) (M : MH) (Q : DK) : Prop
  | mk (ds : List D) (d : D) (h : M a = some (.lst ds)) (q : atI ds i = some d ∧ Q d M) : AtM a i M Q
noncomputable def rIxD : R2D := fun x y M Q => match x, y with
  | .tup ds, .int i => AtD ds i M Q
  | .rol ds, .int i => AtD ds i M Q
  | .ref a, .int i => AtM a i M Q
  | _, _ => False
theorem Reps.atI {K : PySem.W.Frag} {H : Hp} {ds : List D} {xs : List V} {i : Int} {d : D} (h : Reps K H ds xs) (e : L2.atI ds i = some d) : ∃ x, L2.atI xs i = some x ∧ Rep K H d x := by
  unfold L2.atI at e ⊢
  rw [← h.length]
  cases q : ixN ds.length i with
  | none => rw [q] at e; cases e
  | some j =>
    rw [q] at e
    exact h.get e
theorem rIxD_lift {K : PySem.W.Frag} {v u : V} {H : Hp} {Q : VK} (h : liftR2 K rIxD v u H Q) : rIx K v u H Q := by
  obtain ⟨x, y, M, R, r1, r2, a, q, fin⟩ := h
  unfold rIxD at q
  split at q
  · obtain ⟨d, e, q⟩ := q
    obtain rfl : u = .int _ := r2
    rw [Rep] at r1
    obtain ⟨p, xs, rfl, hq, rs⟩ := r1
    obtain ⟨x, e1, e2⟩ := rs.atI e
    exact .inr (.inl ⟨p, xs, _, x, rfl, rfl, hq, e1, fin _ _ _ _ .refl e2 a q⟩)
  · obtain ⟨d, e, q⟩ := q
    obtain rfl : u = .int _ := r2
    rw [Rep] at r1
    obtain ⟨p, xs, rfl, hq, rs⟩ := r1
    obtain ⟨x, e1, e2⟩ := rs.atI e
    exact .inl ⟨p, xs, _, x, rfl, rfl, hq.sql, e1, fin _ _ _ _ .refl e2 a q⟩
  · obtain ⟨ds, d, e0, e, q⟩ := q
    obtain rfl : u = .int _ := r2
    obtain rfl : v = .ref _ := r1
    obtain ⟨xs, hx, rs⟩ := a _ _ e0
    obtain ⟨x, e1, e2⟩ := rs.atI e
    exact .inl ⟨_, xs, _, x, rfl, rfl, SqL.of hx, e1, fin _ _ _ _ .refl e2 a q⟩
  · exact q.elim
theorem de_ix {X : Cx} {a b : Expr} {ta tb : TD} {pos : Pos} (ha : DE X a ta) (hb : DE X b tb) (hs : PlainIx b := by exact fun _ _ => rfl) : DE X (.Subscript a b pos) (tOpD rIxD ta tb) := de_ixR (ix_imp ix_seq fun _ _ _ _ h => rIxD_lift h) ha hb hs
end SD
set_option Elab.async false
set_option linter.all false
set_option maxRecDepth 100000
namespace SD
open PySem PySem.Spec PyProof.Rows L2
noncomputable def Bd (n : Nat) (i : Int) : Prop := i.natAbs < 2 ^ n
noncomputable instance (n : Nat) (i : Int) : Decidable (Bd n i) := inferInstanceAs (Decidable (i.natAbs < 2 ^ n))
theorem Bd.mono {m n : Nat} {i : Int} (h : Bd m i) (l : m ≤ n) : Bd n i := Nat.lt_of_lt_of_le h (Nat.pow_le_pow_right (by decide) l)
theorem Bd.bits {n : Nat} {i : Int} (h : Bd n i) : Builtin.Int.intBits i ≤ n := by
  unfold Builtin.Int.intBits
  split
  · exact Nat.zero_le _
  · rename_i hz
    have h0 : i.natAbs ≠ 0 := fun e => hz (by simpa using Int.natAbs_eq_zero.mp e)
    exact (Nat.log2_lt h0).mpr h
theorem Bd.log2 {n : Nat} {i : Int} (h : Bd n i) (hn : 0 < n) : i.natAbs.log2 < n := by
  by_cases h0 : i.natAbs = 0
  · rw [h0]; simpa using hn
  · exact (Nat.log2_lt h0).mpr h
theorem Bd.mul {m n : Nat} {i j : Int} (a : Bd m i) (b : Bd n j) : Bd (m + n) (i * j) := by
  unfold Bd at *
  rw [Int.natAbs_mul, Nat.pow_add]
  exact Nat.mul_lt_mul'' a b
theorem Bd.add {n : Nat} {i j : Int} (a : Bd n i) (b : Bd n j) : Bd (n + 1) (i + j) := by
  unfold Bd at *
  rw [Nat.pow_succ]
  have := Int.natAbs_add_le i j
  omega
theorem Bd.sub {n : Nat} {i j : Int} (a : Bd n i) (b : Bd n j) : Bd (n + 1) (i - j) := by
  unfold Bd at *
  rw [Nat.pow_succ]
  have := Int.natAbs_sub_le i j
  omega
theorem Bd.neg {n : Nat} {i : Int} (a : Bd n i) : Bd n (-i) := by
  unfold Bd at *
  rw [Int.natAbs_neg]; exact a
theorem Bd.of_le {n : Nat} {i j : Int} (a : Bd n i) (b : j.natAbs ≤ i.natAbs) : Bd n j := Nat.lt_of_le_of_lt b a
theorem bd64 {n : Nat} {i : Int} (h : i.natAbs < 2 ^ 64) (l : 64 ≤ n := by decide) : Bd n i := Bd.mono (m := 64) h l
theorem mulOk {i j : Int} (a : Bd 1000000 i) (b : Bd 1000000 j) : IntMulOk i j := .of_bits (Nat.le_trans a.bits (by decide)) (Nat.le_trans b.bits (by decide))
theorem mulOk_l {i j : Int} (a : Bd 64 i) : IntMulOk i j := .of_left a.bits
theorem mulOk_r {i j : Int} (a : Bd 64 j) : IntMulOk i j := .of_right a.bits
noncomputable def rI2 (C : Int → Int → Prop) (g : Int → Int → D) : R2D := fun x y M Q => match x, y with
  | .int i, .int j => C i j ∧ Q (g i j) M
  | _, _ => False
section
variable {X : Cx}
theorem opd_int {f : Value → Value → Sem Value} {C : Int → Int → Prop} {g : Int → Int → V} {g' : Int → Int → D} (h : OpR X f (rI C g)) (e : ∀ i j H, Rep X.K H (g' i j) (g i j)) : OpD X f (rI2 C g') :=
  op_imp h fun v u H Q z9 => by
    obtain ⟨x, y, M, R, r1, r2, a, q, fin⟩ := z9
    unfold rI2 at q
    split at q
    · obtain rfl : v = .int _ := r1
      obtain rfl : u = .int _ := r2
      exact ⟨_, _, rfl, rfl, q.1, fin _ _ _ _ .refl (e _ _ _) a q.2⟩
    · exact q.elim
theorem ri0 {f : Value → Value → Sem Value} {g : Int → Int → V} (h : OpR X f (rI0 g)) : OpR X f (rI (fun _ _ => True) g) := op_imp h fun x y H Q zz15_0 => by obtain ⟨i, j, a, b, _, q⟩ := zz15_0; exact (⟨i, j, a, b, q⟩)
noncomputable def rSubD : R2D := rI2 (fun _ _ => True) fun i j => .int (i - j)
noncomputable def rMulD : R2D := rI2 IntMulOk fun i j => .int (i * j)
noncomputable def CFd (i j : Int) : Prop := j ≠ 0 ∧ Bd 8000 j
noncomputable def rFdD : R2D := rI2 CFd fun i j => .int (i.fdiv j)
noncomputable def rModD : R2D := rI2 (fun _ j => j ≠ 0) fun i j => .int (i.fmod j)
noncomputable def rPowD : R2D := rI2 CPow fun i j => .int (i ^ j.toNat)
noncomputable def rLtD : R2D := rI2 (fun _ _ => True) fun i j => .bl (decide (i < j))
noncomputable def rLeD : R2D := rI2 (fun _ _ => True) fun i j => .bl (decide (i ≤ j))
noncomputable def rGtD : R2D := rI2 (fun _ _ => True) fun i j => .bl (decide (j < i))
noncomputable def rGeD : R2D := rI2 (fun _ _ => True) fun i j => .bl (decide (j ≤ i))
theorem od_sub : OpD X (binaryOp .Sub) rSubD := opd_int (ri0 op_sub) fun _ _ _ => by rw [Rep]
theorem od_mul : OpD X (binaryOp .Mult) rMulD := opd_int (opI fun _ _ _ _ _ _ _ hc q => mul_int q hc) fun _ _ _ => by rw [Rep]
theorem od_fd : OpD X (binaryOp .FloorDiv) rFdD := opd_int (opI fun _ _ _ _ _ _ _ hc q => floordiv_int hc.1 q (.inl (PyProof.noPylong_of_log2 (Nat.lt_trans (hc.2.log2 (by decide)) (by decide))))) fun _ _ _ => by rw [Rep]
theorem od_mod : OpD X (binaryOp .Mod) rModD := opd_int op_modN fun _ _ _ => by rw [Rep]
theorem od_pow : OpD X (binaryOp .Pow) rPowD := opd_int op_pow fun _ _ _ => by rw [Rep]
theorem od_lt : OpD X (compareOp .Lt) rLtD := opd_int (ri0 op_lt) fun _ _ _ => by rw [Rep]
theorem od_le : OpD X (compareOp .LtE) rLeD := opd_int (ri0 op_le) fun _ _ _ => by rw [Rep]
theorem od_gt : OpD X (compareOp .Gt) rGtD := opd_int (ri0 op_gt) fun _ _ _ => by rw [Rep]
theorem od_ge : OpD X (compareOp .GtE) rGeD := opd_int (ri0 op_ge) fun _ _ _ => by rw [Rep]
noncomputable def rNegD : D → MH → DK → Prop := fun x M Q => match x with
  | .int i => Q (.int (-i)) M
  | _ => False
theorem un_negD : UnR X (unaryOp .USub) (liftU X.K rNegD) := fun pins s σ H x v Q I r zz16_0 => by obtain ⟨d, M, R, r1, a, q, fin⟩ := zz16_0; exact (un_neg pins s σ H x v Q I r (by
  unfold rNegD at q
  split at q
  · obtain rfl : x = .int _ := r1
    exact ⟨_, rfl, fin _ _ _ _ .refl (by rw [Rep]) a q⟩
  · exact q.elim))
noncomputable def rAddD : R2D := fun x y M Q => match x, y with
  | .int i, .int j => Q (.int (i + j)) M
  | .tup a, .tup b => a ≠ [] ∧ a.length + b.length ≤ sizeLine ∧ Q (.tup (a ++ b)) M
  | .ref a, .ref b => ∃ xs ys, M a = some (.lst xs) ∧ M b = some (.lst ys) ∧ xs.length + ys.length ≤ sizeLine ∧ ∀ p, M p = none → Q (.ref p) (updM M p (.lst (xs ++ ys)))
  | _, _ => False
theorem od_add : OpD X (binaryOp .Add) rAddD := op_imp (op_add.or (op_catT.or op_cat)) fun v u H Q z9 => by
  obtain ⟨x, y, M, R, r1, r2, a, q, fin⟩ := z9
  unfold rAddD at q
  split at q
  · obtain rfl : v = .int _ := r1
    obtain rfl : u = .int _ := r2
    exact .inl ⟨_, _, rfl, rfl, fin _ _ _ _ .refl (by rw [Rep]) a q⟩
  · rename_i da db
    obtain ⟨hn, hl, q⟩ := q
    rw [Rep] at r1
    obtain ⟨p, xs, rfl, hx, rx⟩ := r1
    obtain ⟨p', ys, rfl, hy, ry⟩ : ∃ a xs, u = V.ref a ∧ SqT X.K H a xs ∧ Reps X.K H db xs := by rw [Rep] at r2; exact r2
    have l1 := rx.length
    have l2 := ry.length
    refine .inr (.inl ⟨p, p', xs, ys, rfl, rfl, hx, hy, ?_, by omega, fun e => ?_, fun _ z hz => ?_⟩)
    · intro e; subst e; exact hn (List.length_eq_zero_iff.mp (by simpa using l1))
    · subst e
      obtain rfl : db = [] := List.length_eq_zero_iff.mp (by simpa using l2)
      exact fin _ _ _ _ .refl (by rw [Rep, List.append_nil]; exact ⟨p, xs, rfl, hx, rx⟩) a q
    · exact fin _ _ _ _ (.new hz) (by rw [Rep]; exact ⟨z, _, rfl, SqT.of upd_same, (rx.append ry).mono (.new hz)⟩) (a.new hz) q
  · obtain ⟨ds, es, e1, e2, hl, q⟩ := q
    obtain rfl : v = .ref _ := r1
    obtain rfl : u = .ref _ := r2
    obtain ⟨xs, hx, rx⟩ := a _ _ e1
    obtain ⟨ys, hy, ry⟩ := a _ _ e2
    have l1 := rx.length
    have l2 := ry.length
    exact .inr (.inr ⟨_, _, xs, ys, rfl, rfl, hx, hy, by omega, fun z hz => fin _ _ _ _ (.new hz) (by rw [Rep]) (a.newL hz (rx.append ry)) (q z (a.fresh hz))⟩)
  · exact q.elim
end
mutual
inductive Pd (M : MH) : D → PyData → Prop
  | non : Pd M .non .none
  | bl (b : Bool) : Pd M (.bl b) (.bool b)
  | int (i : Int) : Pd M (.int i) (.int i)
  | str (x : Str) : Pd M (.str x) (.str x)
  | tup {ds : List D} {ps : List PyData} : Pds M ds ps → Pd M (.tup ds) (.tuple ps)
  | rol {ds : List D} {ps : List PyData} : Pds M ds ps → Pd M (.rol ds) (.list ps)
  | lst {a : Addr} {ds : List D} {ps : List PyData} : M a = some (.lst ds) → Pds M ds ps → Pd M (.ref a) (.list ps)
inductive Pds (M : MH) : List D → List PyData → Prop
  | nil : Pds M [] []
  | cons {d : D} {ds : List D} {p : PyData} {ps : List PyData} : Pd M d p → Pds M ds ps → Pds M (d :: ds) (p :: ps)
end
mutual
noncomputable def pdO : D → Option PyData
  | .non => some .none
  | .bl b => some (.bool b)
  | .int i => some (.int i)
  | .str x => some (.str x)
  | .tup ds => match pdsO ds with
    | some ps => some (.tuple ps)
    | none => none
  | _ => none
noncomputable def pdsO : List D → Option (List PyData)
  | [] => some []
  | d :: ds => match pdO d, pdsO ds with
    | some p, some ps => some (p :: ps)
    | _, _ => none
end
mutual
theorem Pd.of {M : MH} : ∀ {d : D} {p : PyData}, pdO d = some p → Pd M d p
  | .non, p, h => by rw [pdO] at h; cases h; exact .non
  | .bl b, p, h => by rw [pdO] at h; cases h; exact .bl b
  | .int i, p, h => by rw [pdO] at h; cases h; exact .int i
  | .str x, p, h => by rw [pdO] at h; cases h; exact .str x
  | .ty _, p, h => by simp [pdO] at h
  | .ref _, p, h => by simp [pdO] at h
  | .rol _, p, h => by simp [pdO] at h
  | .tup ds, p, h => by
    rw [pdO] at h
    cases e : pdsO ds with
    | none => rw [e] at h; cases h
    | some ps => rw [e] at h; cases h; exact .tup (Pds.of e)
theorem Pds.of {M : MH} : ∀ {ds : List D} {ps : List PyData}, pdsO ds = some ps → Pds M ds ps
  | [], ps, h => by rw [pdsO] at h; cases h; exact .nil
  | d :: ds, ps, h => by
    rw [pdsO] at h
    cases e1 : pdO d with
    | none => rw [e1] at h; cases h
    | some p =>
      cases e2 : pdsO ds with
      | none => rw [e1, e2] at h; cases h
      | some qs => rw [e1, e2] at h; cases h; exact .cons (Pd.of e1) (Pds.of e2)
end
section
variable {X : Cx} {pins : List (Addr × Obj)} {σ : L2.St} {H : Hp} {s : Shared} {M : MH}
mutual
theorem pd_reads (I : Inv X pins σ H s) (hM : Abs X.K H M) : ∀ {d : D} {p : PyData} {v : V} {u : Value}, Pd M d p → Rep X.K H d v → L2.RelV v u → ∃ as, Reads s.heap u p as
  | _, _, _, _, .non, r, e => by rw [Rep] at r; subst r; cases e; exact ⟨_, .none⟩
  | _, _, _, _, .bl b, r, e => by rw [Rep] at r; subst r; cases e; exact ⟨_, .bool b⟩
  | _, _, _, _, .int i, r, e => by rw [Rep] at r; subst r; obtain ⟨t, rfl⟩ := e; exact ⟨_, .int i t⟩
  | _, _, _, _, .str x, r, e => by rw [Rep] at r; subst r; obtain ⟨t, rfl⟩ := e; exact ⟨_, .str x t⟩
  | _, _, _, _, .tup hp, r, e => by
    rw [Rep] at r
    obtain ⟨a, xs, rfl, hq, rs⟩ := r
    cases e
    obtain ⟨its, rv, ⟨o, h1, h2, n, h3⟩, _⟩ := I.tuple hq
    obtain ⟨as, hh⟩ := pds_reads I hM hp rs rv
    exact ⟨as, reads_tuple_at h1 h2 h3 (by simpa using hh)⟩
  | _, _, _, _, .rol hp, r, e => by
    rw [Rep] at r
    obtain ⟨a, xs, rfl, hq, rs⟩ := r
    cases e
    obtain ⟨its, rv, ⟨o, n, h1, h2, _, h3⟩, _⟩ := I.list hq.sql
    obtain ⟨as, hh⟩ := pds_reads I hM hp rs rv
    exact ⟨_, reads_list_at h1 h2 h3 (by simpa using hh)⟩
  | _, _, _, _, .lst ha hp, r, e => by
    rw [Rep] at r
    subst r
    cases e
    obtain ⟨xs, hx, rs⟩ := hM _ _ ha
    obtain ⟨its, rv, ⟨o, n, h1, h2, _, h3⟩, _⟩ := I.list (SqL.of hx)
    obtain ⟨as, hh⟩ := pds_reads I hM hp rs rv
    exact ⟨_, reads_list_at h1 h2 h3 (by simpa using hh)⟩
theorem pds_reads (I : Inv X pins σ H s) (hM : Abs X.K H M) : ∀ {ds : List D} {ps : List PyData} {vs : List V} {us : List Value}, Pds M ds ps → Reps X.K H ds vs → Vals vs us → ∃ as, ReadsAll s.heap us ps as
  | _, _, _, _, .nil, r, e => by rw [Reps] at r; subst r; cases e; exact ⟨_, .nil⟩
  | _, _, _, _, .cons h1 h2, r, e => by
    rw [Reps] at r
    obtain ⟨x, r, rfl, r1, r2⟩ := r
    cases e with
    | cons e1 e2 =>
      obtain ⟨as, q1⟩ := pd_reads I hM h1 r1 e1
      obtain ⟨bs, q2⟩ := pds_reads I hM h2 r2 e2
      exact ⟨_, .cons q1 q2⟩
end
end
inductive rEqG (g : Bool → Bool) (x y : D) (M : MH) (Q : DK) : Prop
  | mk (p q : PyData) (h1 : Pd M x p) (h2 : Pd M y q) (h3 : SeqAt.shaped p = true) (h4 : SeqAt.shaped q = true) (hq : Q (.bl (g (PyData.eqv p q))) M) : rEqG g x y M Q
noncomputable def rEqD : R2D := fun x y M Q => match x, y with
  | .int i, .int j => Q (.bl (decide (i = j))) M
  | .bl i, .bl j => Q (.bl (decide (i = j))) M
  | x, y => rEqG (fun b => b) x y M Q
noncomputable def rNeD : R2D := fun x y M Q => match x, y with
  | .int i, .int j => Q (.bl (!decide (i = j))) M
  | .bl i, .bl j => Q (.bl (!decide (i = j))) M
  | x, y => rEqG (fun b => !b) x y M Q
section
variable {X : Cx}
theorem od_eqG (hu : X.A.units + 64 < cLine) : OpD X (compareOp .Eq) (rEqG fun b => b) := by
  intro pins s σ H v u v' u' Q I rv ru h
  obtain ⟨x, y, M, R, r1, r2, a, ⟨p, q, p1, p2, s1, s2, hq⟩, fin⟩ := h
  obtain ⟨as, q1⟩ := pd_reads I a p1 r1 rv
  obtain ⟨bs, q2⟩ := pd_reads I a p2 r2 ru
  exact eq_dataH q1 q2 s1 s2 hu ⟨.bl _, H, I, rfl, fin _ _ _ _ .refl (by rw [Rep]) a hq⟩
theorem od_neG (hu : X.A.units + 64 < cLine) : OpD X (compareOp .NotEq) (rEqG fun b => !b) := by
  intro pins s σ H v u v' u' Q I rv ru h
  obtain ⟨x, y, M, R, r1, r2, a, ⟨p, q, p1, p2, s1, s2, hq⟩, fin⟩ := h
  obtain ⟨as, q1⟩ := pd_reads I a p1 r1 rv
  obtain ⟨bs, q2⟩ := pd_reads I a p2 r2 ru
  exact ne_dataH q1 q2 s1 s2 hu ⟨.bl _, H, I, rfl, fin _ _ _ _ .refl (by rw [Rep]) a hq⟩
theorem beq_dec {i j : Int} : (i == j) = decide (i = j) := by
  by_cases h : i = j <;> simp [h]
theorem beq_decB {i j : Bool} : (i == j) = decide (i = j) := by
  cases i <;> cases j <;> rfl
theorem od_eq (hu : X.A.units + 64 < cLine) : OpD X (compareOp .Eq) rEqD := op_imp (od_eqG hu) fun v u H Q z9 => by
  obtain ⟨x, y, M, R, r1, r2, a, q, fin⟩ := z9
  refine ⟨x, y, M, R, r1, r2, a, ?_, fin⟩
  unfold rEqD at q
  split at q
  · exact ⟨_, _, .int _, .int _, rfl, rfl, by simpa [PyData.eqv, beq_dec] using q⟩
  · exact ⟨_, _, .bl _, .bl _, rfl, rfl, by simpa [PyData.eqv, beq_decB] using q⟩
  · exact q
theorem od_ne (hu : X.A.units + 64 < cLine) : OpD X (compareOp .NotEq) rNeD := op_imp (od_neG hu) fun v u H Q z9 => by
  obtain ⟨x, y, M, R, r1, r2, a, q, fin⟩ := z9
  refine ⟨x, y, M, R, r1, r2, a, ?_, fin⟩
  unfold rNeD at q
  split at q
  · exact ⟨_, _, .int _, .int _, rfl, rfl, by simpa [PyData.eqv, beq_dec] using q⟩
  · exact ⟨_, _, .bl _, .bl _, rfl, rfl, by simpa [PyData.eqv, beq_decB] using q⟩
  · exact q
noncomputable def isC : D → D → Option Bool
  | .non, .non => some true
  | .non, .bl _ => some false
  | .bl _, .non => some false
  | .bl a, .bl b => some (decide (a = b))
  | _, .non => some false
  | _, .bl _ => some false
  | _, _ => none
inductive rIsG (g : Bool → Bool) (x y : D) (M : MH) (Q : DK) : Prop
  | mk (b : Bool) (h : isC x y = some b) (q : Q (.bl (g b)) M) : rIsG g x y M Q
noncomputable def rIsD : R2D := rIsG fun b => b
noncomputable def rIsNotD : R2D := rIsG fun b => !b
theorem isC_plain {K : PySem.W.Frag} {H : Hp} {x y : D} {b : Bool} {v u : V} {v' u' : Value} (h : isC x y = some b) (r1 : Rep K H x v) (r2 : Rep K H y u) (rv : L2.RelV v v') (ru : L2.RelV u u') : plainIs v' u' = true ∧ (v' == u') = b := by
  have hu : u' = .none ∨ ∃ c, u' = .bool c := by
    cases y with
    | non => rw [Rep] at r2; subst r2; exact .inl ru
    | bl c => rw [Rep] at r2; subst r2; exact .inr ⟨c, ru⟩
    | _ => cases x <;> exact absurd (show (none : Option Bool) = some b from h) (fun z => nomatch z)
  cases x with
  | non =>
    rw [Rep] at r1; subst r1; cases (show v' = Value.none from rv)
    cases y <;> try exact absurd (show (none : Option Bool) = some b from h) (fun z => nomatch z)
    · rw [Rep] at r2; subst r2; cases (show u' = Value.none from ru); cases (show some true = some b from h); exact ⟨rfl, rfl⟩
    · rw [Rep] at r2; subst r2; cases (show u' = Value.bool _ from ru); cases (show some false = some b from h); exact ⟨rfl, rfl⟩
  | bl c =>
    rw [Rep] at r1; subst r1; cases (show v' = Value.bool _ from rv)
    cases y <;> try exact absurd (show (none : Option Bool) = some b from h) (fun z => nomatch z)
    · rw [Rep] at r2; subst r2; cases (show u' = Value.none from ru); cases (show some false = some b from h); exact ⟨rfl, rfl⟩
    · rename_i c'
      rw [Rep] at r2; subst r2; cases (show u' = Value.bool _ from ru); cases (show some (decide (c = c')) = some b from h)
      refine ⟨rfl, ?_⟩
      cases c <;> cases c' <;> rfl
  | int i =>
    rw [Rep] at r1; subst r1; obtain ⟨t, rfl⟩ := rv
    cases y <;> first | exact absurd (show (none : Option Bool) = some b from h) (fun z => nomatch z) | (cases (show some false = some b from h); rcases hu with rfl | ⟨c, rfl⟩ <;> exact ⟨rfl, rfl⟩)
  | str i =>
    rw [Rep] at r1; subst r1; obtain ⟨t, rfl⟩ := rv
    cases y <;> first | exact absurd (show (none : Option Bool) = some b from h) (fun z => nomatch z) | (cases (show some false = some b from h); rcases hu with rfl | ⟨c, rfl⟩ <;> exact ⟨rfl, rfl⟩)
  | ty i =>
    rw [Rep] at r1; subst r1; cases (show v' = Value.type _ from rv)
    cases y <;> first | exact absurd (show (none : Option Bool) = some b from h) (fun z => nomatch z) | (cases (show some false = some b from h); rcases hu with rfl | ⟨c, rfl⟩ <;> exact ⟨rfl, rfl⟩)
  | ref i =>
    rw [Rep] at r1; subst r1; cases (show v' = Value.ref _ from rv)
    cases y <;> first | exact absurd (show (none : Option Bool) = some b from h) (fun z => nomatch z) | (cases (show some false = some b from h); rcases hu with rfl | ⟨c, rfl⟩ <;> exact ⟨rfl, rfl⟩)
  | rol i =>
    rw [Rep] at r1; obtain ⟨a, xs, rfl, _, _⟩ := r1; cases (show v' = Value.ref _ from rv)
    cases y <;> first | exact absurd (show (none : Option Bool) = some b from h) (fun z => nomatch z) | (cases (show some false = some b from h); rcases hu with rfl | ⟨c, rfl⟩ <;> exact ⟨rfl, rfl⟩)
  | tup i =>
    rw [Rep] at r1; obtain ⟨a, xs, rfl, _, _⟩ := r1; cases (show v' = Value.ref _ from rv)
    cases y <;> first | exact absurd (show (none : Option Bool) = some b from h) (fun z => nomatch z) | (cases (show some false = some b from h); rcases hu with rfl | ⟨c, rfl⟩ <;> exact ⟨rfl, rfl⟩)
theorem od_is : OpD X (compareOp .Is) rIsD := by
  intro pins s σ H v u v' u' Q I rv ru h
  obtain ⟨x, y, M, R, r1, r2, a, ⟨b, e, q⟩, fin⟩ := h
  obtain ⟨e1, e2⟩ := isC_plain e r1 r2 rv ru
  exact wpAny_is_plain e1 ⟨.bl b, H, I, by rw [e2]; rfl, fin _ _ _ _ .refl (by rw [Rep]) a q⟩
theorem od_isnot : OpD X (compareOp .IsNot) rIsNotD := by
  intro pins s σ H v u v' u' Q I rv ru h
  obtain ⟨x, y, M, R, r1, r2, a, ⟨b, e, q⟩, fin⟩ := h
  obtain ⟨e1, e2⟩ := isC_plain e r1 r2 rv ru
  exact wpAny_isNot_plain e1 ⟨.bl (!b), H, I, by rw [e2]; rfl, fin _ _ _ _ .refl (by rw [Rep]) a q⟩
end
end SD
set_option Elab.async false
set_option linter.all false
set_option maxRecDepth 100000
namespace SD
open PySem PySem.Spec PyProof.Rows L2
noncomputable abbrev RC := List D → MH → DK → Prop
noncomputable def liftC (K : PySem.W.Frag) (r : RC) : List V → Hp → VK → Prop := fun vs H Q => ∃ ds M R, Reps K H ds vs ∧ Abs K H M ∧ r ds M R ∧ Fin K H R Q
noncomputable def CallD (X : Cx) (f : Value) (r : RC) : Prop := CallR X f (liftC X.K r)
theorem call_imp {X : Cx} {f : Value} {r r' : List V → Hp → VK → Prop} (h : CallR X f r) (k : ∀ xs H Q, r' xs H Q → r xs H Q) : CallR X f r' := fun pins s σ H xs us Q I a q => h pins s σ H xs us Q I a (k _ _ _ q)
noncomputable def tCBD (r : RC) (t : TAD) : TD := fun δ M Q => t δ M fun ds M1 => r ds M1 Q
theorem lift_cb {K : PySem.W.Frag} {r : RC} {t : TAD} {σ : L2.St} {H : Hp} {Q : VK} (h : lift K (tCBD r t) σ H Q) : tCB (liftC K r) (liftA K t) σ H Q := by
  obtain ⟨δ, M, R, hs, hM, q, fin⟩ := h
  exact ⟨δ, M, _, hs, hM, q, fun ds M1 vs H1 g1 r1 a1 q1 => ⟨ds, M1, R, r1, a1, q1, fin.go g1⟩⟩
section
variable {X : Cx} {x : Str} {p pos : Pos} {e : Expr} {es : List Expr} {t : TAD} {id T : String} {r : RC}
theorem de_callB (hc : CallD X (.builtin id) r) (hg : Gl X x) (hm : X.mg x = none) (hv : bootBuiltins x = some (.builtin id)) (ha : DA X (e :: es) t) (hn : x ≠ "__name__" := by decide) (hdb : (x == ("__debug__" : Str)) = false := by decide)
    (he : starEach (e :: es) X.env = (false, eval e X.env) :: starEach es X.env := by rfl) (hpl : (backTo pos (starEach es X.env)).any (·.1) = false := by rfl) : DE X (.Call (.Name x p) (e :: es) [] pos) (tCBD r t) :=
  pe_imp (pe_callB hc hg hm hv ha hn hdb he hpl) fun _ _ _ h => lift_cb h
theorem de_callTy (hc : CallD X (.type T) r) (hg : Gl X x) (hm : X.mg x = none) (hv : bootBuiltins x = some (.type T)) (ha : DA X (e :: es) t) (hn : x ≠ "__name__" := by decide) (hdb : (x == ("__debug__" : Str)) = false := by decide)
    (he : starEach (e :: es) X.env = (false, eval e X.env) :: starEach es X.env := by rfl) (hpl : (backTo pos (starEach es X.env)).any (·.1) = false := by rfl) : DE X (.Call (.Name x p) (e :: es) [] pos) (tCBD r t) :=
  pe_imp (pe_callTy hc hg hm hv ha hn hdb he hpl) fun _ _ _ h => lift_cb h
theorem reps1 {K : PySem.W.Frag} {H : Hp} {d : D} {vs : List V} (h : Reps K H [d] vs) : ∃ v, vs = [v] ∧ Rep K H d v := by
  rw [Reps] at h
  obtain ⟨x, r, rfl, h1, h2⟩ := h
  rw [Reps] at h2
  subst h2
  exact ⟨x, rfl, h1⟩
theorem reps2 {K : PySem.W.Frag} {H : Hp} {d e : D} {vs : List V} (h : Reps K H [d, e] vs) : ∃ v u, vs = [v, u] ∧ Rep K H d v ∧ Rep K H e u := by
  rw [Reps] at h
  obtain ⟨x, r, rfl, h1, h2⟩ := h
  obtain ⟨u, rfl, h3⟩ := reps1 h2
  exact ⟨x, u, rfl, h1, h3⟩
noncomputable def rAbs : RC := fun ds M Q => match ds with
  | [.int i] => Q (.int (i.natAbs : Int)) M
  | _ => False
theorem cd_abs : CallD X (.builtin "abs") rAbs := call_imp call_abs fun vs H Q z9 => by
  obtain ⟨ds, M, R, rs, a, q, fin⟩ := z9
  unfold rAbs at q
  split at q
  · rename_i i
    obtain ⟨v, rfl, r⟩ := reps1 rs
    rw [Rep] at r; subst r
    have e : (if i < 0 then -i else i) = (i.natAbs : Int) := by split <;> omega
    exact ⟨_, rfl, fin _ _ _ _ .refl (by rw [Rep, e]) a q⟩
  · exact q.elim
noncomputable def rMax : RC := fun ds M Q => match ds with
  | [.int i, .int j] => Q (.int (max i j)) M
  | _ => False
noncomputable def rMin : RC := fun ds M Q => match ds with
  | [.int i, .int j] => Q (.int (min i j)) M
  | _ => False
theorem cd_max (hc : X.calm = true) : CallD X (.builtin "max") rMax := call_imp (call_max2 hc) fun vs H Q z9 => by
  obtain ⟨ds, M, R, rs, a, q, fin⟩ := z9
  unfold rMax at q
  split at q
  · rename_i i j
    obtain ⟨v, u, rfl, r, r'⟩ := reps2 rs
    rw [Rep] at r; subst r
    have r2 : u = .int j := by rw [Rep] at r'; exact r'
    subst r2
    have e : (if j > i then j else i) = max i j := by split <;> omega
    exact ⟨_, _, rfl, fin _ _ _ _ .refl (by rw [Rep, e]) a q⟩
  · exact q.elim
theorem cd_min (hc : X.calm = true) : CallD X (.builtin "min") rMin := call_imp (call_min2 hc) fun vs H Q z9 => by
  obtain ⟨ds, M, R, rs, a, q, fin⟩ := z9
  unfold rMin at q
  split at q
  · rename_i i j
    obtain ⟨v, u, rfl, r, r'⟩ := reps2 rs
    rw [Rep] at r; subst r
    have r2 : u = .int j := by rw [Rep] at r'; exact r'
    subst r2
    have e : (if j < i then j else i) = min i j := by split <;> omega
    exact ⟨_, _, rfl, fin _ _ _ _ .refl (by rw [Rep, e]) a q⟩
  · exact q.elim
noncomputable def rLen : RC := fun ds M Q => match ds with
  | [.tup xs] => Q (.int (xs.length : Int)) M
  | [.rol xs] => Q (.int (xs.length : Int)) M
  | [.ref l] => ∃ xs, M l = some (.lst xs) ∧ Q (.int (xs.length : Int)) M
  | _ => False
theorem cd_len : CallD X (.builtin "len") rLen := call_imp call_len_seq fun vs H Q z9 => by
  obtain ⟨ds, M, R, rs, a, q, fin⟩ := z9
  unfold rLen at q
  split at q
  · obtain ⟨v, rfl, r⟩ := reps1 rs
    rw [Rep] at r
    obtain ⟨l, xs, rfl, h1, h2⟩ := r
    exact ⟨l, xs, rfl, .inr h1, fin _ _ _ _ .refl (by rw [Rep, h2.length]) a q⟩
  · obtain ⟨v, rfl, r⟩ := reps1 rs
    rw [Rep] at r
    obtain ⟨l, xs, rfl, h1, h2⟩ := r
    exact ⟨l, xs, rfl, .inl h1.sql, fin _ _ _ _ .refl (by rw [Rep, h2.length]) a q⟩
  · obtain ⟨v, rfl, r⟩ := reps1 rs
    rw [Rep] at r; subst r
    obtain ⟨xs, e, q⟩ := q
    obtain ⟨ys, h1, h2⟩ := a _ _ e
    exact ⟨_, ys, rfl, .inl (SqL.of h1), fin _ _ _ _ .refl (by rw [Rep, h2.length]) a q⟩
  · exact q.elim
noncomputable def rTuple : RC := fun ds M Q => match ds with
  | [.tup xs] => Q (.tup xs) M
  | [.rol xs] => Q (.tup xs) M
  | [.ref l] => ∃ xs, M l = some (.lst xs) ∧ Q (.tup xs) M
  | _ => False
theorem cd_tuple : CallD X (.type "tuple") rTuple := call_imp call_tuple_of fun vs H Q z9 => by
  obtain ⟨ds, M, R, rs, a, q, fin⟩ := z9
  unfold rTuple at q
  split at q
  · obtain ⟨v, rfl, r⟩ := reps1 rs
    rw [Rep] at r
    obtain ⟨l, xs, rfl, h1, h2⟩ := r
    exact ⟨l, xs, rfl, .inr ⟨h1, fin _ _ _ _ .refl (by rw [Rep]; exact ⟨l, xs, rfl, h1, h2⟩) a q⟩⟩
  · obtain ⟨v, rfl, r⟩ := reps1 rs
    rw [Rep] at r
    obtain ⟨l, xs, rfl, h1, h2⟩ := r
    exact ⟨l, xs, rfl, .inl ⟨h1.sql, fun p hp => fin _ _ _ _ (.new hp) (by rw [Rep]; exact ⟨p, xs, rfl, SqT.of upd_same, h2.mono (.new hp)⟩) (a.new hp) q⟩⟩
  · obtain ⟨v, rfl, r⟩ := reps1 rs
    rw [Rep] at r; subst r
    obtain ⟨xs, e, q⟩ := q
    obtain ⟨ys, h1, h2⟩ := a _ _ e
    exact ⟨_, ys, rfl, .inl ⟨SqL.of h1, fun p hp => fin _ _ _ _ (.new hp) (by rw [Rep]; exact ⟨p, ys, rfl, SqT.of upd_same, h2.mono (.new hp)⟩) (a.new hp) q⟩⟩
  · exact q.elim
noncomputable def rInt1 : RC := fun ds M Q => match ds with
  | [.int i] => Q (.int i) M
  | [.bl k] => Q (.int (if k = true then 1 else 0)) M
  | _ => False
theorem cd_int : CallD X (.type "int") rInt1 := call_imp call_int1 fun vs H Q z9 => by
  obtain ⟨ds, M, R, rs, a, q, fin⟩ := z9
  unfold rInt1 at q
  split at q
  · obtain ⟨v, rfl, r⟩ := reps1 rs
    rw [Rep] at r; subst r
    exact .inl ⟨_, rfl, fin _ _ _ _ .refl (by rw [Rep]) a q⟩
  · obtain ⟨v, rfl, r⟩ := reps1 rs
    rw [Rep] at r; subst r
    exact .inr ⟨_, rfl, fin _ _ _ _ .refl (by rw [Rep]) a q⟩
  · exact q.elim
noncomputable def tyN : D → Option String
  | .non => some "NoneType"
  | .bl _ => some "bool"
  | .int _ => some "int"
  | .str _ => some "str"
  | .tup _ => some "tuple"
  | .rol _ => some "list"
  | _ => none
noncomputable def rIsInst (K : PySem.W.Frag) : RC := fun ds M Q => match ds with
  | [x, .ty n] => ∃ t b, tyN x = some t ∧ PySem.W.kitOne K (.type t) (.type n) = some b ∧ Q (.bl b) M
  | _ => False
theorem cd_isinst : CallD X (.builtin "isinstance") (rIsInst X.K) := by
  intro pins s σ H vs us Q I rv z0
  obtain ⟨ds, M, R, rs, a, q, fin⟩ := z0
  unfold rIsInst at q
  split at q
  · rename_i x n
    obtain ⟨v, u, rfl, r, r'⟩ := reps2 rs
    rw [Rep] at r'; subst r'
    obtain ⟨v', u', rfl, rw0, ru⟩ := vals2 rv
    cases (show u' = Value.type n from ru)
    obtain ⟨t, b, et, e, q⟩ := q
    have h : ∀ tk, EP X pins σ Q (.bool b) { s with toks := tk } := fun tk => ⟨.bl b, H, I.tok tk, rfl, fin _ _ _ _ .refl (by rw [Rep]) a q⟩
    cases x with
    | non => cases et; rw [Rep] at r; subst r; cases (show v' = Value.none from rw0); exact PySem.W.kia_one PySem.W.kitx_none I.kIn True.intro e (fun z => nomatch z) h
    | bl y => cases et; rw [Rep] at r; subst r; cases (show v' = Value.bool y from rw0); exact PySem.W.kia_one PySem.W.kitx_bool I.kIn True.intro e (fun z => nomatch z) h
    | int y => cases et; rw [Rep] at r; subst r; obtain ⟨t, q⟩ := (show ∃ t, v' = Value.int y t from rw0); cases q; exact PySem.W.kia_one PySem.W.kitx_int I.kIn True.intro e (fun z => nomatch z) h
    | str y => cases et; rw [Rep] at r; subst r; obtain ⟨t, q⟩ := (show ∃ t, v' = Value.str y t from rw0); cases q; exact PySem.W.kia_one PySem.W.kitx_str I.kIn True.intro e (fun z => nomatch z) h
    | tup y =>
      cases et; rw [Rep] at r
      obtain ⟨p, xs, rfl, h1, _⟩ := r
      cases (show v' = Value.ref p from rw0)
      obtain ⟨its, _, ⟨o, z1, z2, _⟩, _⟩ := I.tuple h1
      exact PySem.W.kia_one PySem.W.kitx_tuple I.kIn ⟨o, z1, z2⟩ e (fun z => nomatch z) h
    | rol y =>
      cases et; rw [Rep] at r
      obtain ⟨p, xs, rfl, h1, _⟩ := r
      cases (show v' = Value.ref p from rw0)
      obtain ⟨its, _, ⟨o, n, z1, z2, _⟩, _⟩ := I.list h1.sql
      exact PySem.W.kia_one PySem.W.kitx_list I.kIn ⟨o, z1, z2⟩ e (fun z => nomatch z) h
    | _ => cases et
  · exact q.elim
end
noncomputable abbrev TGD := D → DS → MH → (DS → MH → Prop) → Prop
noncomputable abbrev TGsD := List D → DS → MH → (DS → MH → Prop) → Prop
section
variable (K : PySem.W.Frag)
noncomputable def FinG (H : Hp) (R : DS → MH → Prop) (Q : L2.St → Hp → Prop) : Prop := ∀ δ' M' σ' H', Grow K H H' → Slots K H' δ' σ' → Abs K H' M' → R δ' M' → Q σ' H'
noncomputable def liftG (t : TGD) : TG := fun v σ H Q => ∃ d δ M R, Rep K H d v ∧ Slots K H δ σ ∧ Abs K H M ∧ t d δ M R ∧ FinG K H R Q
noncomputable def liftGs (t : TGsD) : TGs := fun vs σ H Q => ∃ ds δ M R, Reps K H ds vs ∧ Slots K H δ σ ∧ Abs K H M ∧ t ds δ M R ∧ FinG K H R Q
end
theorem FinG.go {K : PySem.W.Frag} {H H1 : Hp} {R : DS → MH → Prop} {Q : L2.St → Hp → Prop} (g : Grow K H H1) (h : FinG K H R Q) : FinG K H1 R Q := fun d M v H' g' => h d M v H' (g.trans g')
noncomputable def DG (X : Cx) (e : Expr) (t : TGD) : Prop := PG X e (liftG X.K t)
noncomputable def DGs (X : Cx) (es : List Expr) (t : TGsD) : Prop := PGs X es (liftGs X.K t)
theorem pg_imp {X : Cx} {e : Expr} {t t' : TG} (h : PG X e t) (k : ∀ v σ H Q, t' v σ H Q → t v σ H Q) : PG X e t' := fun pins s σ H v u Q I r q => h pins s σ H v u Q I r (k _ _ _ _ q)
theorem pgs_imp {X : Cx} {e : List Expr} {t t' : TGs} (h : PGs X e t) (k : ∀ v σ H Q, t' v σ H Q → t v σ H Q) : PGs X e t' := fun pins s σ H v u Q I r q => h pins s σ H v u Q I r (k _ _ _ _ q)
section
variable {X : Cx} {pos : Pos}
noncomputable def gNameD (i : Nat) : TGD := fun d δ M Q => Q (δ.set i (some d)) M
theorem dg_name (i : Nat) {x : Str} (hN : X.N.Nodup) (hi : X.N[i]? = some x := by rfl) (hx : Loc X.env.scope x := by first | exact Or.inl rfl | exact Or.inr rfl) (hf : X.fn x = true ∨ X.env.scope.names.lookup x = some .local := by first | exact .inl rfl | exact .inr rfl | assumption) : DG X (.Name x pos) (gNameD i) :=
  pg_imp (pg_name hN hi hx hf) fun v σ H Q zz17_0 => by obtain ⟨d, δ, M, R, r, hs, a, q, fin⟩ := zz17_0; exact (fin _ _ _ _ .refl (hs.set r i) a q)
noncomputable def gNilD : TGsD := fun ds δ M Q => ds = [] ∧ Q δ M
inductive gConsD (t : TGD) (u : TGsD) (ds : List D) (δ : DS) (M : MH) (Q : DS → MH → Prop) : Prop
  | mk (d : D) (r : List D) (h : ds = d :: r) (q : t d δ M fun δ' M' => u r δ' M' Q) : gConsD t u ds δ M Q
theorem dgs_nil : DGs X [] gNilD := pgs_imp pgs_nil fun vs σ H Q z9 => by
  obtain ⟨ds, δ, M, R, rs, hs, a, ⟨e, q⟩, fin⟩ := z9
  subst e
  rw [Reps] at rs
  exact ⟨rs, fin _ _ _ _ .refl hs a q⟩
theorem dgs_cons {e : Expr} {es : List Expr} {t : TGD} {u : TGsD} (h1 : DG X e t) (h2 : DGs X es u)
    (hs : (assignEach (e :: es) X.env).map (·.2) = assign e X.env :: (assignEach es X.env).map (·.2) := by rfl) : DGs X (e :: es) (gConsD t u) := pgs_imp (pgs_cons h1 h2 hs) fun vs σ H Q z9 => by
  obtain ⟨ds, δ, M, R, rs, hs, a, ⟨d, r, e, q⟩, fin⟩ := z9
  subst e
  rw [Reps] at rs
  obtain ⟨x, xs, rfl, r1, r2⟩ := rs
  exact ⟨x, xs, rfl, d, δ, M, _, r1, hs, a, q, fun δ' M' σ' H' g' s' a' q' => ⟨r, δ', M', R, r2.mono g', s', a', q', fin.go g'⟩⟩
inductive gTupD (n : Nat) (t : TGsD) (d : D) (δ : DS) (M : MH) (Q : DS → MH → Prop) : Prop
  | mk (ds : List D) (h : d = .tup ds) (q : ds.length = n ∧ t ds δ M Q) : gTupD n t d δ M Q
theorem dg_tup {es : List Expr} {k : Nat} {t : TGsD} {n : Nat} (hc : X.calm = true) (h : DGs X es t)
    (hn : (assignEach es X.env).length = n := by rfl) (hst : (assignEach es X.env).findIdx? (·.1) = none := by rfl) : DG X (.Tuple es k pos) (gTupD n t) := pg_imp (pg_tup hc h hn hst) fun v σ H Q z9 => by
  obtain ⟨d, δ, M, R, r, hs, a, ⟨ds, e, hl, q⟩, fin⟩ := z9
  subst e
  rw [Rep] at r
  obtain ⟨p, xs, rfl, h1, h2⟩ := r
  exact ⟨p, xs, rfl, h1, by rw [← h2.length]; exact hl, ds, δ, M, R, h2, hs, a, q, fin⟩
noncomputable def rSetD : D → D → D → MH → (MH → Prop) → Prop := fun o i v M Q => match o, i with
  | .ref p, .int k => ∃ ds j, M p = some (.lst ds) ∧ ixN ds.length k = some j ∧ Q (updM M p (.lst (ds.set j v)))
  | _, _ => False
noncomputable def gSubD (to ti : TD) : TGD := fun v δ M Q => to δ M fun o M1 => ti δ M1 fun i M2 => rSetD o i v M2 fun M3 => Q δ M3
theorem dg_sub {o i : Expr} {to ti : TD} (ho : DE X o to) (hi : DE X i ti)
    (ha : ∀ v, assign (.Subscript o i pos) X.env v = (do
      let ov ← holding [v] (eval o X.env)
      let iv ← holding [v, ov] (eval i X.env)
      standAt pos
      holding [v, ov, iv] (setItem ov iv v)
      release [v, ov, iv] []) := by intro _; rfl) : DG X (.Subscript o i pos) (gSubD to ti) :=
  pg_imp (pg_sub ho hi set_list ha) fun v σ H Q ⟨d, δ, M, R, r, hs, a, q, fin⟩ =>
    ⟨δ, M, _, hs, a, q, fun o M1 vo H1 g1 r1 a1 q1 => ⟨δ, M1, _, hs.mono g1, a1, q1, fun i M2 vi H2 g2 r2 a2 q2 => by
      unfold rSetD at q2
      split at q2
      · obtain ⟨ds, j, e1, e2, q2⟩ := q2
        obtain rfl : vo = .ref _ := r1
        obtain rfl : vi = .int _ := r2
        obtain ⟨xs, h1, h2⟩ := a2 _ _ e1
        refine ⟨_, xs, _, j, rfl, rfl, h1, by rw [← h2.length]; exact e2, ?_⟩
        have g3 : Grow X.K H2 (upd H2 _ (.lst (xs.set j v))) := .lst h1
        exact fin _ _ _ _ ((g1.trans g2).trans g3) (hs.mono ((g1.trans g2).trans g3)) (a2.setL h1 (h2.set (r.mono (g1.trans g2)) j)) q2
      · exact q2.elim⟩⟩
end
section
variable {X : Cx} {pos : Pos} {st : Stmt} {rest : List Stmt} {t u : TSD}
noncomputable def tNextD : TSD := fun B δ M => B.nx δ M
noncomputable def tSeqD (t u : TSD) : TSD := fun B δ M => t { B with nx := u B } δ M
theorem dss_nil : DSs X [] tNextD := pss_imp pss_nil fun E σ H zz18_0 => by obtain ⟨δ, M, hs, a, B, ok, q⟩ := zz18_0; exact (ok.nx _ _ _ _ .refl hs a q)
theorem dss_cons (h1 : DSt X st t) (h2 : DSs X rest u) : DSs X (st :: rest) (tSeqD t u) := pss_imp (pss_cons h1 h2) fun E σ H zz19_0 => by obtain ⟨δ, M, hs, a, B, ok, q⟩ := zz19_0; exact (⟨δ, M, hs, a, { B with nx := u B }, ⟨fun δ' M' σ' H' g s' a' q' => ⟨δ', M', s', a', B, ok.go g, q'⟩, ok.rt, ok.bk, ok.ct⟩, q⟩)
theorem dss_one (h1 : DSt X st t) : DSs X [st] t := pss_one h1
noncomputable def tBreakD : TSD := fun B δ M => B.bk δ M
noncomputable def tContD : TSD := fun B δ M => B.ct δ M
noncomputable def tNeverD : TSD := fun _ _ _ => False
theorem ds_never : DSt X st tNeverD := ps_imp ps_never fun E σ H zz23_0 => by obtain ⟨δ, M, hs, a, B, ok, q⟩ := zz23_0; exact (q.elim)
noncomputable def tDropD (te : TD) : TSD := fun B δ M => te δ M fun _ M1 => B.nx δ M1
theorem ds_expr {e : Expr} {te : TD} (he : DE X e te) (hs : swapsWith e none pos.line X.env = pure false := by rfl) : DSt X (.Expr e pos) (tDropD te) :=
  ps_imp (ps_expr he hs) fun E σ H zz25_0 => by obtain ⟨δ, M, hs, a, B, ok, q⟩ := zz25_0; exact (⟨δ, M, _, hs, a, q, fun d M1 v H1 g1 r1 a1 q1 => ok.nx _ _ _ _ g1 (hs.mono g1) a1 q1⟩)
noncomputable def tRetD (te : TD) : TSD := fun B δ M => te δ M B.rt
theorem ds_ret {e : Expr} {te : TD} (he : DE X e te) : DSt X (.Return (some e) pos) (tRetD te) :=
  ps_imp (ps_ret he) fun E σ H zz26_0 => by obtain ⟨δ, M, hs, a, B, ok, q⟩ := zz26_0; exact (⟨δ, M, _, hs, a, q, fun d M1 v H1 g1 r1 a1 q1 => ok.rt _ _ _ _ g1 r1 a1 q1⟩)
noncomputable def tRetND : TSD := fun B _ M => B.rt .non M
noncomputable def tIfSD (c : TTD) (t u : TSD) : TSD := fun B δ M => c δ M fun b M1 => if b = true then t B δ M1 else u B δ M1
theorem ds_if {c : Expr} {a b : List Stmt} {tc : TTD} (hc : DT X c tc) (ha : DSs X a t) (hb : DSs X b u) : DSt X (.If c a b pos) (tIfSD tc t u) :=
  ps_imp (ps_if hc ha hb) fun E σ H zz28_0 => by obtain ⟨δ, M, hs, a, B, ok, q⟩ := zz28_0; exact (⟨δ, M, _, hs, a, q, fun c M1 H1 g1 a1 q1 => by
    cases c with
    | true => rw [if_pos rfl] at q1 ⊢; exact ⟨δ, M1, hs.mono g1, a1, B, ok.go g1, q1⟩
    | false => rw [if_neg Bool.false_ne_true] at q1 ⊢; exact ⟨δ, M1, hs.mono g1, a1, B, ok.go g1, q1⟩⟩)
noncomputable def tAsgD (te : TD) (g : TGD) : TSD := fun B δ M => te δ M fun d M1 => g d δ M1 B.nx
theorem ds_asg {tg e : Expr} {te : TD} {g : TGD} (he : DE X e te) (hg : DG X tg g) (hs : swapsWithSole [tg] e pos.line X.env = pure false := by rfl) (hw : swappedStores [tg] e X.env = pure none := by rfl)
    (h1 : (assignEach [tg] X.env).map (·.2) = [assign tg X.env] := by rfl) : DSt X (.Assign [tg] e pos) (tAsgD te g) :=
  ps_imp (ps_asg he hg hs hw h1) fun E σ H zz29_0 => by obtain ⟨δ, M, hs, a, B, ok, q⟩ := zz29_0; exact (⟨δ, M, _, hs, a, q, fun d M1 v H1 g1 r1 a1 q1 =>
    ⟨d, δ, M1, B.nx, r1, hs.mono g1, a1, q1, fun δ' M' σ' H' g' s' a' q' => ok.nx _ _ _ _ (g1.trans g') s' a' q'⟩⟩)
theorem ds_set (i : Nat) {x : Str} {e : Expr} {te : TD} {pos' : Pos} (hN : X.N.Nodup) (he : DE X e te) (hi : X.N[i]? = some x := by rfl) (hx : Loc X.env.scope x := by first | exact Or.inl rfl | exact Or.inr rfl) (hs : swapsWith e (some (.Name x pos')) pos.line X.env = pure false := by rfl)
    (hf : X.fn x = true ∨ X.env.scope.names.lookup x = some .local := by first | exact .inl rfl | exact .inr rfl | assumption) : DSt X (.Assign [.Name x pos'] e pos) (tAsgD te (gNameD i)) :=
  ps_imp (ps_set hN hi hx he hs hf) fun E σ H zz30_0 => by obtain ⟨δ, M, hs, a, B, ok, q⟩ := zz30_0; exact (⟨δ, M, _, hs, a, q, fun d M1 v H1 g1 r1 a1 q1 => ok.nx _ _ _ _ g1 ((hs.mono g1).set r1 i) a1 q1⟩)
noncomputable def tParD (i j : Nat) (ta : TAD) : TSD := fun B δ M => ta δ M fun ds M1 => ∃ d e, ds = [d, e] ∧ B.nx ((δ.set i (some d)).set j (some e)) M1
theorem ds_par (i j : Nat) {x y : Str} {a b : Expr} {ta : TAD} {px py pt : Pos} {kt k2 pt2} (hc : X.calm = true) (hN : X.N.Nodup) (ha : DA X [a, b] ta) (hij : i ≠ j := by decide) (hi : X.N[i]? = some x := by rfl) (hj : X.N[j]? = some y := by rfl)
    (hx : X.env.scope.names.lookup x = some .local := by rfl) (hy : X.env.scope.names.lookup y = some .local := by rfl)
    (hw : swappedStores [.Tuple [.Name x px, .Name y py] kt pt] (.Tuple [a, b] k2 pt2) X.env = pure (some [x, y]) := by rfl)
    (hs : swapsWithSole [.Tuple [.Name x px, .Name y py] kt pt] (.Tuple [a, b] k2 pt2) pos.line X.env = pure false := by rfl) :
    DSt X (.Assign [.Tuple [.Name x px, .Name y py] kt pt] (.Tuple [a, b] k2 pt2) pos) (tParD i j ta) :=
  ps_imp (ps_par hc hN hi hj hij hx hy ha hw hs) fun E σ H zz31_0 => by obtain ⟨δ, M, hs, a, B, ok, q⟩ := zz31_0; exact (⟨δ, M, _, hs, a, q, fun ds M1 vs H1 g1 r1 a1 z9 => by
    obtain ⟨d, e, z, q1⟩ := z9
    subst z
    obtain ⟨v, u, rfl, r2, r3⟩ := reps2 r1
    exact ⟨v, u, rfl, ok.nx _ _ _ _ g1 (((hs.mono g1).set r2 i).set r3 j) a1 q1⟩⟩)
noncomputable def tWhileD (c : TTD) (tb : TSD) : TSD := fun B δ M => ∃ W : Nat → DS → MH → Prop, (∃ m, W m δ M) ∧ ∀ m δ M, W m δ M →
  c δ M fun b M1 => if b = true then tb { B with nx := fun δ' M' => ∃ m', m' < m ∧ W m' δ' M', ct := fun δ' M' => ∃ m', m' < m ∧ W m' δ' M', bk := B.nx } δ M1 else B.nx δ M1
theorem ds_while {c : Expr} {body : List Stmt} {tc : TTD} {tb : TSD} (hp : PassesOwn (model X.prog X.w) X.A X.env X.xe) (hc : DT X c tc) (hb : DSs X body tb) : DSt X (.While c body [] pos) (tWhileD tc tb) :=
  ps_imp (ps_while hp hc hb) fun E σ H z9 => by
    obtain ⟨δ, M, hs, a, B, ok, W, ⟨m, w0⟩, turn⟩ := z9
    refine ⟨fun m σ H' => Grow X.K H H' ∧ ∃ δ M, Slots X.K H' δ σ ∧ Abs X.K H' M ∧ W m δ M, ⟨m, .refl, δ, M, hs, a, w0⟩, ?_⟩
    rintro m σ H' ⟨g, δ, M, hs, a, w0⟩
    refine ⟨δ, M, _, hs, a, turn m δ M w0, fun b M1 H1 g1 a1 q1 => ?_⟩
    cases b with
    | true =>
      rw [if_pos rfl] at q1 ⊢
      refine ⟨fun σ2 H2 => ∃ m', m' < m ∧ (Grow X.K H H2 ∧ ∃ δ M, Slots X.K H2 δ σ2 ∧ Abs X.K H2 M ∧ W m' δ M), fun σ' H' h => h, δ, M1, hs.mono g1, a1, _, ?_, q1⟩
      refine ⟨fun δ' M' σ' H' g' s' a' zz32_0 => by obtain ⟨m', l, w'⟩ := zz32_0; exact (⟨m', l, (g.trans g1).trans g', δ', M', s', a', w'⟩), fun d M v H' g' => ok.rt d M v H' ((g.trans g1).trans g'), fun δ' M' σ' H' g' s' a' q' => ok.nx _ _ _ _ ((g.trans g1).trans g') s' a' q', fun δ' M' σ' H' g' s' a' zz33_0 => by obtain ⟨m', l, w'⟩ := zz33_0; exact (⟨m', l, (g.trans g1).trans g', δ', M', s', a', w'⟩)⟩
    | false =>
      rw [if_neg Bool.false_ne_true] at q1 ⊢
      exact ok.nx _ _ _ _ (g.trans g1) (hs.mono g1) a1 q1
inductive ForW (g : TGD) (tb : TSD) (B : EndsD) (n : Nat) (δ0 : DS) (M0 : MH) : Prop
  | mk (W : Nat → DS → MH → Prop) (w0 : W 0 δ0 M0) (turn : ∀ i δ M, i < n → W i δ M → g (.int (i : Int)) δ M fun δ2 M2 => tb { B with nx := W (i + 1), ct := W (i + 1), bk := B.nx } δ2 M2) (done : ∀ δ M, W n δ M → B.nx δ M) : ForW g tb B n δ0 M0
inductive ForR (g : TGD) (tb : TSD) (B : EndsD) (ds : List D) (δ0 : DS) (M0 : MH) : Prop
  | mk (n : Nat) (e : ds = [.int (n : Int)]) (q : n < 2 ^ 60 ∧ ForW g tb B n δ0 M0) : ForR g tb B ds δ0 M0
noncomputable def tForRD (ta : TAD) (g : TGD) (tb : TSD) : TSD := fun B δ M => ta δ M fun ds M1 => ForR g tb B ds δ M1
theorem ds_forR {tg e : Expr} {body : List Stmt} {ta : TAD} {g : TGD} {tb : TSD} {p p2 : Pos} (hp : PassesOwn (model X.prog X.w) X.A X.env X.xe) (hc : X.calm = true) (hg : Gl X "range") (hm : X.mg "range" = none) (ha : DA X [e] ta) (hG : DG X tg g) (hb : DSs X body tb)
    (hs : starEach [e] X.env = [(false, eval e X.env)] := by rfl) (hf : ∀ x, foldedSetIterable (.Call (.Name "range" p) [e] [] p2) X.env x = pure x := by intro _; rfl) : DSt X (.For tg (.Call (.Name "range" p) [e] [] p2) body [] pos) (tForRD ta g tb) :=
  ps_imp (ps_for hp hc (pi_range1 hg hm ha hs) hG hb hf) fun E σ H ⟨δ, M, hs, a, B, ok, q⟩ => ⟨δ, M, _, hs, a, q, fun ds M1 vs H1 g1 r1 a1 z9 => by
    obtain ⟨n, e, hn, W, w0, turn, done⟩ := z9
    subst e
    obtain ⟨v, rfl, r⟩ := reps1 r1
    rw [Rep] at r; subst r
    refine ⟨(n : Int), rfl, by omega, by omega, ?_⟩
    rw [show ((n : Int)).toNat = n from by simp]
    refine for_range (fun i σ H' => Grow X.K H H' ∧ ∃ δ M, Slots X.K H' δ σ ∧ Abs X.K H' M ∧ W i δ M) ⟨g1, δ, M1, hs.mono g1, a1, w0⟩ ?_ ?_
    · rintro i σ H2 hi ⟨g2, δ, M, s2, a2, w2⟩
      refine ⟨.int (i : Int), δ, M, _, by rw [Rep]; simp, s2, a2, turn i δ M hi w2, fun δ3 M3 σ3 H3 g3 s3 a3 q3 => ?_⟩
      refine ⟨δ3, M3, s3, a3, _, ?_, q3⟩
      exact ⟨fun δ' M' σ' H' g' s' a' w' => ⟨(g2.trans g3).trans g', δ', M', s', a', w'⟩, fun d M v H' g' => ok.rt d M v H' ((g2.trans g3).trans g'), fun δ' M' σ' H' g' s' a' q' => ok.nx _ _ _ _ ((g2.trans g3).trans g') s' a' q', fun δ' M' σ' H' g' s' a' w' => ⟨(g2.trans g3).trans g', δ', M', s', a', w'⟩⟩
    · rintro σ H2 ⟨g2, δ, M, s2, a2, w2⟩
      exact ok.nx _ _ _ _ g2 s2 a2 (done δ M w2)⟩
end
theorem iteA {b : Bool} {A B : Prop} (e : b = true) (h : A) : if b = true then A else B := by rw [if_pos e]; exact h
theorem iteB {b : Bool} {A B : Prop} (e : b = false) (h : B) : if b = true then A else B := by rw [if_neg (by rw [e]; exact Bool.false_ne_true)]; exact h
theorem orV {ta tb : TD} {δ : DS} {M : MH} {Q : DK} (c1 c2 : Bool) (ha : ∀ K : DK, K (.bl c1) M → ta δ M K) (hb : c1 = false → ∀ K : DK, K (.bl c2) M → tb δ M K) (hq : Q (.bl (c1 || c2)) M) : tOrVD ta tb δ M Q :=
  ha _ ⟨c1, rfl, by
    cases c1 with
    | true => rw [if_pos rfl]; exact hq
    | false => rw [if_neg Bool.false_ne_true]; exact hb rfl _ hq⟩
theorem andV {ta tb : TD} {δ : DS} {M : MH} {Q : DK} (c1 c2 : Bool) (ha : ∀ K : DK, K (.bl c1) M → ta δ M K) (hb : c1 = true → ∀ K : DK, K (.bl c2) M → tb δ M K) (hq : Q (.bl (c1 && c2)) M) : tAndVD ta tb δ M Q :=
  ha _ ⟨c1, rfl, by
    cases c1 with
    | true => rw [if_pos rfl]; exact hb rfl _ hq
    | false => rw [if_neg Bool.false_ne_true]; exact hq⟩
theorem orT {ta tb : TTD} {δ : DS} {M : MH} {Q : Bool → MH → Prop} (c1 c2 : Bool) (ha : ∀ K : Bool → MH → Prop, K c1 M → ta δ M K) (hb : c1 = false → ∀ K : Bool → MH → Prop, K c2 M → tb δ M K) (hq : Q (c1 || c2) M) : tOrD ta tb δ M Q :=
  ha _ (by
    cases c1 with
    | true => rw [if_pos rfl]; exact hq
    | false => rw [if_neg Bool.false_ne_true]; exact hb rfl _ hq)
theorem andT {ta tb : TTD} {δ : DS} {M : MH} {Q : Bool → MH → Prop} (c1 c2 : Bool) (ha : ∀ K : Bool → MH → Prop, K c1 M → ta δ M K) (hb : c1 = true → ∀ K : Bool → MH → Prop, K c2 M → tb δ M K) (hq : Q (c1 && c2) M) : tAndD ta tb δ M Q :=
  ha _ (by
    cases c1 with
    | true => rw [if_pos rfl]; exact hb rfl _ hq
    | false => rw [if_neg Bool.false_ne_true]; exact hq)
noncomputable def tChainD (r r' : R2D) (ta tb tc : TD) : TD := fun δ M Q => ta δ M fun x M1 => tb δ M1 fun y M2 => r x y M2 fun z M3 => ∃ k, z = .bl k ∧ if k = true then tc δ M3 fun u M4 => r' y u M4 Q else Q (.bl false) M3
theorem de_chain {X : Cx} {a b c : Expr} {ta tb tc : TD} {pos : Pos} {op op' : CmpOp} {r r' : R2D} (ho : OpD X (compareOp op) r) (ho' : OpD X (compareOp op') r') (ha : DE X a ta) (hb : DE X b tb) (hc : DE X c tc)
    (hm : lastMarks [op, op'] [b, c] = false := by with_unfolding_all rfl) : DE X (.Compare a [op, op'] [b, c] pos) (tChainD r r' ta tb tc) :=
  pe_imp (pe_chain ho ho' ha hb hc hm) fun σ H Q z9 => by
    obtain ⟨δ, M, R, hs, hM, q, fin⟩ := z9
    refine ⟨δ, M, _, hs, hM, q, fun x M1 v H1 g1 r1 a1 q1 => ?_⟩
    refine ⟨δ, M1, _, hs.mono g1, a1, q1, fun y M2 u H2 g2 r2 a2 q2 => ?_⟩
    refine ⟨x, y, M2, _, r1.mono g2, r2, a2, q2, fun z M3 w H3 g3 r3 a3 zz34_0 => ?_⟩
    obtain ⟨k, e, q3⟩ := zz34_0
    subst e
    rw [Rep] at r3
    refine ⟨k, r3, ?_⟩
    cases k with
    | true =>
      rw [if_pos rfl] at q3 ⊢
      exact ⟨δ, M3, _, hs.mono ((g1.trans g2).trans g3), a3, q3, fun u' M4 w' H4 g4 r4 a4 q4 => ⟨y, u', M4, R, r2.mono (g3.trans g4), r4, a4, q4, fin.go (((g1.trans g2).trans g3).trans g4)⟩⟩
    | false =>
      rw [if_neg Bool.false_ne_true] at q3 ⊢
      exact fin _ _ _ _ ((g1.trans g2).trans g3) (by rw [Rep]) a3 q3
theorem seq_cut {t u : TSD} {B : EndsD} {δ : DS} {M : MH} (W : DS → MH → Prop) (hu : ∀ δ' M', W δ' M' → u B δ' M') (ht : (∀ δ' M', W δ' M' → u B δ' M') → t { B with nx := u B } δ M) : tSeqD t u B δ M := ht hu
noncomputable def Sub (M' M : MH) : Prop := ∀ a o, M' a = some o → M a = some o
noncomputable def SubX (r : Addr) (M' M : MH) : Prop := ∀ a o, a ≠ r → M' a = some o → M a = some o
theorem Sub.refl {M : MH} : Sub M M := fun _ _ h => h
theorem Sub.trans {M M1 M2 : MH} (a : Sub M M1) (b : Sub M1 M2) : Sub M M2 := fun x o h => b x o (a x o h)
theorem Sub.new {M M' : MH} {p : Addr} {o : MO} (hp : M p = none) (s : Sub M' M) : Sub M' (updM M p o) := fun a u h => by
  rw [updM_ne (fun e => by subst e; rw [s _ _ h] at hp; cases hp)]
  exact s _ _ h
theorem SubX.refl {M : MH} {r : Addr} : SubX r M M := fun _ _ _ h => h
theorem SubX.new {M M' : MH} {r p : Addr} {o : MO} (hp : M p = none) (s : SubX r M' M) : SubX r M' (updM M p o) := fun a u ne h => by
  rw [updM_ne (fun e => by subst e; rw [s _ _ ne h] at hp; cases hp)]
  exact s _ _ ne h
theorem SubX.same {M M' : MH} {r : Addr} {o : MO} (s : SubX r M' M) : SubX r M' (updM M r o) := fun a u ne h => by
  rw [updM_ne ne]
  exact s _ _ ne h
theorem Sub.updR {M M' : MH} {r : Addr} {o : MO} (s : SubX r M' M) : Sub (updM M' r o) (updM M r o) := fun a u h => by
  by_cases e : a = r
  · subst e
    rw [updM_same] at h ⊢
    exact h
  · rw [updM_ne e] at h ⊢
    exact s _ _ e h
inductive Ret (Q : DK) (d : D) (M : MH) : Prop
  | mk (M' : MH) (s : Sub M' M) (q : Q d M') : Ret Q d M
theorem rtn {Q : DK} {d : D} {M : MH} (q : Q d M) : Ret Q d M := ⟨M, .refl, q⟩
noncomputable abbrev SpD := List D → MH → DK → Prop
noncomputable def liftSp (K : PySem.W.Frag) (sp : SpD) : Sp := fun vs H Q _ => ∃ ds M R, Reps K H ds vs ∧ Abs K H M ∧ sp ds M R ∧ Fin K H R Q
noncomputable def Cal (P : Program) (w : World) (K : PySem.W.Frag) (mg : Str → Option Value) (base : Heap) (k : Nat) (x : Str) (sp : SpD) : Prop :=
  ∃ f fd ps, FnOk P w K mg base CX0 k f fd ps (liftSp K sp) ∧ mg x = some (.ref f) ∧ PySem.W.keepIn K (.ref f) = true ∧ Binds K fd ps []
theorem Cal.mono {P : Program} {w : World} {K : PySem.W.Frag} {mg : Str → Option Value} {base : Heap} {j k : Nat} {x : Str} {sp : SpD} (h : Cal P w K mg base j x sp) (l : j ≤ k) : Cal P w K mg base k x sp :=
  let ⟨f, fd, ps, F, r⟩ := h; ⟨f, fd, ps, F.mono l, r⟩
section
variable {X : Cx} {k : Nat} {x : Str} {sp : SpD} {p pos : Pos} {e : Expr} {es : List Expr} {t : TAD}
noncomputable def tCallD (sp : SpD) (t : TAD) : TD := fun δ M Q => t δ M fun ds M1 => sp ds M1 Q
theorem de_call (C : Cal X.prog X.w X.K X.mg X.base k x sp) (hr : Room k X.A) (ha : DA X (e :: es) t) (hg : Gl X x := by rfl) (hdb : (x == ("__debug__" : Str)) = false := by decide)
    (he : starEach (e :: es) X.env = (false, eval e X.env) :: starEach es X.env := by rfl) (hpl : (backTo pos (starEach es X.env)).any (·.1) = false := by rfl) : DE X (.Call (.Name x p) (e :: es) [] pos) (tCallD sp t) := by
  obtain ⟨f, fd, ps, F, hm, hk, hb⟩ := C
  refine pe_imp (pe_call F hr hg hm hk hb .nil pass0 ha hdb he hpl) fun σ H Q zz35_0 => ?_
  obtain ⟨δ, M, R, hs, hM, q, fin⟩ := zz35_0
  refine ⟨δ, M, _, hs, hM, q, fun ds M1 vs H1 g1 r1 a1 q1 => ?_⟩
  show liftSp X.K sp (vs ++ []) H1 Q E0
  rw [List.append_nil]
  exact ⟨ds, M1, R, r1, a1, q1, fin.go g1⟩
end
noncomputable def startD (N : List Str) (ds : List D) : DS := ds.map some ++ List.replicate (N.length - ds.length) none
section
variable {P : Program} {w : World} {K : PySem.W.Frag} {mg : Str → Option Value} {base : Heap}
theorem fnD {x qual : Str} {st : Stmt} {f : Addr} {fd : FuncData} {N ps : List Str} {k : Nat} {sp : SpD} (F : Fun K x qual st f fd) (S : FnScope N ps (defScope st)) (len : ∀ ds M Q, sp ds M Q → ds.length = ps.length)
    (hbody : ∀ X : Cx, X.prog = P → True) (body : ∀ (cdv : Value) (A : Around) (outer : List Env) (s : Shared) (H : Hp) (E : XK), Room k (A.deeper (envOfC qual (defScope st) s.heap.objs.size f cdv)) →
      ∃ t, DSs (cxOf CX0 P w K mg base N qual (defScope st) f cdv A outer s H E).nox (defBody st) t ∧ ∀ ds M Q, sp ds M Q → t { nx := fun _ M' => Ret Q .non M', rt := Ret Q } (startD N ds) M) : FnOk P w K mg base CX0 (k + 1) f fd ps (liftSp K sp) := by
  refine F.ok S (fun vs H Q E zz36_0 => by obtain ⟨ds, M, R, rs, _, q, _⟩ := zz36_0; rw [← rs.length]; exact len _ _ _ q) fun cdv A outer s H vs Q E hr zz37_0 => ?_
  obtain ⟨ds, M, R, rs, a, q, fin⟩ := zz37_0
  obtain ⟨t, h, hq⟩ := body cdv A outer s H E hr
  refine ⟨_, h, startD N ds, M, slots_start rs, a, { nx := fun _ M' => Ret R .non M', rt := Ret R }, ⟨fun δ' M' σ' H' g s' a' q' => ?_, fun d M' v H' g r a' zz38_0 => by obtain ⟨M2, s2, q'⟩ := zz38_0; exact (fin _ _ _ _ g r (a'.sub s2) q'), fun _ _ _ _ _ _ _ z => z, fun _ _ _ _ _ _ _ z => z⟩, hq ds M R q⟩
  obtain ⟨M2, s2, q'⟩ := q'
  exact fin .non M2 .non H' g (by rw [Rep]) (a'.sub s2) q'
noncomputable def Txt (K : PySem.W.Frag) (mg : Str → Option Value) (x : Str) (st : Stmt) : Prop := ∃ f fd, Fun K x x st f fd ∧ mg x = some (.ref f)
theorem Txt.mk {h : Heap} {x : Str} {st : Stmt} {f : Addr} {oc : Value} {od an : Option Addr} {osl : Array (Option Value)} {kV doc pm cdv ct : Value} (X : K.In h) (G : h.Ns mainGlobals mg) (a : PySem.W.nsIn K mainGlobals x = some (some (.ref f)))
    (l : K.lookup f = some ⟨oc, od, .func (PySem.W.fnOf x x (defArgs st) (defBody st) (defScope st) .none kV doc pm an cdv ct), osl⟩)
    (c : PySem.W.codeIn K cdv x = true) (k : PySem.W.keepIn K (.ref f) = true) : Txt K mg x st := ⟨f, _, fun_mk l c k, PySem.W.mg_of X G a⟩
theorem calD {x : Str} {st : Stmt} {N ps : List Str} {k : Nat} {sp : SpD} (T : Txt K mg x st) (S : FnScope N ps (defScope st))
    (hb : ∀ (kV doc pm : Value) (an : Option Addr) (cdv ct : Value) (us : List Value), us.length = ps.length → bindArgs (PySem.W.fnOf x x (defArgs st) (defBody st) (defScope st) .none kV doc pm an cdv ct) ⟨us, []⟩ = pure (ps.zip us))
    (len : ∀ ds M Q, sp ds M Q → ds.length = ps.length)
    (body : ∀ (f : Addr) (cdv : Value) (A : Around) (outer : List Env) (s : Shared) (H : Hp) (E : XK), Room k (A.deeper (envOfC x (defScope st) s.heap.objs.size f cdv)) →
      ∃ t, DSs (cxOf CX0 P w K mg base N x (defScope st) f cdv A outer s H E).nox (defBody st) t ∧ ∀ ds M Q, sp ds M Q → t { nx := fun _ M' => Ret Q .non M', rt := Ret Q } (startD N ds) M) : Cal P w K mg base (k + 1) x sp := by
  obtain ⟨f, fd, F, hm⟩ := T
  exact ⟨f, fd, ps, fnD F S len (fun _ _ => trivial) (body f), hm, F.kp, F.binds hb⟩
end
end SD
set_option Elab.async false
set_option linter.all false
set_option maxRecDepth 100000
namespace SD
open PySem PySem.Spec PyProof.Rows L2
theorem bt_abs : bootBuiltins "abs" = some (.builtin "abs") := by decide +kernel
theorem bt_max : bootBuiltins "max" = some (.builtin "max") := by decide +kernel
theorem bt_min : bootBuiltins "min" = some (.builtin "min") := by decide +kernel
theorem bt_len : bootBuiltins "len" = some (.builtin "len") := by decide +kernel
theorem bt_all : bootBuiltins "all" = some (.builtin "all") := by decide +kernel
theorem bt_isinstance : bootBuiltins "isinstance" = some (.builtin "isinstance") := by decide +kernel
theorem bt_tuple : bootBuiltins "tuple" = some (.type "tuple") := by decide +kernel
theorem bt_list : bootBuiltins "list" = some (.type "list") := by decide +kernel
theorem bt_int : bootBuiltins "int" = some (.type "int") := by decide +kernel
theorem bt_str : bootBuiltins "str" = some (.type "str") := by decide +kernel
section
variable {P : Program} {w : World} {K : PySem.W.Frag} {mg : Str → Option Value}
theorem lawD {x : Str} {st : Stmt} {N : List Str} {p : Str} {k : Nat} {sp : SpD} {fa : Addr} (T : Txt K mg x st) (hfa : mg x = some (.ref fa)) (S : FnScope N [p] (defScope st))
    (hb : ∀ (kV doc pm : Value) (an : Option Addr) (cdv ct : Value) (us : List Value), us.length = [p].length → bindArgs (PySem.W.fnOf x x (defArgs st) (defBody st) (defScope st) .none kV doc pm an cdv ct) ⟨us, []⟩ = pure ([p].zip us))
    (len : ∀ ds M Q, sp ds M Q → ds.length = [p].length)
    (body : ∀ (base : Heap) (f : Addr) (cdv : Value) (A : Around) (outer : List Env) (s : Shared) (H : Hp) (E : XK), Room k (A.deeper (envOfC x (defScope st) s.heap.objs.size f cdv)) →
      ∃ t, DSs (cxOf CX0 P w K mg base N x (defScope st) f cdv A outer s H E).nox (defBody st) t ∧ ∀ ds M Q, sp ds M Q → t { nx := fun _ M' => Ret Q .non M', rt := Ret Q } (startD N ds) M) :
    ∃ fd, (∀ (s : Shared) (u : Value), BindsTo s fd ⟨[u], []⟩ [(p, u)]) ∧ ∀ base : Heap, FnOk P w K mg base CX0 (k + 1) fa fd [p] (liftSp K sp) := by
  obtain ⟨f, fd, F, hm⟩ := T
  have e := hfa.symm.trans hm
  cases e
  refine ⟨fd, fun s u => ?_, fun base => fnD F S len (fun _ _ => trivial) (body base _)⟩
  obtain ⟨oc, od, kV, doc, pm, an, cdv, ct, osl, rfl, lk, hcd⟩ := F.ex
  exact .of_eq (hb kV doc pm an cdv ct [u] rfl)
end
theorem law_walk {l : PySem.W.OpenLaw} {k : Nat} {q : Program} {loose : List Str} {XP : (Str → Option Value) → Heap → Prop} {YP : World → Heap → Prop} {d : DefRec} {K : Params → PySem.W.Frag} {sp : SpD} {x : Str}
    (hn : l.most = some 63) (hdf : d.params.defaults = []) (hr : Room k callerA)
    (hY : ∀ (w : World) (h : Heap), YP w h → (K w.params).In h)
    (F : ∀ (w : World) (mg : Str → Option Value) (fa : Addr) (h : Heap), (K w.params).In h → h.Ns mainGlobals mg → mg d.name = some (.ref fa) →
      ∃ fd : FuncData, (∀ (s : Shared) (u : Value), BindsTo s fd ⟨[u], []⟩ [(x, u)]) ∧
        ∀ base : Heap, FnOk l.prog w (K w.params) mg base CX0 k fa fd [x] (liftSp (K w.params) sp))
    (hsp : ∀ (ns : List Int) (M : MH), ns.length ≤ 63 → sp [.rol (ns.map D.int)] M (fun d _ => d = .bl true)) :
    PySem.W.WalkO q loose XP YP l.row.toRowW d [] (fun f vs => PySem.call f vs) := by
  refine walk_of (x := x) (n := 63) (CX := fun _ => CX0) (sp := fun w => liftSp (K w.params) sp) hn (by decide) hdf hr hY (fun w mg fa h a b c => ?_) (fun w H a ns hl hO hS => ?_) fun _ _ _ _ _ z => z
  · obtain ⟨fd, h1, h2⟩ := F w mg fa h a b c
    exact ⟨fd, h1, fun base _ _ => h2 base⟩
  · have hF : SqF (K w.params) H a (ns.map V.int) := by
      rcases hS with (z | z) | z
      · rcases hO a with y | ⟨o, xs, y⟩
        · rw [z] at y; cases y
        · rw [z] at y; cases y
      · exact .inl z
      · exact .inr z
    refine ⟨[.rol (ns.map D.int)], fun _ => none, _, .cons (by rw [Rep]; exact ⟨a, _, rfl, hF, reps_ints ns⟩) .nil, (fun _ _ e => nomatch e : Abs (K w.params) H fun _ => none), hsp ns _ hl, fun d M' v H' g r a' e => ?_⟩
    subst e
    rw [Rep] at r
    exact r
end SD
set_option Elab.async false
set_option linter.all false
set_option maxRecDepth 100000
namespace Ma
open PySem PySem.Spec PyProof.Rows L2 SD
noncomputable abbrev fr (q : Rat) : D := .tup [.int q.num, .int (q.den : Int)]
theorem den_pos (q : Rat) : (0 : Int) < (q.den : Int) := by have := q.den_pos; omega
noncomputable def Bq (n : Nat) (q : Rat) : Prop := Bd n q.num ∧ Bd n (q.den : Int)
theorem Bq.mono {m n : Nat} {q : Rat} (h : Bq m q) (l : m ≤ n) : Bq n q := ⟨h.1.mono l, h.2.mono l⟩
theorem fdiv_pos {t b : Int} (hb : 0 < b) : t.fdiv b = t / b := Int.fdiv_eq_ediv_of_nonneg _ (by omega)
theorem fdiv_neg {t b : Int} (hd : b ∣ t) (hb : 0 < b) : t.fdiv (-b) = -(t / b) := by
  obtain ⟨c, rfl⟩ := hd
  have hb' : b ≠ 0 := by omega
  rw [Int.mul_ediv_cancel_left _ hb']
  have : b * c = -b * -c := by rw [Int.neg_mul_neg]
  rw [this]
  exact Int.mul_fdiv_cancel_left _ (by omega)
theorem g_dvd_l (t b : Int) : ((Nat.gcd t.natAbs b.natAbs : Nat) : Int) ∣ t := Int.ofNat_dvd_left.mpr (Nat.gcd_dvd_left _ _)
theorem g_dvd_r (t b : Int) : ((Nat.gcd t.natAbs b.natAbs : Nat) : Int) ∣ b := Int.ofNat_dvd_left.mpr (Nat.gcd_dvd_right _ _)
theorem gcd_comm' (t b : Int) : Int.gcd b t = Nat.gcd t.natAbs b.natAbs := by
  unfold Int.gcd
  exact Nat.gcd_comm _ _
theorem g_pos {t b : Int} (hb : b ≠ 0) : 0 < Nat.gcd t.natAbs b.natAbs := Nat.gcd_pos_of_pos_right _ (by omega)
theorem low_pos {t b : Int} (hb : 0 < b) : t.fdiv (Nat.gcd t.natAbs b.natAbs : Nat) = (Rat.divInt t b).num ∧ b.fdiv (Nat.gcd t.natAbs b.natAbs : Nat) = ((Rat.divInt t b).den : Int) := by
  have hg := g_pos (t := t) (b := b) (by omega)
  rw [fdiv_pos (by omega), fdiv_pos (by omega), Rat.num_divInt, Rat.den_divInt, if_neg (by omega), Int.sign_eq_one_of_pos hb, Int.one_mul, gcd_comm']
  refine ⟨rfl, ?_⟩
  rw [Int.natCast_ediv]
  congr 1
  omega
theorem low_neg {t b : Int} (hb : b < 0) : t.fdiv (-((Nat.gcd t.natAbs b.natAbs : Nat) : Int)) = (Rat.divInt t b).num ∧ b.fdiv (-((Nat.gcd t.natAbs b.natAbs : Nat) : Int)) = ((Rat.divInt t b).den : Int) := by
  have hg := g_pos (t := t) (b := b) (by omega)
  rw [fdiv_neg (g_dvd_l t b) (by omega), fdiv_neg (g_dvd_r t b) (by omega), Rat.num_divInt, Rat.den_divInt, if_neg (by omega), Int.sign_eq_neg_one_of_neg hb, gcd_comm']
  constructor
  · rw [show (-1 : Int) * t = -t from by omega, Int.neg_ediv_of_dvd (g_dvd_l t b)]
  · rw [Int.natCast_ediv, show ((b.natAbs : Nat) : Int) = -b from by omega, Int.neg_ediv_of_dvd (g_dvd_r t b)]
theorem divInt_len {t b : Int} (hb : b ≠ 0) : (Rat.divInt t b).num.natAbs ≤ t.natAbs ∧ (Rat.divInt t b).den ≤ b.natAbs := by
  constructor
  · rw [Rat.num_divInt]
    refine Nat.le_trans (Int.natAbs_ediv_le_natAbs _ _) ?_
    rw [Int.natAbs_mul]
    rcases Int.lt_trichotomy b 0 with h | h | h
    · rw [Int.sign_eq_neg_one_of_neg h]; simp
    · exact absurd h hb
    · rw [Int.sign_eq_one_of_pos h]; simp
  · rw [Rat.den_divInt, if_neg hb]
    exact Nat.div_le_self _ _
theorem Bq.divInt {n : Nat} {t b : Int} (hb : b ≠ 0) (h1 : Bd n t) (h2 : Bd n b) : Bq n (Rat.divInt t b) := by
  obtain ⟨a1, a2⟩ := divInt_len (t := t) hb
  exact ⟨Nat.lt_of_le_of_lt a1 h1, Nat.lt_of_le_of_lt (by simpa using a2) h2⟩
theorem mod_nat (x y : Nat) : Int.fmod (x : Int) (y : Int) = ((x % y : Nat) : Int) := by
  rw [Int.fmod_eq_emod_of_nonneg _ (by omega)]
  rfl
theorem eqv_fr (q r : Rat) : PyData.eqv (.tuple [.int q.num, .int (q.den : Int)]) (.tuple [.int r.num, .int (r.den : Int)]) = decide (q = r) := by
  simp only [PyData.eqv, PyData.eqvAll, Bool.and_true]
  by_cases h : q = r
  · subst h; simp
  · rw [decide_eq_false h]
    rw [Bool.eq_false_iff]
    intro z
    rw [Bool.and_eq_true, beq_iff_eq, beq_iff_eq] at z
    exact h (Rat.ext z.1 (by have := z.2; omega))
theorem lt_fr (q r : Rat) : decide (q.num * (r.den : Int) < r.num * (q.den : Int)) = decide (q < r) := by
  rw [decide_eq_decide, Rat.lt_iff]
noncomputable abbrev spt (a b : Rat) : D := .tup [fr a, fr b]
theorem eqv_spt (a b c d : Rat) : PyData.eqv (.tuple [.tuple [.int a.num, .int (a.den : Int)], .tuple [.int b.num, .int (b.den : Int)]]) (.tuple [.tuple [.int c.num, .int (c.den : Int)], .tuple [.int d.num, .int (d.den : Int)]]) = decide (a = c ∧ b = d) := by
  rw [PyData.eqv, PyData.eqvAll, PyData.eqvAll, PyData.eqvAll, eqv_fr, eqv_fr, Bool.and_true, Bool.decide_and]
theorem den_ne (q : Rat) : (q.den : Int) ≠ 0 := by have := q.den_pos; omega
theorem add_eq (q r : Rat) : Rat.divInt (q.num * (r.den : Int) + r.num * (q.den : Int)) ((q.den : Int) * (r.den : Int)) = q + r := by
  rw [← Rat.divInt_add_divInt _ _ (den_ne q) (den_ne r), Rat.num_divInt_den, Rat.num_divInt_den]
theorem sub_eq (q r : Rat) : Rat.divInt (q.num * (r.den : Int) - r.num * (q.den : Int)) ((q.den : Int) * (r.den : Int)) = q - r := by
  rw [← Rat.divInt_sub_divInt _ _ (den_ne q) (den_ne r), Rat.num_divInt_den, Rat.num_divInt_den]
theorem mul_eq (q r : Rat) : Rat.divInt (q.num * r.num) ((q.den : Int) * (r.den : Int)) = q * r := by
  rw [← Rat.divInt_mul_divInt, Rat.num_divInt_den, Rat.num_divInt_den]
theorem div_eq (q r : Rat) : Rat.divInt (q.num * (r.den : Int)) ((q.den : Int) * r.num) = q / r := by
  rw [← Rat.divInt_mul_divInt, Rat.num_divInt_den, ← Rat.inv_divInt, Rat.num_divInt_den, Rat.div_def]
theorem dd_ne (q r : Rat) : (q.den : Int) * (r.den : Int) ≠ 0 := Int.mul_ne_zero (den_ne q) (den_ne r)
theorem Bq.t_add {n : Nat} {q r : Rat} (a : Bq n q) (b : Bq n r) : Bd (2 * n + 1) (q.num * (r.den : Int) + r.num * (q.den : Int)) := ((a.1.mul b.2).add (b.1.mul a.2)).mono (by omega)
theorem Bq.t_sub {n : Nat} {q r : Rat} (a : Bq n q) (b : Bq n r) : Bd (2 * n + 1) (q.num * (r.den : Int) - r.num * (q.den : Int)) := ((a.1.mul b.2).sub (b.1.mul a.2)).mono (by omega)
theorem Bq.t_mul {n : Nat} {q r : Rat} (a : Bq n q) (b : Bq n r) : Bd (2 * n + 1) (q.num * r.num) := (a.1.mul b.1).mono (by omega)
theorem Bq.t_den {n : Nat} {q r : Rat} (a : Bq n q) (b : Bq n r) : Bd (2 * n + 1) ((q.den : Int) * (r.den : Int)) := (a.2.mul b.2).mono (by omega)
theorem Bq.add {n : Nat} {q r : Rat} (a : Bq n q) (b : Bq n r) : Bq (2 * n + 1) (q + r) := by rw [← add_eq]; exact .divInt (dd_ne q r) (a.t_add b) (a.t_den b)
theorem Bq.sub {n : Nat} {q r : Rat} (a : Bq n q) (b : Bq n r) : Bq (2 * n + 1) (q - r) := by rw [← sub_eq]; exact .divInt (dd_ne q r) (a.t_sub b) (a.t_den b)
theorem Bq.mul {n : Nat} {q r : Rat} (a : Bq n q) (b : Bq n r) : Bq (2 * n + 1) (q * r) := by rw [← mul_eq]; exact .divInt (dd_ne q r) (a.t_mul b) (a.t_den b)
theorem Bq.neg {n : Nat} {q : Rat} (a : Bq n q) : Bq n (-q) := ⟨by rw [Rat.neg_num]; exact a.1.neg, by rw [Rat.neg_den]; exact a.2⟩
theorem Bq.mOk {n : Nat} {q r : Rat} (a : Bq n q) (b : Bq n r) (h : n ≤ 8000) : IntMulOk q.num r.num ∧ IntMulOk q.num (r.den : Int) ∧ IntMulOk r.num (q.den : Int) ∧ IntMulOk (q.den : Int) (r.den : Int) :=
  have m : ∀ {i : Int}, Bd n i → Bd 1000000 i := fun z => z.mono (by omega)
  ⟨mulOk (m a.1) (m b.1), mulOk (m a.1) (m b.2), mulOk (m b.1) (m a.2), mulOk (m a.2) (m b.2)⟩
noncomputable def sgn (z : Rat) : Int := if 0 < z then 1 else if z < 0 then -1 else 0
noncomputable def cr (a b c d x y : Rat) : Rat := (c - a) * (y - b) - (d - b) * (x - a)
noncomputable abbrev wll (a b c d : Rat) : D := .tup [spt a b, spt c d]
noncomputable def ah (a b c d : Rat) : Prop := a < c ∨ a = c ∧ b < d
noncomputable instance (a b c d : Rat) : Decidable (ah a b c d) := inferInstanceAs (Decidable (_ ∨ _))
theorem sgn_zero (z : Rat) : sgn z = 0 ↔ z = 0 := by
  unfold sgn
  split
  · grind
  · split <;> grind
noncomputable def absq (q : Rat) : Rat := if q < 0 then -q else q
theorem Bq.absq {n : Nat} {q : Rat} (h : Bq n q) : Bq n (absq q) := by
  unfold Ma.absq
  split
  · exact h.neg
  · exact h
theorem pos_int {i : Int} (h : 0 < i) : (0 : Rat) < (i : Rat) := by
  rw [Rat.lt_iff]
  simpa using h
theorem pick {xs : List Int} {v : Int} (h0 : 0 ≤ v) (h1 : v < xs.length) {P : Int → Prop} (h : ∀ m ∈ xs, P m) : ∃ m, atI (xs.map D.int) v = some (.int m) ∧ P m := by
  obtain ⟨j, rfl⟩ : ∃ j : Nat, v = (j : Int) := ⟨v.toNat, by omega⟩
  have hj : j < xs.length := by omega
  exact ⟨xs[j], atI_nat (by simp [hj]), h _ (List.getElem_mem hj)⟩
theorem bd110 {i : Int} (h1 : -(10 ^ 31) ≤ i) (h2 : i ≤ 10 ^ 31) : Bd 110 i := by
  show i.natAbs < 2 ^ 110
  omega
end Ma
set_option Elab.async false
set_option linter.all false
set_option maxRecDepth 100000
namespace SD
open PySem PySem.Spec PyProof.Rows L2
noncomputable def clOf (names : List (Str × NameKind)) (env : Env) : List (Str × Addr) := (names.filter fun y => y.2 == .free).reverse.map fun y => (y.1, (env.cells.lookup y.1).getD 0)
theorem closure_eq {scope : Scope} {env : Env} (h : ∀ y ∈ scope.names, y.2 = .free → ∃ c, env.cells.lookup y.1 = some c) : closureFor scope env = pure (clOf scope.names env) := by
  have key : ∀ (names : List (Str × NameKind)) (acc : List (Str × Addr)), (∀ y ∈ names, y.2 = .free → ∃ c, env.cells.lookup y.1 = some c) →
      (forIn names acc (fun (x : Str × NameKind) (r : List (Str × Addr)) => if (x.2 == NameKind.free) = true then do let a ← cellOf env x.1; pure (ForInStep.yield ((x.1, a) :: r)) else pure (ForInStep.yield r)) : Sem (List (Str × Addr))) = pure (clOf names env ++ acc) := by
    intro names
    induction names with
    | nil => intro acc _; rfl
    | cons y ys ih =>
      intro acc hy
      obtain ⟨n, k⟩ := y
      rw [List.forIn_cons]
      by_cases hk : (k == NameKind.free) = true
      · obtain ⟨c, hc⟩ := hy (n, k) (List.mem_cons_self ..) (by simpa using hk)
        have e1 : cellOf env n = pure c := by unfold cellOf; rw [hc]
        dsimp only
        rw [if_pos hk, e1]
        simp only [pure_bind]
        rw [ih _ fun y hm => hy y (List.mem_cons_of_mem _ hm)]
        unfold clOf
        rw [List.filter_cons_of_pos (by simpa using hk), List.reverse_cons, List.map_append, List.append_assoc]
        simp [hc]
      · dsimp only
        rw [if_neg hk]
        simp only [pure_bind]
        rw [ih _ fun y hm => hy y (List.mem_cons_of_mem _ hm)]
        unfold clOf
        rw [List.filter_cons_of_neg (by simpa using hk)]
  have := key scope.names [] h
  rw [List.append_nil] at this
  unfold closureFor
  exact Eq.trans (congrArg (fun t : Sem (List (Str × Addr)) => t >>= fun cs => pure cs) this) rfl
theorem lookup_clOf {env : Env} {y : Str} {c : Addr} : ∀ {names : List (Str × NameKind)}, (∀ z ∈ names, z.2 = .free → ∃ c, env.cells.lookup z.1 = some c) → (clOf names env).lookup y = some c → env.cells.lookup y = some c := by
  intro names h e
  have hm := PySem.mem_of_lookup e
  unfold clOf at hm
  obtain ⟨z, hz, e2⟩ := List.mem_map.mp hm
  rw [List.mem_reverse, List.mem_filter] at hz
  obtain ⟨c', hc⟩ := h z hz.1 (by simpa using hz.2)
  rw [hc] at e2
  cases e2
  exact hc
theorem has_clOf {env : Env} {y : Str} {names : List (Str × NameKind)} (hm : (y, NameKind.free) ∈ names) : ∃ c, (clOf names env).lookup y = some c := by
  cases e : (clOf names env).lookup y with
  | some c => exact ⟨c, rfl⟩
  | none =>
    have := List.lookup_eq_none_iff.mp e (y, (env.cells.lookup y).getD 0) (List.mem_map.mpr ⟨(y, .free), List.mem_reverse.mpr (List.mem_filter.mpr ⟨hm, rfl⟩), rfl⟩)
    simp at this
theorem lookup_relabel {env : Env} (hk : env.scope.kind = .function) : ∀ {names : List (Str × NameKind)} {y : Str} {k : NameKind},
    (names.map fun (n, k) => if (k == NameKind.free && env.scope.kind == .function && env.kindOf n == some .cell) then (n, NameKind.cell) else (n, k)).lookup y = some k →
      names.lookup y = some k ∨ (k = .cell ∧ names.lookup y = some .free)
  | [], _, _, h => by simp at h
  | (n, q) :: r, y, k, h => by
    have ih := @lookup_relabel env hk r y k
    rw [List.map_cons] at h
    dsimp only at h
    by_cases hy : (y == n) = true
    · by_cases hc : (q == NameKind.free && env.scope.kind == .function && env.kindOf n == some .cell) = true
      · rw [if_pos hc, List.lookup_cons, hy] at h
        have hf : q = .free := by
          rw [Bool.and_eq_true, Bool.and_eq_true] at hc
          simpa using hc.1.1
        cases h
        right
        exact ⟨rfl, by rw [List.lookup_cons, hy, hf]⟩
      · rw [if_neg hc, List.lookup_cons, hy] at h
        left
        rw [List.lookup_cons, hy]; exact h
    · have hy' : (y == n) = false := by simpa using hy
      have h' : (r.map fun (n, k) => if (k == NameKind.free && env.scope.kind == .function && env.kindOf n == some .cell) then (n, NameKind.cell) else (n, k)).lookup y = some k := by
        split at h
        · rw [List.lookup_cons, hy'] at h; exact h
        · rw [List.lookup_cons, hy'] at h; exact h
      rw [List.lookup_cons, hy']
      exact ih h'
end SD
set_option Elab.async false
set_option linter.all false
set_option maxRecDepth 100000
namespace SD
open PySem PySem.Spec PyProof.Rows L2
theorem pi_imp {X : Cx} {tg iter : Expr} {wi wi' : TI} (h : PI X tg iter wi) (k : ∀ σ H R, wi' σ H R → wi σ H R) : PI X tg iter wi' := fun pins s σ H R I q => h pins s σ H R I (k _ _ _ q)
noncomputable def iSeq (K : PySem.W.Frag) (tl : TE) : TI := fun σ H R => tl σ H fun x H1 => ∃ a, x = .ref a ∧ (((∃ xs, SqL K H1 a xs) ∧ R (Itl K a) H1) ∨ ((∃ xs, SqT K H1 a xs) ∧ R (Itt K a) H1))
theorem pi_seq {X : Cx} {tg l : Expr} {tl : TE} (hl : PE X l tl) : PI X tg l (iSeq X.K tl) := by
  intro pins s σ H R I h
  refine thn (hl pins s σ H _ I h) fun v s1 zz39_0 => ?_
  obtain ⟨x, H1, I1, r1, q1⟩ := zz39_0
  obtain ⟨a, e, z⟩ := q1
  subst e
  cases r1
  have fp : ∀ b ∈ [s1.heap.objs.size], FpOk X pins H1 b := fun b hb => by
    obtain rfl : b = s1.heap.objs.size := by simpa using hb
    exact I1.fpOk (Nat.le_refl _) (I1.hok.fresh (Nat.le_refl _))
  rcases z with ⟨⟨xs, hq⟩, q⟩ | ⟨⟨xs, hq⟩, q⟩
  · obtain ⟨its, rv, p, hz⟩ := I1.list hq
    exact wpAny_pyIter_list p.isList ⟨_, [s1.heap.objs.size], _, _, H1, rfl, I1.kept (t' := s1.toks) fun b o e => Heap.get?_push_of_some _ e, turn_list a _, ⟨_, Heap.get?_push_size _ rfl, rfl, rfl⟩, fp, q⟩
  · obtain ⟨its, rv, p, hz⟩ := I1.tuple hq
    exact wpAny_pyIter_tuple (show s1.heap.IsTuple a its.toArray from p) ⟨_, [s1.heap.objs.size], _, _, H1, rfl, I1.kept (t' := s1.toks) fun b o e => Heap.get?_push_of_some _ e, turn_tuple a _, ⟨_, Heap.get?_push_size _ rfl, rfl, rfl⟩, fp, q⟩
structure ItD where
  n : Nat
  item : Nat → Option D
  C : MH → Prop
noncomputable abbrev TID := DS → MH → (ItD → MH → Prop) → Prop
structure ItOk (K : PySem.W.Frag) (H1 : Hp) (I : ItD) (J : It) : Prop where
  stop : ∀ H2 M2, Grow K H1 H2 → Abs K H2 M2 → I.C M2 → J.stop I.n H2
  go : ∀ i H2 M2, i < I.n → Grow K H1 H2 → Abs K H2 M2 → I.C M2 → J.go i H2
  yld : ∀ i H2 M2 v H3, i < I.n → Grow K H1 H2 → Abs K H2 M2 → I.C M2 → J.yld i H2 v H3 → Grow K H2 H3 ∧ Abs K H3 M2 ∧ ∃ d, I.item i = some d ∧ Rep K H3 d v
noncomputable def liftI (K : PySem.W.Frag) (t : TID) : TI := fun σ H R => ∃ δ M RD, Slots K H δ σ ∧ Abs K H M ∧ t δ M RD ∧ ∀ I M' H' J, Grow K H H' → Abs K H' M' → RD I M' → ItOk K H' I J → R J H'
noncomputable def DI (X : Cx) (tg iter : Expr) (t : TID) : Prop := PI X tg iter (liftI X.K t)
noncomputable def seqD (M : MH) : D → List D → Prop
  | .tup ds, es => es = ds
  | .rol ds, es => es = ds
  | .ref a, es => M a = some (.lst es)
  | _, _ => False
inductive Rn1 (ds : List D) (M : MH) (R : ItD → MH → Prop) : Prop
  | mk (n : Nat) (h : ds = [.int (n : Int)]) (q : n < 2 ^ 60 ∧ R ⟨n, fun i => some (.int (i : Int)), fun _ => True⟩ M) : Rn1 ds M R
inductive Sq1 (d : D) (M : MH) (R : ItD → MH → Prop) : Prop
  | mk (ds : List D) (h : seqD M d ds) (q : R ⟨ds.length, fun i => ds[i]?, fun M => seqD M d ds⟩ M) : Sq1 d M R
noncomputable def dRng1 (ta : TAD) : TID := fun δ M R => ta δ M fun ds M1 => Rn1 ds M1 R
noncomputable def dRng2 (ta : TAD) : TID := fun δ M R => ta δ M fun ds M1 => ∃ lo hi : Int, ds = [.int lo, .int hi] ∧ (-(2 ^ 60) ≤ lo ∧ lo < 2 ^ 60 ∧ -(2 ^ 60) ≤ hi ∧ hi < 2 ^ 60) ∧ R ⟨(hi - lo).toNat, fun i => some (.int (lo + i)), fun _ => True⟩ M1
noncomputable def dSeq (tl : TD) : TID := fun δ M R => tl δ M fun d M1 => Sq1 d M1 R
section
variable {X : Cx} {tg : Expr}
theorem di_range1 {a : Expr} {ta : TAD} {p pos : Pos} (hg : Gl X "range") (hm : X.mg "range" = none) (ha : DA X [a] ta) (hs : starEach [a] X.env = [(false, eval a X.env)] := by rfl) : DI X tg (.Call (.Name "range" p) [a] [] pos) (dRng1 ta) :=
  pi_imp (pi_range1 hg hm ha hs) fun σ H R ⟨δ, M, RD, hs, hM, q, fin⟩ => ⟨δ, M, _, hs, hM, q, fun ds M1 vs H1 g1 r1 a1 z9 => by
    obtain ⟨n, e, hn, q1⟩ := z9
    subst e
    obtain ⟨v, rfl, r⟩ := reps1 r1
    rw [Rep] at r; subst r
    refine ⟨(n : Int), rfl, by omega, by omega, fin _ M1 H1 _ g1 a1 q1 ⟨fun _ _ _ _ _ => by show ((n : Int)).toNat ≤ n; simp, fun i _ _ hi _ _ _ => by show i < ((n : Int)).toNat; simpa using hi, ?_⟩⟩
    rintro i H2 M2 v H3 hi g2 a2 _ ⟨rfl, rfl⟩
    exact ⟨.refl, a2, _, rfl, by rw [Rep]; simp⟩⟩
theorem di_seq {l : Expr} {tl : TD} (hl : DE X l tl) : DI X tg l (dSeq tl) :=
  pi_imp (pi_seq hl) fun σ H R ⟨δ, M, RD, hs, hM, q, fin⟩ => ⟨δ, M, _, hs, hM, q, fun d M1 v H1 g1 r1 a1 z9 => by
    obtain ⟨ds, sq, q1⟩ := z9
    cases d with
    | tup es =>
      obtain rfl : ds = es := sq
      rw [Rep] at r1
      obtain ⟨a, xs, rfl, hq, rs⟩ := r1
      refine ⟨a, rfl, .inr ⟨⟨xs, hq⟩, fin _ M1 H1 _ g1 a1 q1 ⟨fun H2 _ g2 _ _ => ⟨xs, g2.t _ _ hq, by rw [rs.length]; exact Nat.le_refl _⟩, fun i H2 _ hi g2 _ _ => ?_, ?_⟩⟩⟩
      · have hi' : i < xs.length := by rw [← rs.length]; exact hi
        exact ⟨xs, xs[i], g2.t _ _ hq, by simp [hi']⟩
      · rintro i H2 M2 v H3 hi g2 a2 _ ⟨rfl, hy⟩
        have hi : i < ds.length := hi
        obtain ⟨x, e1, e2⟩ := (rs.mono g2).get (show ds[i]? = some ds[i] by simp [hi])
        have := hy xs (g2.t _ _ hq)
        rw [e1] at this; cases this
        exact ⟨.refl, a2, _, by simp [hi], e2⟩
    | rol es =>
      obtain rfl : ds = es := sq
      rw [Rep] at r1
      obtain ⟨a, xs, rfl, hq, rs⟩ := r1
      refine ⟨a, rfl, .inl ⟨⟨xs, hq.sql⟩, fin _ M1 H1 _ g1 a1 q1 ⟨fun H2 _ g2 _ _ => ⟨xs, (g2.f _ _ hq).sql, by rw [rs.length]; exact Nat.le_refl _⟩, fun i H2 _ hi g2 _ _ => ?_, ?_⟩⟩⟩
      · have hi' : i < xs.length := by rw [← rs.length]; exact hi
        exact ⟨xs, xs[i], (g2.f _ _ hq).sql, by simp [hi']⟩
      · rintro i H2 M2 v H3 hi g2 a2 _ ⟨rfl, hy⟩
        have hi : i < ds.length := hi
        obtain ⟨x, e1, e2⟩ := (rs.mono g2).get (show ds[i]? = some ds[i] by simp [hi])
        have := hy xs (g2.f _ _ hq).sql
        rw [e1] at this; cases this
        exact ⟨.refl, a2, _, by simp [hi], e2⟩
    | ref a =>
      rw [Rep] at r1; subst r1
      obtain ⟨xs, hx, rs⟩ := a1 _ _ (show M1 a = some (.lst ds) from sq)
      refine ⟨a, rfl, .inl ⟨⟨xs, SqL.of hx⟩, fin _ M1 H1 _ g1 a1 q1 ⟨fun H2 M2 g2 a2 c2 => ?_, fun i H2 M2 hi g2 a2 c2 => ?_, ?_⟩⟩⟩
      · obtain ⟨ys, hy, ry⟩ := a2 _ _ (show M2 a = some (.lst ds) from c2)
        exact ⟨ys, SqL.of hy, by rw [ry.length]; exact Nat.le_refl _⟩
      · obtain ⟨ys, hy, ry⟩ := a2 _ _ (show M2 a = some (.lst ds) from c2)
        have hi' : i < ys.length := by rw [← ry.length]; exact hi
        exact ⟨ys, ys[i], SqL.of hy, by simp [hi']⟩
      · rintro i H2 M2 v H3 hi g2 a2 c2 ⟨rfl, hy⟩
        have hi : i < ds.length := hi
        obtain ⟨ys, hys, ry⟩ := a2 _ _ (show M2 a = some (.lst ds) from c2)
        obtain ⟨x, e1, e2⟩ := ry.get (show ds[i]? = some ds[i] by simp [hi])
        have := hy ys (SqL.of hys)
        rw [e1] at this; cases this
        exact ⟨.refl, a2, _, by simp [hi], e2⟩
    | _ => exact sq.elim⟩
inductive ForD (g : TGD) (tb : TSD) (B : EndsD) (I : ItD) (δ0 : DS) (M0 : MH) : Prop
  | mk (W : Nat → DS → MH → Prop) (w0 : W 0 δ0 M0) (hC : ∀ i δ M, i ≤ I.n → W i δ M → I.C M) (turn : ∀ i d δ M, i < I.n → I.item i = some d → W i δ M → g d δ M fun δ2 M2 => tb { B with nx := W (i + 1), ct := W (i + 1), bk := B.nx } δ2 M2) (done : ∀ δ M, W I.n δ M → B.nx δ M) : ForD g tb B I δ0 M0
noncomputable def tForD (wd : TID) (g : TGD) (tb : TSD) : TSD := fun B δ M => wd δ M fun I M1 => ForD g tb B I δ M1
theorem ds_for {iter : Expr} {body : List Stmt} {wd : TID} {g : TGD} {tb : TSD} {pos : Pos} (hp : PassesOwn (model X.prog X.w) X.A X.env X.xe) (hc : X.calm = true) (hi : DI X tg iter wd) (hG : DG X tg g) (hb : DSs X body tb)
    (hf : ∀ x, foldedSetIterable iter X.env x = pure x := by intro _; rfl) : DSt X (.For tg iter body [] pos) (tForD wd g tb) :=
  ps_imp (ps_for hp hc hi hG hb hf) fun E σ H ⟨δ, M, hs, a, B, ok, q⟩ => ⟨δ, M, _, hs, a, q, fun I M1 H1 J g1 a1 z9 io => by
    obtain ⟨W, w0, hC, turn, done⟩ := z9
    refine ⟨fun i m σ H2 => m = I.n - i ∧ i ≤ I.n ∧ Grow X.K H1 H2 ∧ ∃ δ M, Slots X.K H2 δ σ ∧ Abs X.K H2 M ∧ W i δ M, ⟨I.n, by simp, Nat.zero_le _, .refl, δ, M1, hs.mono g1, a1, w0⟩, ?_⟩
    rintro i m σ H2 ⟨rfl, hi, g2, δ2, M2, s2, a2, w2⟩
    by_cases hlt : i < I.n
    · refine .inr ⟨io.go i H2 M2 hlt g2 a2 (hC _ _ _ hi w2), fun σ' H3 => Grow X.K H1 H3 ∧ ∃ δ M, Slots X.K H3 δ σ' ∧ Abs X.K H3 M ∧ W (i + 1) δ M, fun σ' H3 z => ⟨I.n - (i + 1), by omega, rfl, hlt, z⟩, fun x H3 y => ?_⟩
      obtain ⟨g3, a3, d, ed, rd⟩ := io.yld i H2 M2 x H3 hlt g2 a2 (hC _ _ _ hi w2) y
      refine ⟨d, δ2, M2, _, rd, s2.mono g3, a3, turn i d δ2 M2 hlt ed w2, fun δ4 M4 σ4 H4 g4 s4 a4 q4 => ⟨δ4, M4, s4, a4, _, ?_, q4⟩⟩
      have G : Grow X.K H1 H4 := (g2.trans g3).trans g4
      exact ⟨fun δ' M' σ' H' g' s' a' w' => ⟨G.trans g', δ', M', s', a', w'⟩, fun d M v H' g' => ok.rt d M v H' ((g1.trans G).trans g'), fun δ' M' σ' H' g' s' a' q' => ok.nx _ _ _ _ ((g1.trans G).trans g') s' a' q', fun δ' M' σ' H' g' s' a' w' => ⟨G.trans g', δ', M', s', a', w'⟩⟩
    · obtain rfl : i = I.n := by omega
      exact .inl ⟨io.stop H2 M2 g2 a2 (hC _ _ _ hi w2), ok.nx _ _ _ _ (g1.trans g2) s2 a2 (done δ2 M2 w2)⟩⟩
noncomputable def tAugD (i : Nat) (te : TD) (f : Int → Int → Int) : TSD := fun B δ M => ∃ k, δ[i]? = some (some (.int k)) ∧ te δ M fun y M1 => ∃ j, y = .int j ∧ B.nx (δ.set i (some (.int (f k j)))) M1
noncomputable def tForgetD (t : TD) : TD := fun δ M Q => t δ M fun d M1 => ∃ M2, Sub M2 M1 ∧ Q d M2
end
end SD
set_option Elab.async false
set_option linter.all false
set_option maxRecDepth 100000
namespace SD
noncomputable def hv (n : Nat) : Nat := if n = 0 then 0 else n.log2 + 1
end SD
namespace Ma
open SD
theorem divInt_pos {a b : Int} (h : 0 < b) : 0 < Rat.divInt a b ↔ 0 < a := by
  have h1 := Rat.divInt_nonneg_iff_of_pos_right (a := -a) h
  rw [← Rat.neg_divInt] at h1
  have : ¬ (0 ≤ -Rat.divInt a b) ↔ 0 < Rat.divInt a b := by
    constructor <;> intro z <;> grind
  rw [← this, h1]
  omega
theorem divInt_neg {a b : Int} (h : 0 < b) : Rat.divInt a b < 0 ↔ a < 0 := by
  have h1 := Rat.divInt_nonneg_iff_of_pos_right (a := a) h
  have : ¬ (0 ≤ Rat.divInt a b) ↔ Rat.divInt a b < 0 := by
    constructor <;> intro z <;> grind
  rw [← this, h1]
  omega
theorem sgn_top {t b : Int} (h : 0 < b) : sgn (Rat.divInt t b) = if 0 < t then 1 else if t < 0 then -1 else 0 := by
  unfold sgn
  simp only [divInt_pos h, divInt_neg h]
theorem lean_eq (a b c d x y : Rat) :
    Rat.divInt ((c.num * (a.den : Int) - a.num * (c.den : Int)) * (y.num * (b.den : Int) - b.num * (y.den : Int)) * ((d.den : Int) * (b.den : Int) * ((x.den : Int) * (a.den : Int))) -
        (d.num * (b.den : Int) - b.num * (d.den : Int)) * (x.num * (a.den : Int) - a.num * (x.den : Int)) * ((c.den : Int) * (a.den : Int) * ((y.den : Int) * (b.den : Int))))
      ((c.den : Int) * (a.den : Int) * ((y.den : Int) * (b.den : Int)) * ((d.den : Int) * (b.den : Int) * ((x.den : Int) * (a.den : Int)))) = cr a b c d x y := by
  rw [← Rat.divInt_sub_divInt _ _ (Int.mul_ne_zero (dd_ne c a) (dd_ne y b)) (Int.mul_ne_zero (dd_ne d b) (dd_ne x a)), ← Rat.divInt_mul_divInt, ← Rat.divInt_mul_divInt, sub_eq, sub_eq, sub_eq, sub_eq]
  rfl
end Ma
set_option Elab.async false
set_option linter.all false
set_option maxRecDepth 100000
namespace SD
open PySem PySem.Spec PyProof.Rows L2
noncomputable abbrev NoE : Value → Shared → Prop := fun _ _ => False
noncomputable def cN (X : Cx) (xs : List Str) (js : List Nat) : List Str := xs ++ js.map fun j => (X.N[j]?).getD ("" : Str)
noncomputable def cσ (os : L2.St) (js : List Nat) (σ : L2.St) : L2.St := os ++ js.map fun j => (σ[j]?).join
theorem cells_app : ∀ (names : List (Str × NameKind)) (n : Nat) (acc : List (Str × Addr)), cellsFrom n names acc = cellsFrom n names [] ++ acc
  | [], _, _ => rfl
  | (x, k) :: r, n, acc => by
    unfold cellsFrom
    split
    · rw [cells_app r (n + 1) ((x, n) :: acc), cells_app r (n + 1) [(x, n)], List.append_assoc]; rfl
    · exact cells_app r n acc
theorem mem_cells : ∀ (names : List (Str × NameKind)) (n : Nat) {y : Str} {c : Addr}, (y, c) ∈ cellsFrom n names [] → (y, NameKind.cell) ∈ names
  | [], _, _, _, h => by cases h
  | (x, k) :: r, n, y, c, h => by
    unfold cellsFrom at h
    split at h
    · rename_i hk
      rw [cells_app] at h
      rcases List.mem_append.mp h with h | h
      · exact List.mem_cons_of_mem _ (mem_cells r _ h)
      · have e : (y, c) = (x, n) := by simpa using h
        cases e
        obtain rfl : k = .cell := by simpa using hk
        exact List.mem_cons_self
    · exact List.mem_cons_of_mem _ (mem_cells r _ h)
theorem look_app {l r : List (Str × Addr)} {y : Str} {c : Addr} (h : (l ++ r).lookup y = some c) : l.lookup y = some c ∨ (l.lookup y = none ∧ r.lookup y = some c) := by
  rw [List.lookup_append] at h
  cases e : l.lookup y with
  | some c' => rw [e] at h; exact .inl h
  | none => rw [e] at h; exact .inr ⟨rfl, h⟩
theorem mem_clOf {env : Env} {y : Str} {c : Addr} {names : List (Str × NameKind)} (h : (clOf names env).lookup y = some c) : (y, NameKind.free) ∈ names := by
  have hm := PySem.mem_of_lookup h
  unfold clOf at hm
  obtain ⟨z, hz, e⟩ := List.mem_map.mp hm
  rw [List.mem_reverse, List.mem_filter] at hz
  obtain ⟨n, k⟩ := z
  obtain rfl : k = .free := by simpa using hz.2
  cases e
  exact hz.1
theorem relabel_keep {env : Env} {k : NameKind} (hk : k ≠ .free) : ∀ {names : List (Str × NameKind)} {x : Str}, names.lookup x = some k →
    (names.map fun (n, k) => if (k == NameKind.free && env.scope.kind == .function && env.kindOf n == some .cell) then (n, NameKind.cell) else (n, k)).lookup x = some k
  | [], _, h => by simp at h
  | (n, q) :: r, x, h => by
    have ih := @relabel_keep env k hk r x
    rw [List.map_cons]
    dsimp only
    by_cases hx : (x == n) = true
    · rw [List.lookup_cons, hx] at h
      cases h
      rw [if_neg (by intro z; rw [Bool.and_eq_true, Bool.and_eq_true] at z; exact hk (by simpa using z.1.1)), List.lookup_cons, hx]
    · have hx' : (x == n) = false := by simpa using hx
      rw [List.lookup_cons, hx'] at h
      split <;> (rw [List.lookup_cons, hx']; exact ih h)
theorem new_env {M : Model} {A : Around} {E : Value → Shared → Prop} {s : Shared} {scope : Scope} {globals : Addr} {cl : List (Str × Addr)} {qual : Str} {env : Env} {Q : Env → Shared → Prop}
    (h : Q { scope := scope, locals := s.heap.objs.size, globals := globals, cells := cellsFrom (s.heap.objs.size + 1) scope.names cl, qual := qual, func := none, code := env.code, frame := env.frame, builtins := env.builtins } { s with heap := pushCells (s.heap.push { cls := .type "dict", data := .dict #[] }) scope.names }) :
    wpAny M A (newFunctionEnv scope globals cl [] qual none .none (some env)) Q E s := by
  simp only [newFunctionEnv, Option.isSome_some, if_true]
  refine wpAny_bind (wpAny_alloc ?_)
  refine wpAny_bind (wpAny_layCells _ (fun name kind cells => by cases hkc : kind == NameKind.cell <;> simp [hkc]) _ _ _ _ ?_)
  rw [show ({ s with heap := s.heap.push { cls := .type "dict", data := .dict #[] } } : Shared).heap.objs.size = s.heap.objs.size + 1 from Heap.size_push ..]
  refine wpAny_bind ?_
  rw [List.forIn_nil]
  exact wpAny_pure (wpAny_pure h)
noncomputable def cEnv (scope : Scope) (C : Addr) (env : Env) : Env :=
  { scope := relabel scope env, locals := C, globals := env.globals, cells := cellsFrom (C + 1) scope.names (clOf scope.names env), qual := env.qual, func := none, code := env.code, frame := env.frame, builtins := env.builtins }
noncomputable def cxC (X : Cx) (xs : List Str) (js : List Nat) (scope : Scope) (C : Addr) (s : Shared) (H : Hp) (fp : List Addr) : Cx where
  prog := X.prog
  w := X.w
  K := X.K
  mg := X.mg
  base := X.base
  A := X.A
  N := cN X xs js
  s₀ := s
  H₀ := H
  env := cEnv scope C X.env
  outer := X.stack
  stack := X.stack
  ex := fp
  fn := fun y => xs.contains y
  calm := X.calm
  pn := []
  xe := fun _ _ => False
structure CScope (X : Cx) (xs : List Str) (js : List Nat) (scope : Scope) : Prop where
  kind : scope.kind = .function
  cell : ∀ y ∈ scope.names, y.2 = .cell → y.1 ∈ xs
  free' : ∀ y ∈ scope.names, y.2 = .free → y.1 ∉ xs
  names : ∀ y ∈ scope.names, y.2 = .local → scope.names.lookup y.1 = some .local
  own : ∀ x ∈ xs, scope.names.lookup x = some .local ∨ scope.names.lookup x = some .cell
  out : ∀ y ∈ scope.names, y.2 = .free → X.env.kindOf y.1 = some .cell ∨ X.env.kindOf y.1 = some .free
  nd : (cN X xs js).Nodup
  js : ∀ j ∈ js, scope.names.lookup ((X.N[j]?).getD ("" : Str)) ≠ some .local
section
variable {X : Cx} {xs : List Str} {js : List Nat} {scope : Scope} {pins : List (Addr × Obj)} {σ : L2.St} {H : Hp} {s : Shared} {fp : List Addr}
theorem CScope.cells (c : CScope X xs js scope) (ok : X.Ok) : ∀ y ∈ scope.names, y.2 = .free → ∃ a, X.env.cells.lookup y.1 = some a := fun y hy hf => ok.has _ (c.out y hy hf)
theorem CScope.clos (c : CScope X xs js scope) (ok : X.Ok) : closureFor scope X.env = pure (clOf scope.names X.env) := closure_eq (c.cells ok)
theorem CScope.kindOf (c : CScope X xs js scope) (ok : X.Ok) {C : Addr} {y : Str} {k : NameKind} (e : (cEnv scope C X.env).kindOf y = some k) : scope.names.lookup y = some k ∨ (k = .cell ∧ scope.names.lookup y = some .free) :=
  lookup_relabel ok.kind e
theorem inv_comp (c : CScope X xs js scope) (I : Inv X pins σ H s) (hf : ∀ b ∈ fp, FpOk X pins H b) (hfp : ∀ b ∈ fp, b < s.heap.objs.size) {h' : Heap} (eh : h' = pushCells (s.heap.push { cls := .type "dict", data := .dict #[] }) scope.names) (k : ∀ b o, s.heap.get? b = some o → h'.get? b = some o) :
    Inv (cxC X xs js scope s.heap.objs.size s H fp) [] (cσ (List.replicate xs.length none) js σ) H { s with heap := h' } := by
  have ok := I.ok
  have hn : h'.Ns s.heap.objs.size fun _ => none := by rw [eh]; exact (Heap.Ns.new s.heap (.type "dict")).keeps (pushCells_keeps _ _)
  have cok : CellsOk h' (s.heap.objs.size + 1) (cellsFrom (s.heap.objs.size + 1) scope.names []) := by
    have := cellsFrom_ok scope.names (s.heap.push { cls := .type "dict", data := .dict #[] }) (s.heap.objs.size + 1) [] ⟨fun _ _ hm => (nomatch hm), List.Pairwise.nil⟩ (by rw [Heap.size_push]; exact Nat.le_refl _)
    rw [Heap.size_push] at this
    rw [eh]; exact this
  have cl : ∀ {y : Str} {a : Addr}, (clOf scope.names X.env).lookup y = some a → X.env.cells.lookup y = some a := fun e => lookup_clOf (c.cells ok) e
  have olt : ∀ {y : Str} {a : Addr}, X.env.cells.lookup y = some a → a < s.heap.objs.size := fun e => by obtain ⟨v, z⟩ := I.cell _ _ e; exact z.lt
  have both : ∀ {y : Str} {a : Addr}, (cEnv scope s.heap.objs.size X.env).cells.lookup y = some a → ((y, a) ∈ cellsFrom (s.heap.objs.size + 1) scope.names [] ∧ s.heap.objs.size < a) ∨ X.env.cells.lookup y = some a := fun {y a} e => by
    have e : (cellsFrom (s.heap.objs.size + 1) scope.names (clOf scope.names X.env)).lookup y = some a := e
    rw [cells_app] at e
    rcases look_app e with z | ⟨_, z⟩
    · exact .inl ⟨PySem.mem_of_lookup z, (cok.empty _ _ (PySem.mem_of_lookup z)).2⟩
    · exact .inr (cl z)
  have free : ∀ {y : Str}, (cEnv scope s.heap.objs.size X.env).kindOf y = some .cell ∨ (cEnv scope s.heap.objs.size X.env).kindOf y = some .free → scope.names.lookup y = some .cell ∨ scope.names.lookup y = some .free := fun {y} e => by
    rcases e with e | e
    · rcases c.kindOf ok e with z | ⟨_, z⟩
      · exact .inl z
      · exact .inr z
    · rcases c.kindOf ok e with z | ⟨z, _⟩
      · exact .inr z
      · cases z
  refine ⟨⟨ok.mod, c.kind, ok.glob, ok.blt, Nat.le_refl _, fun y z a h1 h2 => ?_, fun y hy => ?_, fun y a h e => ?_, ok.hd, ok.frames, .inl rfl, fun b hb => ⟨Nat.ne_of_lt (hfp b hb), fun y a e => ?_⟩,
    I.bs, Nat.le_trans ok.bsz I.sz, fun b o e hb => ?_, fun b hb => ?_, I.stack, I.stkFree⟩, rfl, I.bare, Un.kept k, ?_, fun y a e => ?_, I.hok.fresh (Nat.le_refl _), fun y a e => ?_, fun p hp => absurd (show p ∈ ([] : List (Addr × Obj)) from hp) (by simp), I.hok.kept k, ?_⟩
  · rcases both h1 with ⟨m1, l1⟩ | o1 <;> rcases both h2 with ⟨m2, l2⟩ | o2
    · exact name_of_addr cok.apart m1 m2
    · exact absurd (olt o2) (Nat.not_lt.mpr (Nat.le_of_lt l1))
    · exact absurd (olt o1) (Nat.not_lt.mpr (Nat.le_of_lt l2))
    · exact ok.inj y z a o1 o2
  · show ∃ c, (cellsFrom (s.heap.objs.size + 1) scope.names (clOf scope.names X.env)).lookup y = some c
    rw [cells_app, List.lookup_append]
    rcases free hy with z | z
    · obtain ⟨a, e⟩ := cell_has (n := s.heap.objs.size + 1) z
      exact ⟨a, by rw [e]; rfl⟩
    · obtain ⟨a, e⟩ := has_clOf (env := X.env) (PySem.mem_of_lookup z)
      cases q : (cellsFrom (s.heap.objs.size + 1) scope.names []).lookup y with
      | none => exact ⟨a, by rw [e]; rfl⟩
      | some a' => exact ⟨a', rfl⟩
  · have hx : y ∈ xs := by simpa [cxC] using h
    have e : (cellsFrom (s.heap.objs.size + 1) scope.names (clOf scope.names X.env)).lookup y = some a := e
    rw [cells_app] at e
    rcases look_app e with z | ⟨_, z⟩
    · exact Nat.le_of_lt (cok.empty _ _ (PySem.mem_of_lookup z)).2
    · exact absurd hx (c.free' _ (mem_clOf z) rfl)
  · rcases both e with ⟨_, l⟩ | o
    · exact Nat.ne_of_gt (Nat.lt_trans (hfp b hb) l)
    · exact (hf b hb).2.2.2.2.1 y a o
  · rcases (hf b hb).2.2.2.1 with z | z
    · exact ok.noex b o e z
    · exact absurd (Nat.lt_of_lt_of_le (Nat.lt_of_lt_of_le (Heap.lt_size e) ok.bsz) z) (Nat.lt_irrefl _)
  · intro z
    rcases List.mem_cons.mp (I.stkSub b z) with y | y
    · exact (hf b hb).2.1 y
    · exact (hf b hb).2.2.1 y
  · refine ⟨_, hn, fun i y v h1 h2 h3 => ?_⟩
    have h1 : (xs ++ js.map fun j => (X.N[j]?).getD ("" : Str))[i]? = some y := h1
    have h2 : (List.replicate xs.length (none : Option V) ++ js.map fun j => (σ[j]?).join)[i]? = some (some v) := h2
    by_cases hi : i < xs.length
    · rw [List.getElem?_append_left (by simpa using hi), List.getElem?_replicate, if_pos hi] at h2
      cases h2
    · have hout : y ∉ xs := fun hy => by
        rw [List.getElem?_append_right (by omega)] at h1
        have nd := c.nd
        unfold cN at nd
        exact (List.nodup_append.mp nd).2.2 y hy y (List.mem_of_getElem? h1) rfl
      rw [List.getElem?_append_right (by omega)] at h1
      rw [List.getElem?_append_right (by simp; omega)] at h2
      rw [List.length_replicate] at h2
      rw [List.getElem?_map] at h1 h2
      cases ej : js[i - xs.length]? with
      | none => rw [ej] at h1; cases h1
      | some j =>
        rw [ej] at h1 h2
        have e1 : (X.N[j]?).getD ("" : Str) = y := Option.some.inj h1
        have e2 : (σ[j]?).join = some v := Option.some.inj h2
        have e3 : σ[j]? = some (some v) := by
          cases q : σ[j]? with
          | none => rw [q] at e2; cases e2
          | some o => rw [q] at e2; exact congrArg some e2
        have hj : j < X.N.length := by rw [← I.len]; exact (List.getElem?_eq_some_iff.mp e3).1
        have e4 : X.N[j]? = some y := by
          rw [List.getElem?_eq_getElem hj] at e1 ⊢
          exact congrArg some e1
        have nl : scope.names.lookup y ≠ some .local := by
          have := c.js j (List.mem_of_getElem? ej)
          rw [e1] at this
          exact this
        have kc : (cEnv scope s.heap.objs.size X.env).kindOf y = some .cell ∨ (cEnv scope s.heap.objs.size X.env).kindOf y = some .free := by
          rcases h3 with z | z | z
          · rcases c.kindOf (C := s.heap.objs.size) ok z with q | ⟨q, _⟩
            · exact absurd q nl
            · cases q
          · exact .inl z
          · exact .inr z
        have hm : (y, NameKind.free) ∈ scope.names := by
          rcases free kc with z | z
          · exact absurd (c.cell _ (PySem.mem_of_lookup z) rfl) hout
          · exact PySem.mem_of_lookup z
        obtain ⟨a, ha⟩ := has_clOf (env := X.env) hm
        have ha2 : (cEnv scope s.heap.objs.size X.env).cells.lookup y = some a := by
          show (cellsFrom (s.heap.objs.size + 1) scope.names (clOf scope.names X.env)).lookup y = some a
          rw [cells_app, List.lookup_append]
          cases q : (cellsFrom (s.heap.objs.size + 1) scope.names []).lookup y with
          | none => rw [ha]; rfl
          | some a' => exact absurd (c.cell _ (mem_cells _ _ (PySem.mem_of_lookup q)) rfl) hout
        have hvis : Vis X.env.scope y := by
          rcases c.out _ hm rfl with z | z
          · exact .inr (.inl z)
          · exact .inr (.inr z)
        obtain ⟨m, _, hl⟩ := I.loc
        obtain ⟨u, r, l⟩ := hl j y v e4 e3 hvis
        refine ⟨u, r, ?_⟩
        rcases l with ⟨z, _⟩ | ⟨_, a', ha', o, ho, hd⟩
        · rcases c.out _ hm rfl with q | q
          · have z' : X.env.kindOf y = some .local := z
            rw [q] at z'; cases z'
          · have z' : X.env.kindOf y = some .local := z
            rw [q] at z'; cases z'
        · refine .inr ⟨kc, a', ?_, o, k _ _ ho, hd⟩
          have := cl ha
          rw [ha'] at this
          cases this
          exact ha2
  · rcases both e with ⟨m, _⟩ | o
    · exact ⟨_, (cok.empty _ _ m).1⟩
    · obtain ⟨v, o, ho, hd⟩ := I.cell y a o
      exact ⟨v, o, k _ _ ho, hd⟩
  · rcases both e with ⟨_, l⟩ | o
    · exact I.hok.fresh (Nat.le_of_lt l)
    · exact I.freeC y a o
  · show (cσ (List.replicate xs.length none) js σ).length = (cN X xs js).length
    unfold cσ cN
    simp
end
noncomputable def PTs (X : Cx) (ifs : List Expr) (t : TT) : Prop := ∀ (pins : List (Addr × Obj)) (s : Shared) (σ : L2.St) (H : Hp) (Q : Bool → Hp → Prop), Inv X pins σ H s → t σ H Q →
  wpAny (model X.prog X.w) X.A (forIn ifs true fun c r => if r = true then do let ok ← isTrue c X.env (eval c X.env); pure (ForInStep.yield ok) else pure (ForInStep.yield r)) (TP X pins σ Q) X.xe s
theorem pts_nil {X : Cx} : PTs X [] (fun _ H Q => Q true H) := fun pins s σ H Q I q => wpAny_tests_nil ⟨H, I, q⟩
theorem comp_loop {prog : Program} {w : World} {A : Around} {R : Result → Shared → Prop} {s : Shared} {elt target iter : Expr} {ifs : List Expr} {scope : Scope} {pos : Pos} {it acc : Value} {env : Env} (J : Nat → Shared → Prop)
    (step : ∀ n s, J n s → wpAny (model prog w) A (pyNext it) (fun r s1 => match r with
      | none => R (.ok .next) s1
      | some v => wpAny (model prog w) A (letOwnedTupleGo target it v) (fun _ s2 => wpAny (model prog w) A (assign target env v) (fun _ s3 =>
          wpAny (model prog w) A (forIn ifs true fun c r => if r = true then do let ok ← isTrue c env (eval c env); pure (ForInStep.yield ok) else pure (ForInStep.yield r)) (fun ok s4 =>
            if ok = true then wpAny (model prog w) A (eval elt env) (fun x s5 => wpAny (model prog w) A (call (.builtin "list.append") [acc, x]) (fun _ s6 => ∃ m, m < n ∧ J m s6) NoE s5) NoE s4
            else ∃ m, m < n ∧ J m s4) NoE s3) NoE s2) NoE s1) NoE s)
    (n : Nat) (h : J n s) : codeAny (model prog w) A (.compLoop (.ListComp elt [⟨target, iter, ifs, 0⟩] scope pos) 0 it acc env) R s := by
  have no : ∀ {E : Value → Shared → Prop} e s', NoE e s' → E e s' := fun _ _ z => z.elim
  refine codeAny_loop rfl J (fun n s hJ => ?_) n h
  show wpAny _ _ (Sem.onRaise (compTurn (.ListComp elt [⟨target, iter, ifs, 0⟩] scope pos) 0 it acc env) (fun x => do noteFrame x env; theTreesLotGoes x)) _ _ s
  refine wpAny_noted ?_
  rw [compTurn_list]
  refine wpAny_bind (wpAny_standAt (wpAny_bind (wpAny_mono (step n s hJ) (fun r s1 h1 => ?_) no)))
  cases r with
  | none => exact wpAny_pure h1
  | some v =>
    refine wpAny_bind (wpAny_mono h1 (fun _ s2 h2 => wpAny_bind (wpAny_mono h2 (fun _ s3 h3 => wpAny_bind (wpAny_mono h3 (fun ok s4 h4 => ?_) no)) no)) no)
    cases ok with
    | false => exact wpAny_pure ⟨rfl, h4⟩
    | true => exact wpAny_bind (wpAny_bind (wpAny_mono h4 (fun x s5 h5 => wpAny_bind (wpAny_mono h5 (fun _ s6 h6 => wpAny_pure (wpAny_pure ⟨rfl, h6⟩)) no)) no))
noncomputable abbrev Own := V → Hp → L2.St → Prop
structure TgOk (n : Nat) (g : TG) (own : Own) : Prop where
  len : ∀ y H os, own y H os → os.length = n
  run : ∀ y H os0 tail os (Q : L2.St → Hp → Prop), os0.length = n → own y H os → Q (os ++ tail) H → g y (os0 ++ tail) H Q
noncomputable def wComp (js : List Nat) (own : Own) (tc : TT) (te : TE) (σ : L2.St) (J : It) (H1 : Hp) (Q : VK) : Prop := ∀ D, H1 D = none → ∃ W : Nat → Nat → Hp → Prop, (∃ m, W 0 m (upd H1 D (.lst []))) ∧ ∀ i m H, W i m H →
  (J.stop i H ∧ Q (.ref D) H) ∨ (J.go i H ∧ ∀ y H', J.yld i H y H' → ∃ os, own y H' os ∧ tc (cσ os js σ) H' fun b H2 => if b = true then
    te (cσ os js σ) H2 fun v H3 => ∃ xs, H3 D = some (.lst xs) ∧ xs.length < sizeLine ∧ ∃ m', m' < m ∧ W (i + 1) m' (upd H3 D (.lst (xs ++ [v]))) else ∃ m', m' < m ∧ W (i + 1) m' H2)
noncomputable def tCompL (js : List Nat) (own : Own) (wi : TI) (tc : TT) (te : TE) : TE := fun σ H Q => wi σ H fun J H1 => wComp js own tc te σ J H1 Q
section
variable {X : Cx} {xs : List Str} {tg : Expr} {pos : Pos} {js : List Nat} {scope : Scope} {elt iter : Expr} {ifs : List Expr} {te : TE} {tc : TT} {g : TG} {own : Own} {wi : TI} {pins : List (Addr × Obj)} {σ : L2.St} {H : Hp} {s : Shared} {fp : List Addr} {it : Addr} {tn : Nat → Heap → Prop} {J : It}
theorem comp_run (c : CScope X xs js scope) (hc : X.calm = true) (hG : TgOk xs.length g own) (hg : ∀ C s H fp, PG (cxC X xs js scope C s H fp) tg g) (ht : ∀ C s H fp, PTs (cxC X xs js scope C s H fp) ifs tc) (he : ∀ C s H fp, PE (cxC X xs js scope C s H fp) elt te)
    {R : Value → Addr → Result → Shared → Prop} {E : Value → Shared → Prop} {Q : VK}
    (I : Inv X pins σ H s) (T : Turn X.prog X.w X.K tg J fp it tn) (st : tn 0 s.heap) (hf : ∀ b ∈ fp, FpOk X pins H b) (wc : wComp js own tc te σ J H Q)
    (hR : ∀ D C H' s', Inv X pins σ H' s' → FpOk X pins H' C → (∃ m, s'.heap.Ns C m) → Q (.ref D) H' → R (.ref D) C (.ok .next) s') :
    wpAny (model X.prog X.w) X.A (newList []) (fun acc s₃ => wpAny (model X.prog X.w) X.A (newFunctionEnv scope X.env.globals (clOf scope.names X.env) [] X.env.qual none .none (some X.env)) (fun cenv s₄ =>
      codeAny (model X.prog X.w) X.A (.compStart (.ListComp elt [⟨tg, iter, ifs, 0⟩] scope pos) 0 (.ref it) acc { cenv with scope := relabel scope X.env }) (R acc cenv.locals) s₄) E s₃) E s := by
  have hfp : ∀ b ∈ fp, b < s.heap.objs.size := fun b hb => let ⟨o, e, _⟩ := T.obj 0 _ st b hb; Heap.lt_size e
  have hD : H s.heap.objs.size = none := I.hok.fresh (Nat.le_refl _)
  refine wpAny_newObj_type (new_env ?_)
  generalize hh : s.heap.push { cls := .type "list", dict := none, data := .seq ([] : List Value).toArray } = h3
  generalize hh1 : pushCells (({ s with heap := h3 } : Shared).heap.push { cls := .type "dict", data := .dict #[] }) scope.names = h₁
  have k3 : ∀ b o, s.heap.get? b = some o → h3.get? b = some o := fun b o e => by rw [← hh]; exact Heap.get?_push_of_some _ e
  have I3 : Inv X pins σ (upd H s.heap.objs.size (.lst [])) { s with heap := h3 } := by
    refine I.laid (t' := s.toks) k3 (Nat.le_refl _) ?_
    refine ⟨Nat.zero_le _, [], 0, .nil, ?_⟩
    rw [← hh]
    exact Heap.get?_push_size _ rfl
  have hf3 : ∀ b ∈ fp, FpOk X pins (upd H s.heap.objs.size (.lst [])) b := fun b hb => ⟨by rw [upd_ne (Nat.ne_of_lt (hfp b hb))]; exact (hf b hb).1, (hf b hb).2⟩
  have hsz : h3.objs.size = s.heap.objs.size + 1 := by rw [← hh, Heap.size_push]
  have hfp3 : ∀ b ∈ fp, b < h3.objs.size := fun b hb => by rw [hsz]; exact Nat.lt_succ_of_lt (hfp b hb)
  have k4 : ∀ b o, h3.get? b = some o → h₁.get? b = some o := fun b o e => by rw [← hh1]; exact pushCells_keeps _ _ b o (Heap.get?_push_of_some _ e)
  have I4 := inv_comp c I3 hf3 hfp3 (h' := h₁) hh1.symm k4
  obtain ⟨W, ⟨m0, w0⟩, turn⟩ := wc _ hD
  have st4 : tn 0 h₁ := T.keep 0 _ _ st fun b hb o e => k4 b o (k3 b o e)
  generalize hX : cxC X xs js scope h3.objs.size { s with heap := h3 } (upd H s.heap.objs.size (.lst [])) fp = X' at I4
  have fok : ∀ {pins' : List (Addr × Obj)} {H' : Hp} {σ' : L2.St} {s' : Shared}, Inv X' [] σ' H' s' → (∀ b ∈ fp, H' b = none) → ∀ b ∈ fp, FpOk X' [] H' b := fun {pins' H' σ' s'} J' hn b hb => by
    subst hX
    obtain ⟨a1, a2⟩ := J'.ok.exf b hb
    exact ⟨hn b hb, a1, J'.ok.exfs b hb, .inl hb, a2, fun p hp => absurd (show p ∈ ([] : List (Addr × Obj)) from hp) (by simp)⟩
  have loop : codeAny (model X.prog X.w) X.A (.compLoop (.ListComp elt [⟨tg, iter, ifs, 0⟩] scope pos) 0 (.ref it) (.ref s.heap.objs.size) (cEnv scope h3.objs.size X.env)) (R (.ref s.heap.objs.size) h3.objs.size)
      { s with heap := h₁ } := by
    refine comp_loop (fun n s' => ∃ i os H', os.length = xs.length ∧ Inv X' [] (cσ os js σ) H' s' ∧ tn i s'.heap ∧ (∀ b ∈ fp, H' b = none) ∧ W i n H') ?_ m0 ⟨0, _, _, by simp, I4, st4, fun b hb => (hf3 b hb).1, w0⟩
    rintro n s5 ⟨i, os, H5, hl5, I5, st5, fr5, w5⟩
    rcases turn i n H5 w5 with ⟨stop, q⟩ | ⟨go, step⟩
    · subst hX
      refine wpAny_mono (T.done (cxC X xs js scope h3.objs.size { s with heap := h3 } (upd H s.heap.objs.size (.lst [])) fp) rfl rfl rfl hc i [] s5 _ H5 NoE I5 (fok (pins' := []) I5 fr5) st5 stop) (fun r s6 zz43_0 => ?_) fun _ _ z => z
      obtain ⟨hr, I6⟩ := zz43_0
      subst hr
      refine hR _ _ H5 s6 (I3.call' I6.os I6.base I6.hok I6.bare fun b hb => ⟨(hf3 b hb).2.2.2.1, (hf3 b hb).2.1, (hf3 b hb).2.2.2.2.1, (hf3 b hb).2.2.2.2.2⟩) (I3.fpOk (Nat.le_refl _) I6.free) (let ⟨m, hm, _⟩ := I6.loc; ⟨m, hm⟩) q
    · subst hX
      refine wpAny_mono (T.item (cxC X xs js scope h3.objs.size { s with heap := h3 } (upd H s.heap.objs.size (.lst [])) fp) rfl rfl rfl hc i [] s5 _ H5 NoE I5 (fok (pins' := []) I5 fr5) st5 go) (fun r s6 zz44_0 => ?_) fun _ _ z => z
      obtain ⟨u, hr, h6⟩ := zz44_0
      subst hr
      refine wpAny_mono h6 (fun _ s7 zz45_0 => ?_) fun _ _ z => z
      obtain ⟨y, H7, I7, r7, y7, st7, fr7⟩ := zz45_0
      have I7' := I7.pinned (fok (pins' := []) I7 fr7) (T.obj _ _ st7)
      obtain ⟨os8, ow8, q8⟩ := step y H7 y7
      have l8 := hG.len _ _ _ ow8
      refine wpAny_mono (hg _ _ _ _ _ s7 _ H7 y u (fun σ' H' => σ' = cσ os8 js σ ∧ H' = H7) I7' r7 (hG.run y H7 os _ os8 _ hl5 ow8 ⟨rfl, rfl⟩)) (fun _ s8 zz46_0 => ?_) fun _ _ z => z
      obtain ⟨σ8, H8, I8, e8, e8'⟩ := zz46_0
      subst e8 e8'
      refine wpAny_mono (ht _ _ _ _ _ s8 _ _ _ I8 q8) (fun ok s9 zz47_0 => ?_) fun _ _ z => z
      obtain ⟨H9, I9, q9⟩ := zz47_0
      have back : ∀ {m' : Nat} {H10 : Hp} {s10 : Shared}, Inv (cxC X xs js scope h3.objs.size { s with heap := h3 } (upd H s.heap.objs.size (.lst [])) fp) ([] ++ pinsAt fp s7.heap) (cσ os8 js σ) H10 s10 → m' < n → W (i + 1) m' H10 →
          ∃ m, m < n ∧ ∃ i os H', os.length = xs.length ∧ Inv (cxC X xs js scope h3.objs.size { s with heap := h3 } (upd H s.heap.objs.size (.lst [])) fp) [] (cσ os js σ) H' s10 ∧ tn i s10.heap ∧ (∀ b ∈ fp, H' b = none) ∧ W i m H' := fun {m' H10 s10} I10 hm' w10 => by
        refine ⟨m', hm', i + 1, os8, H10, l8, I10.unpinned, T.keep _ _ _ st7 fun b hb o e => (I10.pin (b, o) (List.mem_append_right _ (List.mem_append_right _ (mem_pinsAt hb e)))).1, fun b hb => ?_, w10⟩
        obtain ⟨o', e, d⟩ := T.obj _ _ st7 b hb
        exact (I10.pin (b, o') (List.mem_append_right _ (List.mem_append_right _ (mem_pinsAt hb e)))).2.1
      cases ok with
      | false =>
        rw [if_neg Bool.false_ne_true] at q9 ⊢
        obtain ⟨m', hm', w9⟩ := q9
        exact back I9 hm' w9
      | true =>
        rw [if_pos rfl] at q9 ⊢
        refine wpAny_mono (he _ _ _ _ _ s9 _ _ _ I9 q9) (fun v s10 zz48_0 => ?_) fun _ _ z => z
        obtain ⟨vv, H10, I10, r10, ys, hd10, hl10, q10⟩ := zz48_0
        refine wpAny_mono (mt_append (X := (cxC X xs js scope h3.objs.size { s with heap := h3 } (upd H s.heap.objs.size (.lst [])) fp)) _ s10 _ H10 (.ref s.heap.objs.size) [vv] (.ref s.heap.objs.size) [v] (fun _ H' => ∃ m', m' < n ∧ W (i + 1) m' H') I10 rfl (.cons r10 .nil) ⟨_, ys, vv, rfl, rfl, hd10, hl10, q10⟩) (fun _ s11 zz49_0 => ?_) fun _ _ z => z
        obtain ⟨_, H11, I11, _, m', hm', w11⟩ := zz49_0
        exact back I11 hm' w11
  exact codeAny_compStart_list loop (T.self X.A 0 _ _ _ st4 loop)
theorem pe_comp (c : CScope X xs js scope) (hc : X.calm = true) (hi : PI X tg iter wi) (hG : TgOk xs.length g own) (hg : ∀ C s H fp, PG (cxC X xs js scope C s H fp) tg g) (ht : ∀ C s H fp, PTs (cxC X xs js scope C s H fp) ifs tc) (he : ∀ C s H fp, PE (cxC X xs js scope C s H fp) elt te) (hs : ∀ x, foldedSetIterable iter X.env x = pure x := by intro _; rfl) :
    PE X (.ListComp elt [⟨tg, iter, ifs, 0⟩] scope pos) (tCompL js own wi tc te) := by
  intro pins s σ H Q I h
  rw [eval_ListComp]
  refine wpAny_comprehension_free (use := none) rfl hs (c.clos I.ok) c.kind c.names (thn (hi pins s σ H _ I h) fun v s1 h1 => thn h1 fun itv s2 zz50_0 => ?_)
  obtain ⟨it, fp, tn, J, H2, e, I2, T, st, f2, w⟩ := zz50_0
  subst e
  refine comp_run (R := fun acc C => compPost (model X.prog X.w) X.A X.xe none (EP X pins σ Q) acc C) c hc hG hg ht he I2 T st f2 w fun D C H' s' I' fC zz51_0 q => ?_
  obtain ⟨m, hm⟩ := zz51_0
  exact ⟨m, hm, fun h' hsb => ⟨.ref D, H', I'.turned (t' := s'.toks) (fun b o ne e => hsb.extBut b o ne e) fC.1 fC.2.1 fC.2.2.2.1 fC.2.2.2.2.1 fC.2.2.2.2.2, rfl, q⟩⟩
theorem ps_comp {i : Nat} {y : Str} {py spos : Pos} (c : CScope X xs js scope) (hc : X.calm = true) (hN : X.N.Nodup) (hi : PI X tg iter wi) (hG : TgOk xs.length g own) (hg : ∀ C s H fp, PG (cxC X xs js scope C s H fp) tg g) (ht : ∀ C s H fp, PTs (cxC X xs js scope C s H fp) ifs tc) (he : ∀ C s H fp, PE (cxC X xs js scope C s H fp) elt te) (hy : X.N[i]? = some y) (hl : X.env.scope.names.lookup y = some .local)
    (hsw : swapsWith (.ListComp elt [⟨tg, iter, ifs, 0⟩] scope pos) (some (.Name y py)) spos.line X.env = pure true) (hs : ∀ x, foldedSetIterable iter X.env x = pure x := by intro _; rfl) :
    PS X (.Assign [.Name y py] (.ListComp elt [⟨tg, iter, ifs, 0⟩] scope pos) spos) (tAsg (tCompL js own wi tc te) (gName i)) := by
  intro pins s σ H B I h
  rw [exec_Assign_Name_used _ _ _ _ hsw]
  refine wpAny_bind (wpAny_standAt (wpAny_bind ?_))
  show wpAny _ X.A (do let _ ← comprehension (.ListComp elt [⟨tg, iter, ifs, 0⟩] scope pos) scope X.env _ (newList []) false (eval iter X.env) (some (assign (.Name y py) X.env))) _ _ s
  refine wpAny_bind (wpAny_mono (wpAny_comprehension_free (use := some (assign (.Name y py) X.env)) (Q := fun _ s' => SP X pins B .next s') rfl hs (c.clos I.ok) c.kind c.names
    (thn (hi pins s σ H _ I h) fun v s1 h1 => thn h1 fun itv s2 z => ?_)) (fun _ s' hq => wpAny_pure (wpAny_pure hq)) fun _ _ e => e)
  obtain ⟨it, fp, tn, J, H2, e, I2, T, st, f2, w⟩ := z
  subst e
  refine comp_run (R := fun acc C => compPost (model X.prog X.w) X.A X.xe (some (assign (.Name y py) X.env)) (fun _ s' => SP X pins B .next s') acc C) c hc hG hg ht he I2 T st f2 w fun D C H' s' I' fC zz52_0 q => ?_
  obtain ⟨m, hm⟩ := zz52_0
  show wpAny _ X.A (assign (.Name y py) X.env (.ref D)) _ _ _
  refine wpAny_assign_Name (store_ok2 I' hN hy (.inl hl) (v := .ref D) rfl (fun s9 I9 zz53_0 => ?_) (.inr hl))
  obtain ⟨a, sb, ha⟩ := zz53_0
  have hne : C ≠ a := by
    rcases ha with z | z
    · rw [z]; exact fC.2.1
    · exact fun e => fC.2.2.2.2.1 y a z e.symm
  refine ⟨m, hm.sameBut sb hne, fun h' hsb => ?_⟩
  exact ⟨_, H', I9.turned (t' := s9.toks) (fun b o ne e => hsb.extBut b o ne e) fC.1 fC.2.1 fC.2.2.2.1 fC.2.2.2.2.1 fC.2.2.2.2.2, q⟩
end
end SD
set_option Elab.async false
set_option linter.all false
set_option maxRecDepth 100000
namespace SD
open PySem PySem.Spec PyProof.Rows L2
inductive Tgt where
  | one | many (n : Nat)
noncomputable def Tgt.len : Tgt → Nat
  | .one => 1
  | .many n => n
noncomputable def ownV (K : PySem.W.Frag) : Tgt → Own
  | .one => fun y _ os => os = [some y]
  | .many n => fun y H os => ∃ a xs, y = .ref a ∧ SqT K H a xs ∧ xs.length = n ∧ os = xs.map some
theorem tg_one {K : PySem.W.Frag} : TgOk 1 (gName 0) (ownV K .one) := ⟨fun _ _ os h => by rw [h]; rfl, fun y H os0 tail os Q hl ho q => by
  obtain ⟨o, rfl⟩ := ln_1 hl
  rw [show os = [some y] from ho] at q; exact q⟩
theorem tg_two {K : PySem.W.Frag} : TgOk 2 (gTup K 2 (gCons (gName 0) (gCons (gName 1) gNil))) (ownV K (.many 2)) := ⟨fun _ _ os z => by
    obtain ⟨a, xs, _, _, hl, e⟩ := z
    rw [e]; simpa using hl, fun y H os0 tail os Q hl z q => by
  obtain ⟨a, xs, e, hq, hx, ho⟩ := z
  obtain ⟨o, o', rfl⟩ := ln_2 hl
  obtain ⟨u, v, rfl⟩ := ln_2 hx
  rw [ho] at q; exact ⟨a, _, e, hq, hx, u, _, rfl, v, _, rfl, rfl, q⟩⟩
noncomputable def ownD : Tgt → D → DS → Prop
  | .one, d, os => os = [some d]
  | .many n, d, os => ∃ ds, d = .tup ds ∧ ds.length = n ∧ os = ds.map some
noncomputable def cδ (os : DS) (js : List Nat) (δ : DS) : DS := os ++ js.map fun j => (δ[j]?).join
theorem slots_c {K : PySem.W.Frag} {H : Hp} {δ os : DS} {σ us : L2.St} {js : List Nat} (hs : Slots K H δ σ) (r : Slots K H os us) : Slots K H (cδ os js δ) (cσ us js σ) := by
  refine ⟨by simp [cδ, cσ, r.len], fun i e q => ?_⟩
  unfold cδ at q
  unfold cσ
  by_cases hi : i < os.length
  · rw [List.getElem?_append_left hi] at q
    rw [List.getElem?_append_left (by rw [← r.len]; exact hi)]
    exact r.at' i e q
  · rw [List.getElem?_append_right (by omega)] at q
    rw [List.getElem?_append_right (by rw [← r.len]; omega), ← r.len]
    rw [List.getElem?_map] at q ⊢
    cases ej : js[i - os.length]? with
    | none => rw [ej] at q; cases q
    | some j =>
      rw [ej] at q
      have e2 : (δ[j]?).join = some e := Option.some.inj q
      have e3 : δ[j]? = some (some e) := by
        cases z : δ[j]? with
        | none => rw [z] at e2; cases e2
        | some o => rw [z] at e2; exact congrArg some e2
      obtain ⟨v', e4, e5⟩ := hs.at' j e e3
      exact ⟨v', by rw [show (some j).map (fun j => (σ[j]?).join) = some ((σ[j]?).join) from rfl, e4]; rfl, e5⟩
theorem slots_all {K : PySem.W.Frag} {H : Hp} {ds : List D} {xs : List V} (r : Reps K H ds xs) : Slots K H (ds.map some) (xs.map some) := by
  refine ⟨by simp [r.length], fun i d e => ?_⟩
  rw [List.getElem?_map] at e ⊢
  cases q : ds[i]? with
  | none => rw [q] at e; cases e
  | some d' =>
    rw [q] at e; cases e
    obtain ⟨x, e1, e2⟩ := r.get q
    exact ⟨x, by rw [e1]; rfl, e2⟩
theorem own_lift {K : PySem.W.Frag} {H : Hp} {tk : Tgt} {d : D} {v : V} {os : DS} (r : Rep K H d v) (h : ownD tk d os) : ∃ us, ownV K tk v H us ∧ Slots K H os us := by
  cases tk with
  | one =>
    rw [show os = [some d] from h]
    exact ⟨[some v], rfl, slots_all (.cons r .nil)⟩
  | many n =>
    obtain ⟨ds, rfl, hl, rfl⟩ := h
    rw [Rep] at r
    obtain ⟨a, xs, rfl, hq, rs⟩ := r
    exact ⟨_, ⟨a, xs, rfl, hq, by rw [← rs.length]; exact hl, rfl⟩, slots_all rs⟩
noncomputable def tTrueD : TTD := fun _ M Q => Q true M
noncomputable def kComp (I : ItD) (tk : Tgt) (js : List Nat) (tc : TTD) (te : TD) (δ : DS) (M1 : MH) (Q : DK) : Prop := I.n ≤ 1000000 ∧ ∀ p, M1 p = none → ∃ W : Nat → List D → MH → Prop, W 0 [] (updM M1 p (.lst [])) ∧ (∀ i ys M, i ≤ I.n → W i ys M → I.C M) ∧
  (∀ i ys d M, i < I.n → I.item i = some d → W i ys M → ∃ os, ownD tk d os ∧ tc (cδ os js δ) M fun b M2 => if b = true then te (cδ os js δ) M2 fun e M' => ∃ M3, Sub M3 M' ∧ M3 p = some (.lst ys) ∧ W (i + 1) (ys ++ [e]) (updM M3 p (.lst (ys ++ [e]))) else ∃ M3, Sub M3 M2 ∧ W (i + 1) ys M3) ∧ ∀ ys M, W I.n ys M → Q (.ref p) M
noncomputable def tCompD (wd : TID) (tk : Tgt) (js : List Nat) (tc : TTD) (te : TD) : TD := fun δ M Q => wd δ M fun I M1 => kComp I tk js tc te δ M1 Q
section
variable {X : Cx} {K : PySem.W.Frag}
theorem comp_lift {wd : TID} {tk : Tgt} {js : List Nat} {tc : TTD} {te : TD} {σ : L2.St} {H : Hp} {Q : VK} (h : lift K (tCompD wd tk js tc te) σ H Q) : tCompL js (ownV K tk) (liftI K wd) (liftT K tc) (lift K te) σ H Q := by
  obtain ⟨δ, M, R, hs, hM, q, fin⟩ := h
  refine ⟨δ, M, _, hs, hM, q, fun I M1 H1 J g1 a1 kc io p hp => ?_⟩
  obtain ⟨hn, kc⟩ := kc
  obtain ⟨W, w0, hC, turn, done⟩ := kc p (a1.fresh hp)
  refine ⟨fun i m H2 => m = I.n - i ∧ i ≤ I.n ∧ Grow K H1 H2 ∧ ∃ ys M, ys.length ≤ i ∧ Abs K H2 M ∧ W i ys M, ⟨I.n, by simp, Nat.zero_le _, .new hp, [], _, Nat.le_refl _, a1.newL hp .nil, w0⟩, ?_⟩
  rintro i m H2 ⟨rfl, hi, g2, ys, M2, hl, a2, w2⟩
  by_cases hin : i < I.n
  · refine .inr ⟨io.go i H2 M2 hin g2 a2 (hC _ _ _ hi w2), fun v H3 hy => ?_⟩
    obtain ⟨g3, a3, d, ed, rd⟩ := io.yld i H2 M2 v H3 hin g2 a2 (hC _ _ _ hi w2) hy
    obtain ⟨os, ow, q3⟩ := turn i ys d M2 hin ed w2
    obtain ⟨us, uv, su⟩ := own_lift rd ow
    have s3 := slots_c (js := js) (hs.mono ((g1.trans g2).trans g3)) su
    refine ⟨us, uv, cδ os js δ, M2, _, s3, a3, q3, fun b M4 H4 g4 a4 q4 => ?_⟩
    cases b with
    | false =>
      rw [if_neg Bool.false_ne_true] at q4 ⊢
      obtain ⟨M5, s5, w5⟩ := q4
      exact ⟨I.n - (i + 1), by omega, rfl, hin, (g2.trans g3).trans g4, ys, M5, by omega, a4.sub s5, w5⟩
    | true =>
      rw [if_pos rfl] at q4 ⊢
      refine ⟨cδ os js δ, M4, _, s3.mono g4, a4, q4, fun e M' u H5 g5 r5 a5 zz55_0 => ?_⟩
      obtain ⟨M6, s6, e6, w6⟩ := zz55_0
      obtain ⟨zs, hx, rs⟩ := (a5.sub s6) _ _ e6
      refine ⟨zs, hx, ?_, I.n - (i + 1), by omega, rfl, hin, (((g2.trans g3).trans g4).trans g5).trans (.lst hx), ys ++ [e], _, by simp; omega, (a5.sub s6).setL hx (rs.append (.cons r5 .nil)), w6⟩
      rw [← rs.length]
      exact Nat.lt_of_le_of_lt hl (Nat.lt_of_lt_of_le hin (Nat.le_trans hn (by decide)))
  · obtain rfl : i = I.n := by omega
    exact .inl ⟨io.stop H2 M2 g2 a2 (hC _ _ _ hi w2), fin _ _ _ _ (g1.trans g2) (by rw [Rep]) a2 (done ys M2 w2)⟩
variable {xs : List Str} {tg : Expr} {pos : Pos} {js : List Nat} {scope : Scope} {elt iter : Expr} {ifs : List Expr} {te : TD} {tc : TTD} {g : TG} {tk : Tgt} {wd : TID}
noncomputable def DTs (X : Cx) (ifs : List Expr) (t : TTD) : Prop := PTs X ifs (liftT X.K t)
theorem dts_nil : DTs X [] tTrueD := fun pins s σ H Q I zz56_0 => by obtain ⟨δ, M, R, hs, hM, q, fin⟩ := zz56_0; exact (pts_nil pins s σ H Q I (fin _ _ _ .refl hM q))
theorem de_comp (c : CScope X xs js scope) (hc : X.calm = true) (hi : DI X tg iter wd) (hG : TgOk xs.length g (ownV X.K tk)) (hg : ∀ C s H fp, PG (cxC X xs js scope C s H fp) tg g) (ht : ∀ C s H fp, DTs (cxC X xs js scope C s H fp) ifs tc) (he : ∀ C s H fp, DE (cxC X xs js scope C s H fp) elt te)
    (hs : ∀ x, foldedSetIterable iter X.env x = pure x := by intro _; rfl) : DE X (.ListComp elt [⟨tg, iter, ifs, 0⟩] scope pos) (tCompD wd tk js tc te) :=
  pe_imp (pe_comp (te := lift X.K te) (tc := liftT X.K tc) c hc hi hG hg ht he hs) fun _ _ _ h => comp_lift h
theorem ds_comp (i : Nat) {y : Str} {py spos : Pos} (hN : X.N.Nodup) (c : CScope X xs js scope) (hc : X.calm = true) (hi : DI X tg iter wd) (hG : TgOk xs.length g (ownV X.K tk)) (hg : ∀ C s H fp, PG (cxC X xs js scope C s H fp) tg g) (ht : ∀ C s H fp, DTs (cxC X xs js scope C s H fp) ifs tc) (he : ∀ C s H fp, DE (cxC X xs js scope C s H fp) elt te)
    (hy : X.N[i]? = some y := by rfl) (hl : X.env.scope.names.lookup y = some .local := by rfl)
    (hsw : swapsWith (.ListComp elt [⟨tg, iter, ifs, 0⟩] scope pos) (some (.Name y py)) spos.line X.env = pure true := by rfl) (hs : ∀ x, foldedSetIterable iter X.env x = pure x := by intro _; rfl) :
    DSt X (.Assign [.Name y py] (.ListComp elt [⟨tg, iter, ifs, 0⟩] scope pos) spos) (tAsgD (tCompD wd tk js tc te) (gNameD i)) :=
  ps_imp (ps_comp (te := lift X.K te) (tc := liftT X.K tc) c hc hN hi hG hg ht he hy hl hsw hs) fun E σ H zz57_0 => by obtain ⟨δ, M, hs, a, B, ok, q⟩ := zz57_0; exact (comp_lift ⟨δ, M, _, hs, a, q, fun d M1 v H1 g1 r1 a1 q1 => ok.nx _ _ _ _ g1 ((hs.mono g1).set r1 i) a1 q1⟩)
theorem comp_map {I : ItD} {tk : Tgt} {js : List Nat} {te : TD} {δ : DS} {M1 : MH} {Q : DK} (f : Nat → D) (hn : I.n ≤ 1000000) (hC : ∀ p ys, M1 p = none → I.C (updM M1 p (.lst ys)))
    (h : ∀ i d M, i < I.n → I.item i = some d → Sub M1 M → ∃ os, ownD tk d os ∧ ∀ K : DK, (∀ M', Sub M M' → K (f i) M') → te (cδ os js δ) M K) (hq : ∀ p, M1 p = none → Q (.ref p) (updM M1 p (.lst ((List.range I.n).map f)))) : kComp I tk js tTrueD te δ M1 Q := by
  refine ⟨hn, fun p hp => ⟨fun i ys M => ys = (List.range i).map f ∧ M = updM M1 p (.lst ys), ⟨rfl, rfl⟩, ?_, ?_, ?_⟩⟩
  · rintro i ys M _ ⟨_, rfl⟩
    exact hC p ys hp
  · rintro i ys d M hi hd ⟨rfl, rfl⟩
    obtain ⟨os, ow, k⟩ := h i d _ hi hd (.new hp .refl)
    refine ⟨os, ow, ?_⟩
    unfold tTrueD
    refine iteT (k _ ?_)
    exact fun M' s' => ⟨_, s', updM_same, by rw [List.range_succ, List.map_append]; rfl, by rw [updM_updM]⟩
  · rintro ys M ⟨rfl, rfl⟩
    exact hq p hp
end
noncomputable def cchk (X : Cx) (xs : List Str) (js : List Nat) (scope : Scope) : Bool :=
  scope.kind == .function && scope.names.all (fun y => (y.2 != .cell || xs.contains y.1) && (y.2 != .free || !xs.contains y.1)) && scope.names.all (fun y => y.2 != .local || scope.names.lookup y.1 == some .local) && xs.all (fun x => scope.names.lookup x == some .local || scope.names.lookup x == some .cell) &&
    scope.names.all (fun y => y.2 != .free || (X.env.kindOf y.1 == some .cell || X.env.kindOf y.1 == some .free)) && decide (cN X xs js).Nodup && js.all (fun j => scope.names.lookup ((X.N[j]?).getD ("" : Str)) != some .local)
theorem CScope.of {X : Cx} {xs : List Str} {js : List Nat} {scope : Scope} (h : cchk X xs js scope = true) : CScope X xs js scope := by
  unfold cchk at h
  simp only [Bool.and_eq_true] at h
  obtain ⟨⟨⟨⟨⟨⟨h1, h2⟩, h3⟩, h4⟩, h5⟩, h6⟩, h7⟩ := h
  refine ⟨by simpa using h1, fun y hy hc => ?_, fun y hy hf => ?_, fun y hy hl => ?_, fun x hx => ?_, fun y hy hf => ?_, of_decide_eq_true h6, fun j hj => ?_⟩
  · have := List.all_eq_true.mp h2 y hy; rw [hc] at this; simpa using this
  · have := List.all_eq_true.mp h2 y hy; rw [hf] at this; simpa using this
  · have := List.all_eq_true.mp h3 y hy; rw [hl] at this; simpa using this
  · have := List.all_eq_true.mp h4 x hx; simpa using this
  · have := List.all_eq_true.mp h5 y hy; rw [hf] at this; simpa using this
  · have := List.all_eq_true.mp h7 j hj; simpa using this
noncomputable abbrev TOD := DS → MH → (Option Int → MH → Prop) → Prop
noncomputable def liftO (K : PySem.W.Frag) (t : TOD) : TO := fun σ H Q => ∃ δ M R, Slots K H δ σ ∧ Abs K H M ∧ t δ M R ∧ ∀ o M' H', Grow K H H' → Abs K H' M' → R o M' → Q o H'
noncomputable def tNoPartD : TOD := fun _ M Q => Q none M
noncomputable def tPartD (t : TD) : TOD := fun δ M Q => t δ M fun x M1 => ∃ i, x = .int i ∧ Q (some i) M1
noncomputable def cutD (xs : List D) (lo hi : Option Int) : List D := (xs.drop (HT.sIx xs.length 0 lo)).take (HT.sIx xs.length xs.length hi - HT.sIx xs.length 0 lo)
noncomputable def rSlD : D → Option Int → Option Int → MH → DK → Prop := fun x lo hi M Q => match x with
  | .ref a => ∃ ds, M a = some (.lst ds) ∧ ∀ p, M p = none → Q (.ref p) (updM M p (.lst (cutD ds lo hi)))
  | .rol ds => ∀ p, M p = none → Q (.ref p) (updM M p (.lst (cutD ds lo hi)))
  | .tup ds => ¬ (HT.sIx ds.length 0 lo = 0 ∧ HT.sIx ds.length ds.length hi = ds.length) ∧ Q (.tup (cutD ds lo hi)) M
  | _ => False
noncomputable def tSlD (te : TD) (tl th : TOD) : TD := fun δ M Q => te δ M fun x M1 => tl δ M1 fun l M2 => th δ M2 fun u M3 => rSlD x l u M3 Q
theorem Reps.cut {K : PySem.W.Frag} {H : Hp} {ds : List D} {xs : List V} (h : Reps K H ds xs) (lo hi : Option Int) : Reps K H (cutD ds lo hi) (cutV xs lo hi) := by
  unfold cutD cutV
  rw [h.length]
  exact (h.drop _).take _
section
variable {X : Cx} {e a : Expr} {te : TD} {tl th : TOD} {lo hi : Option Expr} {pos p2 : Pos}
end
end SD
set_option Elab.async false
set_option linter.all false
set_option maxRecDepth 100000
namespace SD
open PySem PySem.Spec PyProof.Rows L2
section
variable {X : Cx} {x y z : Str} {px py pz pt pos : Pos} {kt : Nat} {js : List Nat} {scope : Scope} {elt iter : Expr} {ifs : List Expr} {te : TD} {tc : TTD} {wd : TID} {xs : List Str}
theorem pg_own (c : CScope X xs js scope) (i : Nat) (hx : xs[i]? = some x) {C : Addr} {s : Shared} {H : Hp} {fp : List Addr} : PG (cxC X xs js scope C s H fp) (.Name x px) (gName i) := by
  have hi : i < xs.length := (List.getElem?_eq_some_iff.mp hx).1
  have hm := List.mem_of_getElem? hx
  have hl : Loc (cxC X xs js scope C s H fp).env.scope x := by
    rcases c.own x hm with z | z
    · exact .inl (relabel_keep (by decide) z)
    · exact .inr (relabel_keep (by decide) z)
  refine pg_name (i := i) c.nd ?_ hl (.inl (by show xs.contains x = true; simpa using hm))
  show (xs ++ js.map fun j => (X.N[j]?).getD ("" : Str))[i]? = some x
  rw [List.getElem?_append_left hi]
  exact hx
theorem pg_own2 (c : CScope X [x, y] js scope) (hc : X.calm = true) {C : Addr} {s : Shared} {H : Hp} {fp : List Addr} : PG (cxC X [x, y] js scope C s H fp) (.Tuple [.Name x px, .Name y py] kt pt) (gTup X.K 2 (gCons (gName 0) (gCons (gName 1) gNil))) :=
  pg_tup (X := cxC X [x, y] js scope C s H fp) hc (pgs_cons (pg_own c 0 rfl) (pgs_cons (pg_own c 1 rfl) pgs_nil)) rfl rfl
theorem de_comp1 (c : CScope X [x] js scope) (hc : X.calm = true) (hi : DI X (.Name x px) iter wd) (ht : ∀ C s H fp, DTs (cxC X [x] js scope C s H fp) ifs tc) (he : ∀ C s H fp, DE (cxC X [x] js scope C s H fp) elt te)
    (hs : ∀ x, foldedSetIterable iter X.env x = pure x := by intro _; rfl) : DE X (.ListComp elt [⟨.Name x px, iter, ifs, 0⟩] scope pos) (tCompD wd .one js tc te) :=
  de_comp c hc hi tg_one (fun _ _ _ _ => pg_own c 0 rfl) ht he hs
theorem de_comp2 (c : CScope X [x, y] js scope) (hc : X.calm = true) (hi : DI X (.Tuple [.Name x px, .Name y py] kt pt) iter wd) (ht : ∀ C s H fp, DTs (cxC X [x, y] js scope C s H fp) ifs tc) (he : ∀ C s H fp, DE (cxC X [x, y] js scope C s H fp) elt te)
    (hs : ∀ x, foldedSetIterable iter X.env x = pure x := by intro _; rfl) : DE X (.ListComp elt [⟨.Tuple [.Name x px, .Name y py] kt pt, iter, ifs, 0⟩] scope pos) (tCompD wd (.many 2) js tc te) :=
  de_comp c hc hi tg_two (fun _ _ _ _ => pg_own2 c hc) ht he hs
theorem ds_comp1 (i : Nat) {v : Str} {pv spos : Pos} (hN : X.N.Nodup) (c : CScope X [x] js scope) (hc : X.calm = true) (hi : DI X (.Name x px) iter wd) (ht : ∀ C s H fp, DTs (cxC X [x] js scope C s H fp) ifs tc) (he : ∀ C s H fp, DE (cxC X [x] js scope C s H fp) elt te)
    (hy : X.N[i]? = some v := by rfl) (hl : X.env.scope.names.lookup v = some .local := by rfl)
    (hsw : swapsWith (.ListComp elt [⟨.Name x px, iter, ifs, 0⟩] scope pos) (some (.Name v pv)) spos.line X.env = pure true := by rfl) (hs : ∀ x, foldedSetIterable iter X.env x = pure x := by intro _; rfl) :
    DSt X (.Assign [.Name v pv] (.ListComp elt [⟨.Name x px, iter, ifs, 0⟩] scope pos) spos) (tAsgD (tCompD wd .one js tc te) (gNameD i)) :=
  ds_comp i hN c hc hi tg_one (fun _ _ _ _ => pg_own c 0 rfl) ht he hy hl hsw hs
theorem ds_comp2 (i : Nat) {v : Str} {pv spos : Pos} (hN : X.N.Nodup) (c : CScope X [x, y] js scope) (hc : X.calm = true) (hi : DI X (.Tuple [.Name x px, .Name y py] kt pt) iter wd) (ht : ∀ C s H fp, DTs (cxC X [x, y] js scope C s H fp) ifs tc) (he : ∀ C s H fp, DE (cxC X [x, y] js scope C s H fp) elt te)
    (hy : X.N[i]? = some v := by rfl) (hl : X.env.scope.names.lookup v = some .local := by rfl)
    (hsw : swapsWith (.ListComp elt [⟨.Tuple [.Name x px, .Name y py] kt pt, iter, ifs, 0⟩] scope pos) (some (.Name v pv)) spos.line X.env = pure true := by rfl) (hs : ∀ x, foldedSetIterable iter X.env x = pure x := by intro _; rfl) :
    DSt X (.Assign [.Name v pv] (.ListComp elt [⟨.Tuple [.Name x px, .Name y py] kt pt, iter, ifs, 0⟩] scope pos) spos) (tAsgD (tCompD wd (.many 2) js tc te) (gNameD i)) :=
  ds_comp i hN c hc hi tg_two (fun _ _ _ _ => pg_own2 c hc) ht he hy hl hsw hs
end
end SD
set_option Elab.async false
set_option linter.all false
set_option maxRecDepth 100000
namespace SD
open PySem PySem.Spec PyProof.Rows L2
section
variable {prog : Program} {w : World} {A : Around} {E : Value → Shared → Prop} {s : Shared}
theorem max_two {a b : Value} {c : Bool} {Q : Value → Shared → Prop} (hh : A.handled = none)
    (cmp : ∀ (t : Shared) (Q' : Value → Shared → Prop) (E' : Value → Shared → Prop), (∀ x o, s.heap.get? x = some o → t.heap.get? x = some o) → Q' (.bool c) t → wpAny (model prog w) A.in1 (richCompare .Gt b a) Q' E' t)
    (h : ∀ h' tk, (∀ x o, s.heap.get? x = some o → h'.get? x = some o) → Q (if c = true then b else a) { s with heap := h', toks := tk }) :
    wpAny (model prog w) A (call (.builtin "max") [a, b]) Q E s := by
  have nm : (toString "max" ++ toString ".loop" : String) = "max.loop" := by decide
  refine call_function_tree F.kind_max F.plain_max F.entry_max (F.args_max2 _ _) ?_
  show wpAny _ A.in1 (Builtin.Builtins.bindParams "max" ["key", "default"] 0 ⟨[], []⟩ >>= fun _ => _) _ _ s
  refine wpAny_bind (wpAny_of_eq (a := [none, none]) rfl ?_)
  show wpAny _ A.in1 (newTuple [a, b] >>= fun _ => _) _ _ s
  refine wpAny_bind (wpAny_newObj_type ?_)
  generalize e1 : s.heap.push { cls := .type "tuple", dict := none, data := .seq ([a, b] : List Value).toArray } = h1
  have k1 : ∀ x o, s.heap.get? x = some o → h1.get? x = some o := fun x o q => by rw [← e1]; exact Heap.get?_push_of_some _ q
  have hT : h1.IsTuple s.heap.objs.size #[a, b] := by rw [← e1]; exact ⟨_, Heap.get?_push_size _ rfl, rfl, 0, rfl⟩
  have z1 : h1.objs.size = s.heap.objs.size + 1 := by rw [← e1, Heap.size_push]
  refine wpAny_bind (wpAny_pyIter_tuple (s := { s with heap := h1 }) hT ?_)
  refine wpAny_bind (wpAny_newObj_type ?_)
  dsimp only
  generalize eI : h1.objs.size = I
  generalize e2 : h1.push _ = h2
  have k2 : ∀ x o, h1.get? x = some o → h2.get? x = some o := fun x o q => by rw [← e2]; exact Heap.get?_push_of_some _ q
  have hI : h2.IsTupleIter I s.heap.objs.size 0 := by rw [← e2, ← eI]; exact ⟨_, Heap.get?_push_size _ rfl, rfl, rfl⟩
  have z2 : h2.objs.size = I + 1 := by rw [← e2, Heap.size_push, eI]
  generalize eS : h2.objs.size = S
  generalize e3 : h2.push _ = h3
  have k3 : ∀ x o, h2.get? x = some o → h3.get? x = some o := fun x o q => by rw [← e3]; exact Heap.get?_push_of_some _ q
  have hS : h3.get? S = some { cls := .type "list", dict := none, data := .seq #[] 0, slots := #[] } := by rw [← e3, ← eS]; exact Heap.get?_push_size _ rfl
  have SI : S ≠ I := by omega
  have old : ∀ x o, s.heap.get? x = some o → x ≠ I ∧ x ≠ S := fun x o q => ⟨Nat.ne_of_lt (Nat.lt_of_lt_of_le (Heap.lt_size q) (by omega)), Nat.ne_of_lt (Nat.lt_of_lt_of_le (Heap.lt_size q) (by omega))⟩
  have hT3 : h3.IsTuple s.heap.objs.size #[a, b] := by
    obtain ⟨o, q, r⟩ := hT
    exact ⟨o, k3 _ _ (k2 _ _ q), r⟩
  have hI3 : h3.IsTupleIter I s.heap.objs.size 0 := hI.at fun o q => k3 _ _ q
  have TI : s.heap.objs.size ≠ I := by omega
  have TS : s.heap.objs.size ≠ S := by omega
  have keep3 : ∀ x o, s.heap.get? x = some o → h3.get? x = some o := fun x o q => k3 _ _ (k2 _ _ (k1 _ _ q))
  rw [nm]
  refine wpAny_pure ⟨plainId_quiet F.plain_max_loop _, ?_⟩
  have last : ∀ (t : Shared) (v : Value) (n : Nat), t.heap.IsTupleIter I s.heap.objs.size 2 → t.heap.IsTuple s.heap.objs.size #[a, b] → t.heap.get? S = some { cls := .type "list", dict := none, data := .seq #[v, v] n, slots := #[] } →
      (∃ h' tk, t = { s with heap := h', toks := tk } ∧ ∀ x o, s.heap.get? x = some o → h'.get? x = some o) → v = (if c = true then b else a) → codeAny (model prog w) A (.builtin "max.loop" ⟨[.ref I, .none, .ref S], []⟩) (fun r s' => match r with | .ok (.ret v) => Q v s' | .ok _ => False | .error e => E e s') t := by
    rintro t v n i2 tT lS ⟨h', tk, rfl, kt⟩ ev
    refine codeAny_builtin F.entry_max_loop ?_
    rw [Around.under_plainId F.plain_max_loop _]
    show wpAny _ A.in1 (seqItems? (.ref S) >>= fun _ => _) _ _ _
    refine wpAny_bind (wpAny_seqItems lS rfl ?_)
    show wpAny _ A.in1 (tryCatch (pyNext (.ref I)) _ >>= fun _ => _) _ _ _
    refine wpAny_bind (wpAny_tryCatch (wpAny_pyNext_tuple_end (A := A.in1) hh i2 tT (by simp) fun h4 q4 => ?_))
    have lS4 : h4.get? S = some _ := q4 _ _ SI lS
    show wpAny _ A.in1 (updateSeq S (fun _ => #[]) >>= fun _ => _) _ _ _
    refine wpAny_bind (wpAny_updateSeq lS4 rfl (wpAny_bind (wpAny_letGo (wpAny_pure ?_))))
    show Q v _
    rw [ev]
    exact h _ _ fun x o q => (Heap.get?_update_other _ _ (old x o q).2.symm).trans (q4 x o (old x o q).1 (kt x o q))
  refine codeAny_builtin F.entry_max_loop ?_
  rw [Around.under_plainId F.plain_max_loop _]
  show wpAny _ A.in1 (seqItems? (.ref S) >>= fun _ => _) _ _ _
  refine wpAny_bind (wpAny_seqItems (s := { s with heap := h3 }) hS rfl ?_)
  show wpAny _ A.in1 (tryCatch (pyNext (.ref I)) _ >>= fun _ => _) _ _ _
  refine wpAny_bind (wpAny_tryCatch (wpAny_pyNext_tuple_item (s := { s with heap := h3 }) hI3 hT3 (x := a) (by simp) fun h4 i4 q4 => ?_))
  have hS4 : h4.get? S = some _ := (q4.2 _ SI).trans hS
  have hT4 : h4.IsTuple s.heap.objs.size #[a, b] := by
    obtain ⟨o, q, r⟩ := hT3
    exact ⟨o, (q4.2 _ TI).trans q, r⟩
  show wpAny _ A.in1 (updateSeq S (fun _ => #[a, a]) >>= fun _ => _) _ _ _
  refine wpAny_bind (wpAny_updateSeq hS4 rfl ?_)
  rw [nm]
  refine wpAny_pure ⟨plainId_quiet F.plain_max_loop _, ?_⟩
  generalize e5 : h4.update S _ = h5
  have o5 : ∀ x, x ≠ S → h5.get? x = h4.get? x := fun x q => by rw [← e5]; exact Heap.get?_update_other _ _ q.symm
  have hS5 : ∃ n, h5.get? S = some { cls := .type "list", dict := none, data := .seq #[a, a] n, slots := #[] } := ⟨_, by rw [← e5]; exact Heap.get?_update_self _ hS4 rfl⟩
  obtain ⟨n5, hS5⟩ := hS5
  have i5 : h5.IsTupleIter I s.heap.objs.size 1 := i4.at fun o q => (o5 _ SI.symm).trans q
  have hT5 : h5.IsTuple s.heap.objs.size #[a, b] := by
    obtain ⟨o, q, r⟩ := hT4
    exact ⟨o, (o5 _ TS).trans q, r⟩
  have keep5 : ∀ x o, s.heap.get? x = some o → h5.get? x = some o := fun x o q => (o5 _ (old x o q).2).trans ((q4.2 _ (old x o q).1).trans (keep3 x o q))
  refine codeAny_builtin F.entry_max_loop ?_
  rw [Around.under_plainId F.plain_max_loop _]
  show wpAny _ A.in1 (seqItems? (.ref S) >>= fun _ => _) _ _ _
  refine wpAny_bind (wpAny_seqItems (s := { s with heap := h5 }) hS5 rfl ?_)
  show wpAny _ A.in1 (tryCatch (pyNext (.ref I)) _ >>= fun _ => _) _ _ _
  refine wpAny_bind (wpAny_tryCatch (wpAny_pyNext_tuple_item (s := { s with heap := h5 }) i5 hT5 (x := b) (by simp) fun h6 i6 q6 => ?_))
  have hS6 : h6.get? S = some _ := (q6.2 _ SI).trans hS5
  have hT6 : h6.IsTuple s.heap.objs.size #[a, b] := by
    obtain ⟨o, q, r⟩ := hT5
    exact ⟨o, (q6.2 _ TI).trans q, r⟩
  have keep6 : ∀ x o, s.heap.get? x = some o → h6.get? x = some o := fun x o q => (q6.2 _ (old x o q).1).trans (keep5 x o q)
  show wpAny _ A.in1 (tryCatch (holding [b, b] (richCompare .Gt b a >>= fun _ => _)) _ >>= fun _ => _) _ _ _
  refine wpAny_bind (wpAny_tryCatch (wpAny_holding (wpAny_bind (cmp _ _ _ keep6 ?_))))
  refine wpAny_bind (wpAny_holding (wpAny_truthy_bool ?_))
  refine wpAny_bind (wpAny_letGo (wpAny_pure ?_))
  cases c with
  | true =>
    simp only [if_true] at last ⊢
    refine wpAny_bind (wpAny_updateSeq hS6 rfl (wpAny_bind (wpAny_letGo ?_)))
    rw [nm]
    refine wpAny_pure ⟨plainId_quiet F.plain_max_loop _, last _ b _ (i6.at fun o q => (Heap.get?_update_other _ _ SI).trans q) ?_ (Heap.get?_update_self _ hS6 rfl) ⟨_, _, rfl, fun x o q => (Heap.get?_update_other _ _ (old x o q).2.symm).trans (keep6 x o q)⟩ rfl⟩
    obtain ⟨o, q, r⟩ := hT6
    exact ⟨o, (Heap.get?_update_other _ _ TS.symm).trans q, r⟩
  | false =>
    simp only [Bool.false_eq_true, if_false] at last ⊢
    refine wpAny_bind (wpAny_letGo ?_)
    rw [nm]
    exact wpAny_pure ⟨plainId_quiet F.plain_max_loop _, last _ a _ i6 hT6 hS6 ⟨_, _, rfl, keep6⟩ rfl⟩
theorem min_two {a b : Value} {c : Bool} {Q : Value → Shared → Prop} (hh : A.handled = none)
    (cmp : ∀ (t : Shared) (Q' : Value → Shared → Prop) (E' : Value → Shared → Prop), (∀ x o, s.heap.get? x = some o → t.heap.get? x = some o) → Q' (.bool c) t → wpAny (model prog w) A.in1 (richCompare .Lt b a) Q' E' t)
    (h : ∀ h' tk, (∀ x o, s.heap.get? x = some o → h'.get? x = some o) → Q (if c = true then b else a) { s with heap := h', toks := tk }) :
    wpAny (model prog w) A (call (.builtin "min") [a, b]) Q E s := by
  have nm : (toString "min" ++ toString ".loop" : String) = "min.loop" := by decide
  refine call_function_tree F.kind_min F.plain_min F.entry_min (F.args_min2 _ _) ?_
  show wpAny _ A.in1 (Builtin.Builtins.bindParams "min" ["key", "default"] 0 ⟨[], []⟩ >>= fun _ => _) _ _ s
  refine wpAny_bind (wpAny_of_eq (a := [none, none]) rfl ?_)
  show wpAny _ A.in1 (newTuple [a, b] >>= fun _ => _) _ _ s
  refine wpAny_bind (wpAny_newObj_type ?_)
  generalize e1 : s.heap.push { cls := .type "tuple", dict := none, data := .seq ([a, b] : List Value).toArray } = h1
  have k1 : ∀ x o, s.heap.get? x = some o → h1.get? x = some o := fun x o q => by rw [← e1]; exact Heap.get?_push_of_some _ q
  have hT : h1.IsTuple s.heap.objs.size #[a, b] := by rw [← e1]; exact ⟨_, Heap.get?_push_size _ rfl, rfl, 0, rfl⟩
  have z1 : h1.objs.size = s.heap.objs.size + 1 := by rw [← e1, Heap.size_push]
  refine wpAny_bind (wpAny_pyIter_tuple (s := { s with heap := h1 }) hT ?_)
  refine wpAny_bind (wpAny_newObj_type ?_)
  dsimp only
  generalize eI : h1.objs.size = I
  generalize e2 : h1.push _ = h2
  have k2 : ∀ x o, h1.get? x = some o → h2.get? x = some o := fun x o q => by rw [← e2]; exact Heap.get?_push_of_some _ q
  have hI : h2.IsTupleIter I s.heap.objs.size 0 := by rw [← e2, ← eI]; exact ⟨_, Heap.get?_push_size _ rfl, rfl, rfl⟩
  have z2 : h2.objs.size = I + 1 := by rw [← e2, Heap.size_push, eI]
  generalize eS : h2.objs.size = S
  generalize e3 : h2.push _ = h3
  have k3 : ∀ x o, h2.get? x = some o → h3.get? x = some o := fun x o q => by rw [← e3]; exact Heap.get?_push_of_some _ q
  have hS : h3.get? S = some { cls := .type "list", dict := none, data := .seq #[] 0, slots := #[] } := by rw [← e3, ← eS]; exact Heap.get?_push_size _ rfl
  have SI : S ≠ I := by omega
  have old : ∀ x o, s.heap.get? x = some o → x ≠ I ∧ x ≠ S := fun x o q => ⟨Nat.ne_of_lt (Nat.lt_of_lt_of_le (Heap.lt_size q) (by omega)), Nat.ne_of_lt (Nat.lt_of_lt_of_le (Heap.lt_size q) (by omega))⟩
  have hT3 : h3.IsTuple s.heap.objs.size #[a, b] := by
    obtain ⟨o, q, r⟩ := hT
    exact ⟨o, k3 _ _ (k2 _ _ q), r⟩
  have hI3 : h3.IsTupleIter I s.heap.objs.size 0 := hI.at fun o q => k3 _ _ q
  have TI : s.heap.objs.size ≠ I := by omega
  have TS : s.heap.objs.size ≠ S := by omega
  have keep3 : ∀ x o, s.heap.get? x = some o → h3.get? x = some o := fun x o q => k3 _ _ (k2 _ _ (k1 _ _ q))
  rw [nm]
  refine wpAny_pure ⟨plainId_quiet F.plain_min_loop _, ?_⟩
  have last : ∀ (t : Shared) (v : Value) (n : Nat), t.heap.IsTupleIter I s.heap.objs.size 2 → t.heap.IsTuple s.heap.objs.size #[a, b] → t.heap.get? S = some { cls := .type "list", dict := none, data := .seq #[v, v] n, slots := #[] } →
      (∃ h' tk, t = { s with heap := h', toks := tk } ∧ ∀ x o, s.heap.get? x = some o → h'.get? x = some o) → v = (if c = true then b else a) → codeAny (model prog w) A (.builtin "min.loop" ⟨[.ref I, .none, .ref S], []⟩) (fun r s' => match r with | .ok (.ret v) => Q v s' | .ok _ => False | .error e => E e s') t := by
    rintro t v n i2 tT lS ⟨h', tk, rfl, kt⟩ ev
    refine codeAny_builtin F.entry_min_loop ?_
    rw [Around.under_plainId F.plain_min_loop _]
    show wpAny _ A.in1 (seqItems? (.ref S) >>= fun _ => _) _ _ _
    refine wpAny_bind (wpAny_seqItems lS rfl ?_)
    show wpAny _ A.in1 (tryCatch (pyNext (.ref I)) _ >>= fun _ => _) _ _ _
    refine wpAny_bind (wpAny_tryCatch (wpAny_pyNext_tuple_end (A := A.in1) hh i2 tT (by simp) fun h4 q4 => ?_))
    have lS4 : h4.get? S = some _ := q4 _ _ SI lS
    show wpAny _ A.in1 (updateSeq S (fun _ => #[]) >>= fun _ => _) _ _ _
    refine wpAny_bind (wpAny_updateSeq lS4 rfl (wpAny_bind (wpAny_letGo (wpAny_pure ?_))))
    show Q v _
    rw [ev]
    exact h _ _ fun x o q => (Heap.get?_update_other _ _ (old x o q).2.symm).trans (q4 x o (old x o q).1 (kt x o q))
  refine codeAny_builtin F.entry_min_loop ?_
  rw [Around.under_plainId F.plain_min_loop _]
  show wpAny _ A.in1 (seqItems? (.ref S) >>= fun _ => _) _ _ _
  refine wpAny_bind (wpAny_seqItems (s := { s with heap := h3 }) hS rfl ?_)
  show wpAny _ A.in1 (tryCatch (pyNext (.ref I)) _ >>= fun _ => _) _ _ _
  refine wpAny_bind (wpAny_tryCatch (wpAny_pyNext_tuple_item (s := { s with heap := h3 }) hI3 hT3 (x := a) (by simp) fun h4 i4 q4 => ?_))
  have hS4 : h4.get? S = some _ := (q4.2 _ SI).trans hS
  have hT4 : h4.IsTuple s.heap.objs.size #[a, b] := by
    obtain ⟨o, q, r⟩ := hT3
    exact ⟨o, (q4.2 _ TI).trans q, r⟩
  show wpAny _ A.in1 (updateSeq S (fun _ => #[a, a]) >>= fun _ => _) _ _ _
  refine wpAny_bind (wpAny_updateSeq hS4 rfl ?_)
  rw [nm]
  refine wpAny_pure ⟨plainId_quiet F.plain_min_loop _, ?_⟩
  generalize e5 : h4.update S _ = h5
  have o5 : ∀ x, x ≠ S → h5.get? x = h4.get? x := fun x q => by rw [← e5]; exact Heap.get?_update_other _ _ q.symm
  have hS5 : ∃ n, h5.get? S = some { cls := .type "list", dict := none, data := .seq #[a, a] n, slots := #[] } := ⟨_, by rw [← e5]; exact Heap.get?_update_self _ hS4 rfl⟩
  obtain ⟨n5, hS5⟩ := hS5
  have i5 : h5.IsTupleIter I s.heap.objs.size 1 := i4.at fun o q => (o5 _ SI.symm).trans q
  have hT5 : h5.IsTuple s.heap.objs.size #[a, b] := by
    obtain ⟨o, q, r⟩ := hT4
    exact ⟨o, (o5 _ TS).trans q, r⟩
  have keep5 : ∀ x o, s.heap.get? x = some o → h5.get? x = some o := fun x o q => (o5 _ (old x o q).2).trans ((q4.2 _ (old x o q).1).trans (keep3 x o q))
  refine codeAny_builtin F.entry_min_loop ?_
  rw [Around.under_plainId F.plain_min_loop _]
  show wpAny _ A.in1 (seqItems? (.ref S) >>= fun _ => _) _ _ _
  refine wpAny_bind (wpAny_seqItems (s := { s with heap := h5 }) hS5 rfl ?_)
  show wpAny _ A.in1 (tryCatch (pyNext (.ref I)) _ >>= fun _ => _) _ _ _
  refine wpAny_bind (wpAny_tryCatch (wpAny_pyNext_tuple_item (s := { s with heap := h5 }) i5 hT5 (x := b) (by simp) fun h6 i6 q6 => ?_))
  have hS6 : h6.get? S = some _ := (q6.2 _ SI).trans hS5
  have hT6 : h6.IsTuple s.heap.objs.size #[a, b] := by
    obtain ⟨o, q, r⟩ := hT5
    exact ⟨o, (q6.2 _ TI).trans q, r⟩
  have keep6 : ∀ x o, s.heap.get? x = some o → h6.get? x = some o := fun x o q => (q6.2 _ (old x o q).1).trans (keep5 x o q)
  show wpAny _ A.in1 (tryCatch (holding [b, b] (richCompare .Lt b a >>= fun _ => _)) _ >>= fun _ => _) _ _ _
  refine wpAny_bind (wpAny_tryCatch (wpAny_holding (wpAny_bind (cmp _ _ _ keep6 ?_))))
  refine wpAny_bind (wpAny_holding (wpAny_truthy_bool ?_))
  refine wpAny_bind (wpAny_letGo (wpAny_pure ?_))
  cases c with
  | true =>
    simp only [if_true] at last ⊢
    refine wpAny_bind (wpAny_updateSeq hS6 rfl (wpAny_bind (wpAny_letGo ?_)))
    rw [nm]
    refine wpAny_pure ⟨plainId_quiet F.plain_min_loop _, last _ b _ (i6.at fun o q => (Heap.get?_update_other _ _ SI).trans q) ?_ (Heap.get?_update_self _ hS6 rfl) ⟨_, _, rfl, fun x o q => (Heap.get?_update_other _ _ (old x o q).2.symm).trans (keep6 x o q)⟩ rfl⟩
    obtain ⟨o, q, r⟩ := hT6
    exact ⟨o, (Heap.get?_update_other _ _ TS.symm).trans q, r⟩
  | false =>
    simp only [Bool.false_eq_true, if_false] at last ⊢
    refine wpAny_bind (wpAny_letGo ?_)
    rw [nm]
    exact wpAny_pure ⟨plainId_quiet F.plain_min_loop _, last _ a _ i6 hT6 hS6 ⟨_, _, rfl, keep6⟩ rfl⟩
end
end SD
set_option Elab.async false
set_option linter.all false
set_option maxRecDepth 100000
namespace HT
open PySem PyProof.Rows
noncomputable def lexLe : List Int → List Int → Bool
  | [], [] => true
  | [], _ :: _ => true
  | _ :: _, [] => false
  | x :: xs, y :: ys => if x = y then lexLe xs ys else decide (x ≤ y)
theorem lexLe_cons (x y : Int) (xs ys : List Int) : lexLe (x :: xs) (y :: ys) = if x = y then lexLe xs ys else decide (x ≤ y) := rfl
theorem lexLe_nil_nil : lexLe [] [] = true := rfl
theorem lexLe_nil_cons (y : Int) (ys : List Int) : lexLe [] (y :: ys) = true := rfl
theorem lexLe_cons_nil (x : Int) (xs : List Int) : lexLe (x :: xs) [] = false := rfl
theorem rcLe_int (A : Around) (s : Shared) (a : Int) (t : Tok) (c : Int) (u : Tok) (prog : Program) (w : World) (E : Value → Shared → Prop) (Q : Value → Shared → Prop) (h : Q (.bool (decide (a ≤ c))) s) :
    wpAny (model prog w) A (richCompare .LtE (.int a t) (.int c u)) Q E s :=
  (PyProof.Rows.le_int h : wpAny (model prog w) A (compareOp .LtE (.int a t) (.int c u)) Q E s)
section
open PySem.SeqAt
open PySem.AutoSeq1 (wpAny_loadPart')
open PySem.MeetsSeq PySem.MeetsSeq2 PySem.MeetsSeq3
theorem tuple_le_ints (l b : Addr) (items items2 : Array Value) (n n2 : Nat) (dd dd2 : Option Addr) (sl sl2 : Array (Option Value)) (ns ms : List Int) (hi : IntsAre items.toList ns) (hj : IntsAre items2.toList ms) :
    Meets (Builtin.«tuple.__le__» ⟨[.ref l, .ref b], []⟩)
      (fun _ R s => s.heap.get? l = some { cls := .type "tuple", dict := dd, data := .seq items n, slots := sl } ∧ s.heap.get? b = some { cls := .type "tuple", dict := dd2, data := .seq items2 n2, slots := sl2 } ∧
        R (.ok (.ret (.bool (lexLe ns ms)))) s) :=
  .of_wp fun prog w A R s h => by
    obtain ⟨hp, g, d, tk, os⟩ := s; obtain ⟨hl, hb, h⟩ := h
    have f2 := AutoSeq1.sub_tuple_tuple
    have z1 : items.size = ns.length := by rw [← hi.length]; simp
    have z2 : items2.size = ms.length := by rw [← hj.length]; simp
    wp_walk using wpAny_loadPart' hl, wpAny_loadPart' hb, wpAny_forIn_list _ (fun rest b s' => b.1 = none ∧ s' = ⟨hp, g, d, tk, os⟩ ∧ ∃ (vs ws : List Value) (ns' ms' : List Int), rest = vs.zip ws ∧
      IntsAre vs ns' ∧ IntsAre ws ms' ∧ ns'.length + items2.size = ms'.length + items.size ∧ R (.ok (.ret (.bool (lexLe ns' ms')))) ⟨hp, g, d, tk, os⟩) _
    case turn =>
      rintro ⟨y, x⟩ rest b s' ⟨hb', rfl, vs, ws, ns', ms', hz, hvi, hwi, hlen, hR⟩
      cases hvi with
      | nil => rw [List.zip_nil_left] at hz; cases hz
      | cons a t hvi' =>
        cases hwi with
        | nil => rw [List.zip_nil_right] at hz; cases hz
        | cons c u hwi' =>
          rw [List.zip_cons_cons] at hz
          injection hz with hyx hrest
          injection hyx with hy hx
          subst hy hx
          rw [lexLe_cons] at hR
          simp only [List.length_cons] at hlen
          obtain ⟨e, he, hiff⟩ := eqAt_int A.in1 ⟨hp, g, d, tk, os⟩ a t c u
          refine wpAny_bind (he prog w _ _ ?_)
          cases e with
          | true =>
            rw [if_pos (hiff.mp rfl)] at hR
            wp_walk
            exact ⟨rfl, rfl, _, _, _, _, hrest, hvi', hwi', by omega, hR⟩
          | false =>
            rw [if_neg (fun q => absurd (hiff.mpr q) Bool.false_ne_true)] at hR
            have hri := rcLe_int A.in1 ⟨hp, g, d, tk, os⟩ a t c u prog w
            wp_walk using hri
            exact ⟨_, rfl, by simpa using hR⟩
    case fin =>
      rintro ⟨b1, b2⟩ s' ⟨hb', rfl, vs, ws, ns', ms', hz, hvi, hwi, hlen, hR⟩
      simp only at hb'
      subst hb'
      have hv : lexLe ns' ms' = decide (items.size ≤ items2.size) := by
        cases hvi with
        | nil =>
          cases hwi with
          | nil =>
            simp only [List.length_nil] at hlen
            rw [lexLe_nil_nil]
            exact (decide_eq_true (by omega)).symm
          | cons c u hw =>
            simp only [List.length_nil, List.length_cons] at hlen
            rw [lexLe_nil_cons]
            exact (decide_eq_true (by omega)).symm
        | cons a t hv =>
          cases hwi with
          | nil =>
            simp only [List.length_nil, List.length_cons] at hlen
            rw [lexLe_cons_nil]
            exact (decide_eq_false (by omega)).symm
          | cons c u hw =>
            rw [List.zip_cons_cons] at hz
            cases hz
      rw [hv] at hR
      wp_walk
      exact ⟨_, rfl, by simpa [Builtin.Tuple.tupleCompareSizes] using hR⟩
    case h =>
      exact ⟨rfl, rfl, items.toList, items2.toList, ns, ms, rfl, hi, hj, by omega, h⟩
end
section
variable {prog : Program} {w : World} {A : Around} {E : Value → Shared → Prop} {s : Shared}
theorem le_tupInts {l b : Addr} {items items2 : Array Value} {ns ms : List Int} {Q : Value → Shared → Prop} (hl : IsTup s.heap l items) (hb : IsTup s.heap b items2) (hi : IntsAre items.toList ns) (hj : IntsAre items2.toList ms)
    (hu : A.units < cLine) (h : Q (.bool (lexLe ns ms)) s) : wpAny (model prog w) A (compareOp .LtE (.ref l) (.ref b)) Q E s := by
  obtain ⟨⟨cls, dd, data, sl⟩, ho, hc, n, hd⟩ := id hl
  obtain ⟨⟨cls2, dd2, data2, sl2⟩, ho2, hc2, n2, hd2⟩ := id hb
  simp only at hc hd hc2 hd2
  subst hc hd hc2 hd2
  exact richCompare_meets_room (op := .LtE) ⟨_, ho, rfl⟩ ⟨_, ho2, rfl⟩ PySem.F.slot_tuple_le PySem.F.entry_tuple_le (PySem.F.args_tuple_le_2 _ _) (tuple_le_ints l b items items2 n n2 dd dd2 sl sl2 ns ms hi hj)
    ⟨ho, ho2, show Value.bool (lexLe ns ms) ≠ Value.notImplemented ∧ Q (.bool (lexLe ns ms)) s from ⟨(fun x => nomatch x), h⟩⟩ hu
end
noncomputable def lexGt : List Int → List Int → Bool
  | [], [] => false
  | [], _ :: _ => false
  | _ :: _, [] => true
  | x :: xs, y :: ys => if x = y then lexGt xs ys else decide (y < x)
theorem lexGt_cons (x y : Int) (xs ys : List Int) : lexGt (x :: xs) (y :: ys) = if x = y then lexGt xs ys else decide (y < x) := rfl
theorem lexGt_nil_nil : lexGt [] [] = false := rfl
theorem lexGt_nil_cons (y : Int) (ys : List Int) : lexGt [] (y :: ys) = false := rfl
theorem lexGt_cons_nil (x : Int) (xs : List Int) : lexGt (x :: xs) [] = true := rfl
theorem rcGt_int (A : Around) (s : Shared) (a : Int) (t : Tok) (c : Int) (u : Tok) (prog : Program) (w : World) (E : Value → Shared → Prop) (Q : Value → Shared → Prop) (h : Q (.bool (decide (c < a))) s) :
    wpAny (model prog w) A (richCompare .Gt (.int a t) (.int c u)) Q E s :=
  (PyProof.Rows.gt_int h : wpAny (model prog w) A (compareOp .Gt (.int a t) (.int c u)) Q E s)
section
open PySem.SeqAt
open PySem.AutoSeq1 (wpAny_loadPart')
open PySem.MeetsSeq PySem.MeetsSeq2 PySem.MeetsSeq3
theorem tuple_gt_ints (l b : Addr) (items items2 : Array Value) (n n2 : Nat) (dd dd2 : Option Addr) (sl sl2 : Array (Option Value)) (ns ms : List Int) (hi : IntsAre items.toList ns) (hj : IntsAre items2.toList ms) :
    Meets (Builtin.«tuple.__gt__» ⟨[.ref l, .ref b], []⟩)
      (fun _ R s => s.heap.get? l = some { cls := .type "tuple", dict := dd, data := .seq items n, slots := sl } ∧ s.heap.get? b = some { cls := .type "tuple", dict := dd2, data := .seq items2 n2, slots := sl2 } ∧
        R (.ok (.ret (.bool (lexGt ns ms)))) s) :=
  .of_wp fun prog w A R s h => by
    obtain ⟨hp, g, d, tk, os⟩ := s; obtain ⟨hl, hb, h⟩ := h
    have f2 := AutoSeq1.sub_tuple_tuple
    have z1 : items.size = ns.length := by rw [← hi.length]; simp
    have z2 : items2.size = ms.length := by rw [← hj.length]; simp
    wp_walk using wpAny_loadPart' hl, wpAny_loadPart' hb, wpAny_forIn_list _ (fun rest b s' => b.1 = none ∧ s' = ⟨hp, g, d, tk, os⟩ ∧ ∃ (vs ws : List Value) (ns' ms' : List Int), rest = vs.zip ws ∧
      IntsAre vs ns' ∧ IntsAre ws ms' ∧ ns'.length + items2.size = ms'.length + items.size ∧ R (.ok (.ret (.bool (lexGt ns' ms')))) ⟨hp, g, d, tk, os⟩) _
    case turn =>
      rintro ⟨y, x⟩ rest b s' ⟨hb', rfl, vs, ws, ns', ms', hz, hvi, hwi, hlen, hR⟩
      cases hvi with
      | nil => rw [List.zip_nil_left] at hz; cases hz
      | cons a t hvi' =>
        cases hwi with
        | nil => rw [List.zip_nil_right] at hz; cases hz
        | cons c u hwi' =>
          rw [List.zip_cons_cons] at hz
          injection hz with hyx hrest
          injection hyx with hy hx
          subst hy hx
          rw [lexGt_cons] at hR
          simp only [List.length_cons] at hlen
          obtain ⟨e, he, hiff⟩ := eqAt_int A.in1 ⟨hp, g, d, tk, os⟩ a t c u
          refine wpAny_bind (he prog w _ _ ?_)
          cases e with
          | true =>
            rw [if_pos (hiff.mp rfl)] at hR
            wp_walk
            exact ⟨rfl, rfl, _, _, _, _, hrest, hvi', hwi', by omega, hR⟩
          | false =>
            rw [if_neg (fun q => absurd (hiff.mpr q) Bool.false_ne_true)] at hR
            have hri := rcGt_int A.in1 ⟨hp, g, d, tk, os⟩ a t c u prog w
            wp_walk using hri
            exact ⟨_, rfl, by simpa using hR⟩
    case fin =>
      rintro ⟨b1, b2⟩ s' ⟨hb', rfl, vs, ws, ns', ms', hz, hvi, hwi, hlen, hR⟩
      simp only at hb'
      subst hb'
      have hv : lexGt ns' ms' = decide (items.size > items2.size) := by
        cases hvi with
        | nil =>
          cases hwi with
          | nil =>
            simp only [List.length_nil] at hlen
            rw [lexGt_nil_nil]
            exact (decide_eq_false (by omega)).symm
          | cons c u hw =>
            simp only [List.length_nil, List.length_cons] at hlen
            rw [lexGt_nil_cons]
            exact (decide_eq_false (by omega)).symm
        | cons a t hv =>
          cases hwi with
          | nil =>
            simp only [List.length_nil, List.length_cons] at hlen
            rw [lexGt_cons_nil]
            exact (decide_eq_true (by omega)).symm
          | cons c u hw =>
            rw [List.zip_cons_cons] at hz
            cases hz
      rw [hv] at hR
      wp_walk
      exact ⟨_, rfl, by simpa [Builtin.Tuple.tupleCompareSizes] using hR⟩
    case h =>
      exact ⟨rfl, rfl, items.toList, items2.toList, ns, ms, rfl, hi, hj, by omega, h⟩
end
section
variable {prog : Program} {w : World} {A : Around} {E : Value → Shared → Prop} {s : Shared}
theorem gt_tupInts {l b : Addr} {items items2 : Array Value} {ns ms : List Int} {Q : Value → Shared → Prop} (hl : IsTup s.heap l items) (hb : IsTup s.heap b items2) (hi : IntsAre items.toList ns) (hj : IntsAre items2.toList ms)
    (hu : A.units < cLine) (h : Q (.bool (lexGt ns ms)) s) : wpAny (model prog w) A (compareOp .Gt (.ref l) (.ref b)) Q E s := by
  obtain ⟨⟨cls, dd, data, sl⟩, ho, hc, n, hd⟩ := id hl
  obtain ⟨⟨cls2, dd2, data2, sl2⟩, ho2, hc2, n2, hd2⟩ := id hb
  simp only at hc hd hc2 hd2
  subst hc hd hc2 hd2
  exact richCompare_meets_room (op := .Gt) ⟨_, ho, rfl⟩ ⟨_, ho2, rfl⟩ PySem.F.slot_tuple_gt PySem.F.entry_tuple_gt (PySem.F.args_tuple_gt_2 _ _) (tuple_gt_ints l b items items2 n n2 dd dd2 sl sl2 ns ms hi hj)
    ⟨ho, ho2, show Value.bool (lexGt ns ms) ≠ Value.notImplemented ∧ Q (.bool (lexGt ns ms)) s from ⟨(fun x => nomatch x), h⟩⟩ hu
end
end HT
namespace SD
open PySem PySem.Spec PyProof.Rows L2
section
variable {X : Cx}
theorem ints_of {K : PySem.W.Frag} {H : Hp} : ∀ {ns : List Int} {xs : List V}, Reps K H (ns.map D.int) xs → xs = ns.map V.int
  | [], xs, h => by rw [List.map_nil, Reps] at h; exact h
  | n :: ns, xs, h => by
    rw [List.map_cons, Reps] at h
    obtain ⟨x, r, rfl, h1, h2⟩ := h
    rw [Rep] at h1
    rw [h1, ints_of h2]; rfl
theorem op_leT (hu : X.A.units < cLine) : OpR X (compareOp .LtE) (fun x y H Q => ∃ a b ns ms, x = .ref a ∧ y = .ref b ∧ SqT X.K H a (ns.map V.int) ∧ SqT X.K H b (ms.map V.int) ∧ Q (.bl (HT.lexLe ns ms)) H) := by
  intro pins s σ H x y v u Q I rx ry h
  obtain ⟨a, b, ns, ms, rfl, rfl, ha, hb, q⟩ := h
  cases rx
  cases ry
  obtain ⟨its, r1, p1, _⟩ := I.tuple ha
  obtain ⟨its2, r2, p2, _⟩ := I.tuple hb
  exact HT.le_tupInts p1 p2 (intsAre_of r1) (intsAre_of r2) hu ⟨.bl (HT.lexLe ns ms), H, I, rfl, q⟩
theorem op_gtT (hu : X.A.units < cLine) : OpR X (compareOp .Gt) (fun x y H Q => ∃ a b ns ms, x = .ref a ∧ y = .ref b ∧ SqT X.K H a (ns.map V.int) ∧ SqT X.K H b (ms.map V.int) ∧ Q (.bl (HT.lexGt ns ms)) H) := by
  intro pins s σ H x y v u Q I rx ry h
  obtain ⟨a, b, ns, ms, rfl, rfl, ha, hb, q⟩ := h
  cases rx
  cases ry
  obtain ⟨its, r1, p1, _⟩ := I.tuple ha
  obtain ⟨its2, r2, p2, _⟩ := I.tuple hb
  exact HT.gt_tupInts p1 p2 (intsAre_of r1) (intsAre_of r2) hu ⟨.bl (HT.lexGt ns ms), H, I, rfl, q⟩
noncomputable def rCmpX (f : Int → Int → Bool) (g : List Int → List Int → Bool) : R2D := fun x y M Q => match x, y with
  | .int i, .int j => True ∧ Q (.bl (f i j)) M
  | .tup a, .tup b => ∃ ns ms, a = List.map D.int ns ∧ b = List.map D.int ms ∧ Q (.bl (g ns ms)) M
  | _, _ => False
theorem opd_X {op : CmpOp} {f : Int → Int → Bool} {g : List Int → List Int → Bool} (h1 : OpD X (compareOp op) (rI2 (fun _ _ => True) fun i j => .bl (f i j)))
    (h2 : OpR X (compareOp op) (fun x y H Q => ∃ a b ns ms, x = .ref a ∧ y = .ref b ∧ SqT X.K H a (ns.map V.int) ∧ SqT X.K H b (ms.map V.int) ∧ Q (.bl (g ns ms)) H)) : OpD X (compareOp op) (rCmpX f g) := by
  refine op_imp (h1.or h2) fun v u H Q zz61_0 => ?_
  obtain ⟨x, y, M, R, r1, r2, a, q, fin⟩ := zz61_0
  unfold rCmpX at q
  split at q
  · exact .inl ⟨_, _, M, R, r1, r2, a, q, fin⟩
  · obtain ⟨ns, ms, rfl, rfl, q⟩ := q
    rw [Rep] at r1
    obtain ⟨p, xs, rfl, hx, rx⟩ := r1
    obtain ⟨p', ys, rfl, hy, ry⟩ : ∃ a xs, u = V.ref a ∧ SqT X.K H a xs ∧ Reps X.K H (List.map D.int ms) xs := by rw [Rep] at r2; exact r2
    rw [ints_of rx] at hx
    rw [ints_of ry] at hy
    exact .inr ⟨p, p', ns, ms, rfl, rfl, hx, hy, fin _ _ _ _ .refl (by rw [Rep]) a q⟩
  · exact q.elim
theorem od_ltX (hu : X.A.units + 64 < cLine) : OpD X (compareOp .Lt) (rCmpX (fun i j => decide (i < j)) HT.lexLt) := opd_X od_lt (op_ltT (by omega))
theorem od_leX (hu : X.A.units + 64 < cLine) : OpD X (compareOp .LtE) (rCmpX (fun i j => decide (i ≤ j)) HT.lexLe) := opd_X od_le (op_leT (by omega))
theorem od_gtX (hu : X.A.units + 64 < cLine) : OpD X (compareOp .Gt) (rCmpX (fun i j => decide (j < i)) HT.lexGt) := opd_X od_gt (op_gtT (by omega))
theorem call_maxT (hc : X.calm = true) (hu : X.A.units + 64 < cLine) : CallR X (.builtin "max") (fun xs H Q => ∃ p q ns ms, xs = [.ref p, .ref q] ∧ SqT X.K H p (ns.map V.int) ∧ SqT X.K H q (ms.map V.int) ∧ Q (if HT.lexGt ms ns = true then .ref q else .ref p) H) := by
  intro pins s σ H xs us Q I r z0
  obtain ⟨p, q, ns, ms, e, hp, hq, k⟩ := z0
  subst e
  obtain ⟨u, v, rfl, ru, rv⟩ := vals2 r
  cases ru
  cases rv
  obtain ⟨its, r1, p1, _⟩ := I.tuple hp
  obtain ⟨its2, r2, p2, _⟩ := I.tuple hq
  refine max_two (c := HT.lexGt ms ns) (I.ok.hd hc) (fun t Q' E' kt q' => ?_) fun h' tk kt => ⟨_, H, I.kept kt, ?_, k⟩
  · obtain ⟨o1, a1, b1⟩ := p1
    obtain ⟨o2, a2, b2⟩ := p2
    exact HT.gt_tupInts (A := X.A.in1) (s := t) ⟨o2, kt _ _ a2, b2⟩ ⟨o1, kt _ _ a1, b1⟩ (intsAre_of r2) (intsAre_of r1) (by show X.A.units + 1 < cLine; omega) q'
  · cases HT.lexGt ms ns <;> rfl
theorem call_minT (hc : X.calm = true) (hu : X.A.units + 64 < cLine) : CallR X (.builtin "min") (fun xs H Q => ∃ p q ns ms, xs = [.ref p, .ref q] ∧ SqT X.K H p (ns.map V.int) ∧ SqT X.K H q (ms.map V.int) ∧ Q (if HT.lexLt ms ns = true then .ref q else .ref p) H) := by
  intro pins s σ H xs us Q I r z0
  obtain ⟨p, q, ns, ms, e, hp, hq, k⟩ := z0
  subst e
  obtain ⟨u, v, rfl, ru, rv⟩ := vals2 r
  cases ru
  cases rv
  obtain ⟨its, r1, p1, _⟩ := I.tuple hp
  obtain ⟨its2, r2, p2, _⟩ := I.tuple hq
  refine min_two (c := HT.lexLt ms ns) (I.ok.hd hc) (fun t Q' E' kt q' => ?_) fun h' tk kt => ⟨_, H, I.kept kt, ?_, k⟩
  · obtain ⟨o1, a1, b1⟩ := p1
    obtain ⟨o2, a2, b2⟩ := p2
    exact HT.lt_tupInts (A := X.A.in1) (s := t) ⟨o2, kt _ _ a2, b2⟩ ⟨o1, kt _ _ a1, b1⟩ (intsAre_of r2) (intsAre_of r1) (by show X.A.units + 1 < cLine; omega) q'
  · cases HT.lexLt ms ns <;> rfl
noncomputable def rMaxX : RC := fun ds M Q => match ds with
  | [.int i, .int j] => Q (.int (max i j)) M
  | [.tup a, .tup b] => ∃ ns ms, a = List.map D.int ns ∧ b = List.map D.int ms ∧ Q (.tup (List.map D.int (if HT.lexGt ms ns = true then ms else ns))) M
  | _ => False
noncomputable def rMinX : RC := fun ds M Q => match ds with
  | [.int i, .int j] => Q (.int (min i j)) M
  | [.tup a, .tup b] => ∃ ns ms, a = List.map D.int ns ∧ b = List.map D.int ms ∧ Q (.tup (List.map D.int (if HT.lexLt ms ns = true then ms else ns))) M
  | _ => False
theorem cd_maxX (hc : X.calm = true) (hu : X.A.units + 64 < cLine) : CallD X (.builtin "max") rMaxX := call_imp (CallR.or (cd_max hc) (call_maxT hc hu)) fun vs H Q z9 => by
  obtain ⟨ds, M, R, rs, a, q, fin⟩ := z9
  unfold rMaxX at q
  split at q
  · exact .inl ⟨_, M, R, rs, a, q, fin⟩
  · obtain ⟨ns, ms, rfl, rfl, q⟩ := q
    obtain ⟨v, u, rfl, r1, r2⟩ := reps2 rs
    rw [Rep] at r1
    obtain ⟨p, xs, rfl, hx, rx⟩ := r1
    obtain ⟨p', ys, rfl, hy, ry⟩ : ∃ a xs, u = V.ref a ∧ SqT X.K H a xs ∧ Reps X.K H (List.map D.int ms) xs := by rw [Rep] at r2; exact r2
    have hx' := hx
    have hy' := hy
    rw [ints_of rx] at hx'
    rw [ints_of ry] at hy'
    refine .inr ⟨p, p', ns, ms, rfl, hx', hy', fin _ _ _ _ .refl ?_ a q⟩
    by_cases z : HT.lexGt ms ns = true
    · rw [if_pos z, if_pos z, Rep]; exact ⟨_, _, rfl, hy, ry⟩
    · rw [if_neg z, if_neg z, Rep]; exact ⟨_, _, rfl, hx, rx⟩
  · exact q.elim
theorem cd_minX (hc : X.calm = true) (hu : X.A.units + 64 < cLine) : CallD X (.builtin "min") rMinX := call_imp (CallR.or (cd_min hc) (call_minT hc hu)) fun vs H Q z9 => by
  obtain ⟨ds, M, R, rs, a, q, fin⟩ := z9
  unfold rMinX at q
  split at q
  · exact .inl ⟨_, M, R, rs, a, q, fin⟩
  · obtain ⟨ns, ms, rfl, rfl, q⟩ := q
    obtain ⟨v, u, rfl, r1, r2⟩ := reps2 rs
    rw [Rep] at r1
    obtain ⟨p, xs, rfl, hx, rx⟩ := r1
    obtain ⟨p', ys, rfl, hy, ry⟩ : ∃ a xs, u = V.ref a ∧ SqT X.K H a xs ∧ Reps X.K H (List.map D.int ms) xs := by rw [Rep] at r2; exact r2
    have hx' := hx
    have hy' := hy
    rw [ints_of rx] at hx'
    rw [ints_of ry] at hy'
    refine .inr ⟨p, p', ns, ms, rfl, hx', hy', fin _ _ _ _ .refl ?_ a q⟩
    by_cases z : HT.lexLt ms ns = true
    · rw [if_pos z, if_pos z, Rep]; exact ⟨_, _, rfl, hy, ry⟩
    · rw [if_neg z, if_neg z, Rep]; exact ⟨_, _, rfl, hx, rx⟩
  · exact q.elim
end
end SD
set_option Elab.async false
set_option linter.all false
set_option maxRecDepth 100000
namespace Ma
open SD
theorem pos_mul {p z : Int} (h : 0 < p) : 0 < p * z ↔ 0 < z := by
  constructor
  · intro q
    by_cases hz : 0 < z
    · exact hz
    · have : p * z ≤ 0 := Int.mul_nonpos_of_nonneg_of_nonpos (by omega) (by omega)
      omega
  · exact fun q => Int.mul_pos h q
theorem divInt_lt {a b c d : Int} (hb : 0 < b) (hd : 0 < d) : Rat.divInt a b < Rat.divInt c d ↔ a * d < c * b := by
  have e := Rat.divInt_sub_divInt c a (d₁ := d) (d₂ := b) (by omega) (by omega)
  have h1 : Rat.divInt a b < Rat.divInt c d ↔ 0 < Rat.divInt c d - Rat.divInt a b := by constructor <;> intro z <;> grind
  rw [h1, e, divInt_pos (Int.mul_pos hd hb)]
  omega
noncomputable def ut (t b X m x : Int) : Rat := Rat.divInt (x * t + X * m) (b * m)
theorem ut_lt {t b X m n x y : Int} (ht : 0 < t) (hb : 0 < b) (hm : 0 < m) (hn : 0 < n) : ut t b X m x < ut t b X n y ↔ n * x < m * y := by
  unfold ut
  rw [divInt_lt (Int.mul_pos hb hm) (Int.mul_pos hb hn)]
  have e : (y * t + X * n) * (b * m) - (x * t + X * m) * (b * n) = (b * t) * (m * y - n * x) := by grind
  have := pos_mul (z := m * y - n * x) (Int.mul_pos hb ht)
  omega
theorem ut_eq {t b X m n x y : Int} (ht : 0 < t) (hb : 0 < b) (hm : 0 < m) (hn : 0 < n) : ut t b X m x = ut t b X n y ↔ n * x = m * y := by
  have h1 := ut_lt (X := X) (x := x) (y := y) ht hb hm hn
  have h2 := ut_lt (X := X) (x := y) (y := x) ht hb hn hm
  constructor
  · intro e
    have a : ¬ ut t b X m x < ut t b X n y := by rw [e]; exact Rat.lt_irrefl
    have c : ¬ ut t b X n y < ut t b X m x := by rw [e]; exact Rat.lt_irrefl
    rw [h1] at a
    rw [h2] at c
    omega
  · intro e
    have a : ¬ ut t b X m x < ut t b X n y := by rw [h1]; omega
    have c : ¬ ut t b X n y < ut t b X m x := by rw [h2]; omega
    grind
theorem ut_one {t b X x : Int} : Rat.divInt (x * t + X) b = ut t b X 1 x := by
  unfold ut
  rw [Int.mul_one, Int.mul_one]
theorem ut_ah {t b X Y m n x y u v : Int} (ht : 0 < t) (hb : 0 < b) (hm : 0 < m) (hn : 0 < n) :
    ah (ut t b X m x) (ut t b Y m y) (ut t b X n u) (ut t b Y n v) ↔ HT.lexLt [n * x, n * y] [m * u, m * v] = true := by
  unfold ah
  rw [ut_lt ht hb hm hn, ut_eq ht hb hm hn, ut_lt ht hb hm hn]
  simp only [HT.lexLt]
  by_cases h : n * x = m * u
  · rw [if_pos h]
    by_cases h2 : n * y = m * v
    · rw [if_pos h2]; simp; omega
    · rw [if_neg h2]; simp; omega
  · rw [if_neg h]; simp; omega
theorem lexLe_two (a b c d : Int) : HT.lexLe [a, b] [c, d] = !HT.lexLt [c, d] [a, b] := by
  simp only [HT.lexLe, HT.lexLt]
  by_cases h : a = c
  · subst h
    rw [if_pos rfl, if_pos rfl]
    by_cases h2 : b = d
    · subst h2; rw [if_pos rfl, if_pos rfl]; rfl
    · rw [if_neg h2, if_neg (fun e => h2 e.symm)]
      rw [← decide_not, decide_eq_decide]; omega
  · rw [if_neg h, if_neg (fun e => h e.symm), ← decide_not, decide_eq_decide]; omega
theorem lexGt_two (a b c d : Int) : HT.lexGt [a, b] [c, d] = HT.lexLt [c, d] [a, b] := by
  simp only [HT.lexGt, HT.lexLt]
  by_cases h : a = c
  · subst h
    rw [if_pos rfl, if_pos rfl]
    by_cases h2 : b = d
    · subst h2; simp
    · rw [if_neg h2, if_neg (fun e => h2 e.symm)]
  · rw [if_neg h, if_neg (fun e => h e.symm)]
theorem lexLt_two {a b c d : Int} : HT.lexLt [a, b] [c, d] = true ↔ a < c ∨ (a = c ∧ b < d) := by
  simp only [HT.lexLt]
  by_cases h : a = c
  · subst h
    rw [if_pos rfl]
    by_cases h2 : b = d
    · subst h2; rw [if_pos rfl]; simp
    · rw [if_neg h2]; simp
  · rw [if_neg h]; simp; omega
end Ma
set_option Elab.async false
set_option linter.all false
set_option maxRecDepth 100000
namespace SD
open PySem PySem.Spec PyProof.Rows L2
theorem ne_fresh {M : MH} {a p : PySem.Addr} {o : MO} (h : M a = some o) (hp : M p = none) : a ≠ p := fun e => by subst e; rw [h] at hp; cases hp
noncomputable def scl (t b x y : Int) : D := .tup [.int t, .int b, .int x, .int y]
structure Scl (t b x y : Int) : Prop where
  t0 : 0 < t
  t1 : t ≤ 10 ^ 9
  b0 : 0 < b
  b1 : b ≤ 10 ^ 9
  x0 : -(10 ^ 17) ≤ x
  x1 : x ≤ 10 ^ 17
  y0 : -(10 ^ 17) ≤ y
  y1 : y ≤ 10 ^ 17
noncomputable def uw (w : Int × Int × Int × Int) : D := .tup [.tup [.int w.1, .int w.2.1], .tup [.int w.2.2.1, .int w.2.2.2]]
noncomputable def rwl (t b x y : Int) (w : Int × Int × Int × Int) : D := Ma.wll (Ma.ut t b x 1 w.1) (Ma.ut t b y 1 w.2.1) (Ma.ut t b x 1 w.2.2.1) (Ma.ut t b y 1 w.2.2.2)
noncomputable def Uok (n : Int) (w : Int × Int × Int × Int) : Prop := (-n ≤ w.1 ∧ w.1 ≤ n) ∧ (-n ≤ w.2.1 ∧ w.2.1 ≤ n) ∧ (-n ≤ w.2.2.1 ∧ w.2.2.1 ≤ n) ∧ (-n ≤ w.2.2.2 ∧ w.2.2.2 ≤ n)
noncomputable def uby (m : Int) (w : Int × Int × Int × Int) : Int × Int × Int × Int := (m * w.1, m * w.2.1, m * w.2.2.1, m * w.2.2.2)
theorem range_getD (l : List D) : (List.range l.length).map (fun i => (l[i]?).getD .non) = l := by
  refine List.ext_getElem (by simp) fun i h1 h2 => ?_
  simp [h2]
theorem getD_map {α : Type} {f : α → D} {l : List α} {i : Nat} {a : α} (h : l[i]? = some a) : ((l.map f)[i]?).getD .non = f a := by
  rw [List.getElem?_map, h]; rfl
theorem ut_bq {t b x m p : Int} (ht : 0 < t ∧ t ≤ 10 ^ 9) (hb : 0 < b ∧ b ≤ 10 ^ 9) (hx : -(10 ^ 17) ≤ x ∧ x ≤ 10 ^ 17) (hm : 0 < m ∧ m ≤ 10 ^ 6) (hp : -(10 ^ 6) ≤ p ∧ p ≤ 10 ^ 6) : Ma.Bq 200 (Ma.ut t b x m p) := by
  have bt : Bd 64 t := by show t.natAbs < 2 ^ 64; omega
  have bm : Bd 64 m := by show m.natAbs < 2 ^ 64; omega
  have bp : Bd 64 p := by show p.natAbs < 2 ^ 64; omega
  have bb : Bd 64 b := by show b.natAbs < 2 ^ 64; omega
  have bx : Bd 64 x := by show x.natAbs < 2 ^ 64; omega
  refine Ma.Bq.divInt (by have := Int.mul_pos hb.1 hm.1; omega) ?_ ((bb.mul bm).mono (by decide))
  exact ((bp.mul bt).add (bx.mul bm)).mono (by decide)
theorem Scl.bx {t b x y m p : Int} (S : Scl t b x y) (hm : 0 < m ∧ m ≤ 10 ^ 6) (hp : -(10 ^ 6) ≤ p ∧ p ≤ 10 ^ 6) : Ma.Bq 200 (Ma.ut t b x m p) := ut_bq ⟨S.t0, S.t1⟩ ⟨S.b0, S.b1⟩ ⟨S.x0, S.x1⟩ hm hp
theorem Scl.by' {t b x y m p : Int} (S : Scl t b x y) (hm : 0 < m ∧ m ≤ 10 ^ 6) (hp : -(10 ^ 6) ≤ p ∧ p ≤ 10 ^ 6) : Ma.Bq 200 (Ma.ut t b y m p) := ut_bq ⟨S.t0, S.t1⟩ ⟨S.b0, S.b1⟩ ⟨S.y0, S.y1⟩ hm hp
theorem eqv_two (a b c d : Int) : PyData.eqv (.tuple [.int a, .int b]) (.tuple [.int c, .int d]) = decide (a = c ∧ b = d) := by
  simp only [PyData.eqv, PyData.eqvAll, beq_dec, Bool.and_true, Bool.decide_and]
end SD
set_option Elab.async false
set_option linter.all false
set_option maxRecDepth 100000
namespace SD
open PySem PySem.Spec PyProof.Rows L2
section
variable {X : Cx}
noncomputable def rMaxY : RC := fun ds M Q => match ds with
  | [.ref l] => ∃ i j, M l = some (.lst [.int i, .int j]) ∧ Q (.int (max i j)) M
  | ds => rMaxX ds M Q
noncomputable def rMinY : RC := fun ds M Q => match ds with
  | [.ref l] => ∃ i j, M l = some (.lst [.int i, .int j]) ∧ Q (.int (min i j)) M
  | ds => rMinX ds M Q
end
end SD
set_option Elab.async false
set_option linter.all false
set_option maxRecDepth 100000
namespace SD
open PySem PySem.Spec PyProof.Rows L2 Ma
noncomputable instance (a b c d : Rat) : Decidable (Ma.ah a b c d) := inferInstanceAs (Decidable (_ ∨ _))
noncomputable def inlD (a b c d e f g h : Rat) : D :=
  let s := if Ma.ah e f a b then (a, b) else (e, f)
  let n := if Ma.ah c d g h then (c, d) else (g, h)
  if Ma.ah s.1 s.2 n.1 n.2 then .tup [.str "stretch", Ma.wll s.1 s.2 n.1 n.2] else if Ma.ah n.1 n.2 s.1 s.2 then .non else .tup [.str "spot", Ma.spt s.1 s.2]
noncomputable def btw (x y s : Rat) : Rat := x + s * (y - x)
noncomputable def meetD (a b c d e f g h : Rat) : D :=
  if Ma.sgn (Ma.cr a b c d e f) = 0 ∧ Ma.sgn (Ma.cr a b c d g h) = 0 then inlD a b c d e f g h
  else if 0 < Ma.sgn (Ma.cr a b c d e f) * Ma.sgn (Ma.cr a b c d g h) ∨ 0 < Ma.sgn (Ma.cr e f g h a b) * Ma.sgn (Ma.cr e f g h c d) then .non
  else .tup [.str "spot", Ma.spt (btw e g (Ma.cr a b c d e f / (Ma.cr a b c d e f - Ma.cr a b c d g h))) (btw f h (Ma.cr a b c d e f / (Ma.cr a b c d e f - Ma.cr a b c d g h)))]
noncomputable def crs (a b c d : Int) : Int := a * d - b * c
noncomputable def maxP (p q e f : Int) : Int × Int := if HT.lexGt [e, f] [p, q] = true then (e, f) else (p, q)
noncomputable def minP (r s g h : Int) : Int × Int := if HT.lexLt [g, h] [r, s] = true then (g, h) else (r, s)
noncomputable def toldD (p q r s e f g h : Int) : D :=
  let w := crs (r - p) (s - q) (g - e) (h - f)
  if w = 0 then
    if crs (r - p) (s - q) (e - p) (f - q) ≠ 0 ∨ HT.lexGt [(maxP p q e f).1, (maxP p q e f).2] [(minP r s g h).1, (minP r s g h).2] = true then .non
    else if (maxP p q e f).1 = (minP r s g h).1 ∧ (maxP p q e f).2 = (minP r s g h).2 then .tup [.int (maxP p q e f).1, .int (maxP p q e f).2, .int 1]
    else .tup [.tup [.int (maxP p q e f).1, .int (maxP p q e f).2], .tup [.int (minP r s g h).1, .int (minP r s g h).2]]
  else
    let k := if w < 0 then -crs (e - p) (f - q) (g - e) (h - f) else crs (e - p) (f - q) (g - e) (h - f)
    let m := if w < 0 then -crs (e - p) (f - q) (r - p) (s - q) else crs (e - p) (f - q) (r - p) (s - q)
    if min k m < 0 ∨ (w.natAbs : Int) < max k m then .non else .tup [.int (p * (w.natAbs : Int) + k * (r - p)), .int (q * (w.natAbs : Int) + k * (s - q)), .int (w.natAbs : Int)]
noncomputable def dueD (t b X Y : Int) : D → D
  | .tup [.int x, .int y, .int m] => .tup [.str "spot", Ma.spt (Ma.ut t b X m x) (Ma.ut t b Y m y)]
  | .tup [.tup [.int x, .int y], .tup [.int u, .int v]] => .tup [.str "stretch", Ma.wll (Ma.ut t b X 1 x) (Ma.ut t b Y 1 y) (Ma.ut t b X 1 u) (Ma.ut t b Y 1 v)]
  | _ => .non
theorem ut_lin {t b X m x : Int} (hb : 0 < b) (hm : 0 < m) : Ma.ut t b X m x = ((t : Rat) / b) * ((x : Rat) / m) + (X : Rat) / b := by
  unfold Ma.ut
  rw [Rat.divInt_eq_div]
  have h1 : (b : Rat) ≠ 0 := by have := Ma.pos_int hb; grind
  have h2 : (m : Rat) ≠ 0 := by have := Ma.pos_int hm; grind
  rw [Rat.intCast_add, Rat.intCast_mul, Rat.intCast_mul, Rat.intCast_mul]
  grind
theorem ut_lin1 {t b X x : Int} (hb : 0 < b) : Ma.ut t b X 1 x = ((t : Rat) / b) * (x : Rat) + (X : Rat) / b := by
  rw [ut_lin hb (by decide)]
  have : ((1 : Int) : Rat) = 1 := rfl
  rw [this]
  grind
theorem cr_lin (k x y p q r s e f : Rat) : Ma.cr (k * p + x) (k * q + y) (k * r + x) (k * s + y) (k * e + x) (k * f + y) = k * k * ((r - p) * (f - q) - (s - q) * (e - p)) := by
  unfold Ma.cr
  grind
theorem cr_ut {t b X Y p q r s e f : Int} (hb : 0 < b) : Ma.cr (Ma.ut t b X 1 p) (Ma.ut t b Y 1 q) (Ma.ut t b X 1 r) (Ma.ut t b Y 1 s) (Ma.ut t b X 1 e) (Ma.ut t b Y 1 f) = ((t : Rat) / b) * ((t : Rat) / b) * ((crs (r - p) (s - q) (e - p) (f - q) : Int) : Rat) := by
  rw [ut_lin1 hb, ut_lin1 hb, ut_lin1 hb, ut_lin1 hb, ut_lin1 hb, ut_lin1 hb, cr_lin]
  unfold crs
  rw [Rat.intCast_sub, Rat.intCast_mul, Rat.intCast_mul, Rat.intCast_sub, Rat.intCast_sub, Rat.intCast_sub, Rat.intCast_sub]
theorem sgn_mul {k : Rat} (hk : 0 < k) (z : Int) : Ma.sgn (k * (z : Rat)) = Int.sign z := by
  unfold Ma.sgn
  by_cases h1 : 0 < z
  · rw [if_pos (Rat.mul_pos hk (Ma.pos_int h1)), Int.sign_eq_one_of_pos h1]
  · by_cases h2 : z < 0
    · have h3 : 0 < k * ((-z : Int) : Rat) := Rat.mul_pos hk (Ma.pos_int (by omega))
      rw [Rat.intCast_neg] at h3
      rw [if_neg (by grind), if_pos (by grind), Int.sign_eq_neg_one_of_neg h2]
    · obtain rfl : z = 0 := by omega
      have : ((0 : Int) : Rat) = 0 := rfl
      rw [this]
      simp
theorem mul_zero_iff {k : Rat} (hk : 0 < k) (z : Int) : k * (z : Rat) = 0 ↔ z = 0 := by
  have h := sgn_mul hk z
  rw [← Ma.sgn_zero, h]
  exact Int.sign_eq_zero_iff_zero
theorem sign_pos {x y : Int} : 0 < Int.sign x * Int.sign y ↔ (0 < x ∧ 0 < y) ∨ (x < 0 ∧ y < 0) := by
  rcases Int.lt_trichotomy x 0 with h | h | h <;> rcases Int.lt_trichotomy y 0 with h' | h' | h'
  · rw [Int.sign_eq_neg_one_of_neg h, Int.sign_eq_neg_one_of_neg h']; omega
  · subst h'; simp
  · rw [Int.sign_eq_neg_one_of_neg h, Int.sign_eq_one_of_pos h']; omega
  · subst h; simp
  · subst h; simp
  · subst h; simp
  · rw [Int.sign_eq_one_of_pos h, Int.sign_eq_neg_one_of_neg h']; omega
  · subst h'; simp
  · rw [Int.sign_eq_one_of_pos h, Int.sign_eq_one_of_pos h']; omega
theorem ah_ut {t b X Y p q e f : Int} (ht : 0 < t) (hb : 0 < b) : Ma.ah (Ma.ut t b X 1 p) (Ma.ut t b Y 1 q) (Ma.ut t b X 1 e) (Ma.ut t b Y 1 f) ↔ (p < e ∨ (p = e ∧ q < f)) := by
  rw [Ma.ut_ah ht hb (by decide) (by decide), Ma.lexLt_two]
  omega
theorem eqv_str (x : Str) : PyData.eqv (.str x) (.str x) = true := by simp [PyData.eqv]
theorem ok_spot : PyData.strOk (Str.ofString "spot") = true := by decide +kernel
theorem Scl.b60 {t b x y p : Int} (S : Scl t b x y) (hp : Bd 6 p) : Ma.Bq 60 (Ma.ut t b x 1 p) ∧ Ma.Bq 60 (Ma.ut t b y 1 p) := by
  have bt : Bd 30 t := by have := S.t0; have := S.t1; show t.natAbs < 2 ^ 30; omega
  have bb : Bd 30 b := by have := S.b0; have := S.b1; show b.natAbs < 2 ^ 30; omega
  have bx : Bd 58 x := by have := S.x0; have := S.x1; show x.natAbs < 2 ^ 58; omega
  have by' : Bd 58 y := by have := S.y0; have := S.y1; show y.natAbs < 2 ^ 58; omega
  have hb0 : b ≠ 0 := by have := S.b0; omega
  rw [← Ma.ut_one, ← Ma.ut_one]
  exact ⟨.divInt hb0 ((((hp.mul bt).mono (by decide)).add bx).mono (by decide)) (bb.mono (by decide)), .divInt hb0 ((((hp.mul bt).mono (by decide)).add by').mono (by decide)) (bb.mono (by decide))⟩
theorem sgn_cases (z : Rat) : Ma.sgn z = 1 ∨ Ma.sgn z = -1 ∨ Ma.sgn z = 0 := by
  unfold Ma.sgn
  split
  · exact .inl rfl
  · split
    · exact .inr (.inl rfl)
    · exact .inr (.inr rfl)
theorem sgn_bd (z : Rat) : Bd 64 (Ma.sgn z) := by
  rcases sgn_cases z with h | h | h <;> rw [h] <;> decide
end SD
set_option Elab.async false
set_option linter.all false
set_option maxRecDepth 100000
namespace HT
open PySem PyProof.Rows
noncomputable def lexGe : List Int → List Int → Bool
  | [], [] => true
  | [], _ :: _ => false
  | _ :: _, [] => true
  | x :: xs, y :: ys => if x = y then lexGe xs ys else decide (y ≤ x)
theorem lexGe_cons (x y : Int) (xs ys : List Int) : lexGe (x :: xs) (y :: ys) = if x = y then lexGe xs ys else decide (y ≤ x) := rfl
theorem lexGe_nil_nil : lexGe [] [] = true := rfl
theorem lexGe_nil_cons (y : Int) (ys : List Int) : lexGe [] (y :: ys) = false := rfl
theorem lexGe_cons_nil (x : Int) (xs : List Int) : lexGe (x :: xs) [] = true := rfl
theorem rcGe_int (A : Around) (s : Shared) (a : Int) (t : Tok) (c : Int) (u : Tok) (prog : Program) (w : World) (E : Value → Shared → Prop) (Q : Value → Shared → Prop) (h : Q (.bool (decide (c ≤ a))) s) :
    wpAny (model prog w) A (richCompare .GtE (.int a t) (.int c u)) Q E s :=
  (PyProof.Rows.ge_int h : wpAny (model prog w) A (compareOp .GtE (.int a t) (.int c u)) Q E s)
section
open PySem.SeqAt
open PySem.AutoSeq1 (wpAny_loadPart')
open PySem.MeetsSeq PySem.MeetsSeq2 PySem.MeetsSeq3
theorem tuple_ge_ints (l b : Addr) (items items2 : Array Value) (n n2 : Nat) (dd dd2 : Option Addr) (sl sl2 : Array (Option Value)) (ns ms : List Int) (hi : IntsAre items.toList ns) (hj : IntsAre items2.toList ms) :
    Meets (Builtin.«tuple.__ge__» ⟨[.ref l, .ref b], []⟩)
      (fun _ R s => s.heap.get? l = some { cls := .type "tuple", dict := dd, data := .seq items n, slots := sl } ∧ s.heap.get? b = some { cls := .type "tuple", dict := dd2, data := .seq items2 n2, slots := sl2 } ∧
        R (.ok (.ret (.bool (lexGe ns ms)))) s) :=
  .of_wp fun prog w A R s h => by
    obtain ⟨hp, g, d, tk, os⟩ := s; obtain ⟨hl, hb, h⟩ := h
    have f2 := AutoSeq1.sub_tuple_tuple
    have z1 : items.size = ns.length := by rw [← hi.length]; simp
    have z2 : items2.size = ms.length := by rw [← hj.length]; simp
    wp_walk using wpAny_loadPart' hl, wpAny_loadPart' hb, wpAny_forIn_list _ (fun rest b s' => b.1 = none ∧ s' = ⟨hp, g, d, tk, os⟩ ∧ ∃ (vs ws : List Value) (ns' ms' : List Int), rest = vs.zip ws ∧
      IntsAre vs ns' ∧ IntsAre ws ms' ∧ ns'.length + items2.size = ms'.length + items.size ∧ R (.ok (.ret (.bool (lexGe ns' ms')))) ⟨hp, g, d, tk, os⟩) _
    case turn =>
      rintro ⟨y, x⟩ rest b s' ⟨hb', rfl, vs, ws, ns', ms', hz, hvi, hwi, hlen, hR⟩
      cases hvi with
      | nil => rw [List.zip_nil_left] at hz; cases hz
      | cons a t hvi' =>
        cases hwi with
        | nil => rw [List.zip_nil_right] at hz; cases hz
        | cons c u hwi' =>
          rw [List.zip_cons_cons] at hz
          injection hz with hyx hrest
          injection hyx with hy hx
          subst hy hx
          rw [lexGe_cons] at hR
          simp only [List.length_cons] at hlen
          obtain ⟨e, he, hiff⟩ := eqAt_int A.in1 ⟨hp, g, d, tk, os⟩ a t c u
          refine wpAny_bind (he prog w _ _ ?_)
          cases e with
          | true =>
            rw [if_pos (hiff.mp rfl)] at hR
            wp_walk
            exact ⟨rfl, rfl, _, _, _, _, hrest, hvi', hwi', by omega, hR⟩
          | false =>
            rw [if_neg (fun q => absurd (hiff.mpr q) Bool.false_ne_true)] at hR
            have hri := rcGe_int A.in1 ⟨hp, g, d, tk, os⟩ a t c u prog w
            wp_walk using hri
            exact ⟨_, rfl, by simpa using hR⟩
    case fin =>
      rintro ⟨b1, b2⟩ s' ⟨hb', rfl, vs, ws, ns', ms', hz, hvi, hwi, hlen, hR⟩
      simp only at hb'
      subst hb'
      have hv : lexGe ns' ms' = decide (items.size ≥ items2.size) := by
        cases hvi with
        | nil =>
          cases hwi with
          | nil =>
            simp only [List.length_nil] at hlen
            rw [lexGe_nil_nil]
            exact (decide_eq_true (by omega)).symm
          | cons c u hw =>
            simp only [List.length_nil, List.length_cons] at hlen
            rw [lexGe_nil_cons]
            exact (decide_eq_false (by omega)).symm
        | cons a t hv =>
          cases hwi with
          | nil =>
            simp only [List.length_nil, List.length_cons] at hlen
            rw [lexGe_cons_nil]
            exact (decide_eq_true (by omega)).symm
          | cons c u hw =>
            rw [List.zip_cons_cons] at hz
            cases hz
      rw [hv] at hR
      wp_walk
      exact ⟨_, rfl, by simpa [Builtin.Tuple.tupleCompareSizes] using hR⟩
    case h =>
      exact ⟨rfl, rfl, items.toList, items2.toList, ns, ms, rfl, hi, hj, by omega, h⟩
end
section
variable {prog : Program} {w : World} {A : Around} {E : Value → Shared → Prop} {s : Shared}
theorem ge_tupInts {l b : Addr} {items items2 : Array Value} {ns ms : List Int} {Q : Value → Shared → Prop} (hl : IsTup s.heap l items) (hb : IsTup s.heap b items2) (hi : IntsAre items.toList ns) (hj : IntsAre items2.toList ms)
    (hu : A.units < cLine) (h : Q (.bool (lexGe ns ms)) s) : wpAny (model prog w) A (compareOp .GtE (.ref l) (.ref b)) Q E s := by
  obtain ⟨⟨cls, dd, data, sl⟩, ho, hc, n, hd⟩ := id hl
  obtain ⟨⟨cls2, dd2, data2, sl2⟩, ho2, hc2, n2, hd2⟩ := id hb
  simp only at hc hd hc2 hd2
  subst hc hd hc2 hd2
  exact richCompare_meets_room (op := .GtE) ⟨_, ho, rfl⟩ ⟨_, ho2, rfl⟩ PySem.F.slot_tuple_ge PySem.F.entry_tuple_ge (PySem.F.args_tuple_ge_2 _ _) (tuple_ge_ints l b items items2 n n2 dd dd2 sl sl2 ns ms hi hj)
    ⟨ho, ho2, show Value.bool (lexGe ns ms) ≠ Value.notImplemented ∧ Q (.bool (lexGe ns ms)) s from ⟨(fun x => nomatch x), h⟩⟩ hu
end
end HT
namespace SD
open PySem PySem.Spec PyProof.Rows L2
section
variable {X : Cx}
theorem op_geT (hu : X.A.units < cLine) : OpR X (compareOp .GtE) (fun x y H Q => ∃ a b ns ms, x = .ref a ∧ y = .ref b ∧ SqT X.K H a (ns.map V.int) ∧ SqT X.K H b (ms.map V.int) ∧ Q (.bl (HT.lexGe ns ms)) H) := by
  intro pins s σ H x y v u Q I rx ry h
  obtain ⟨a, b, ns, ms, rfl, rfl, ha, hb, q⟩ := h
  cases rx
  cases ry
  obtain ⟨its, r1, p1, _⟩ := I.tuple ha
  obtain ⟨its2, r2, p2, _⟩ := I.tuple hb
  exact HT.ge_tupInts p1 p2 (intsAre_of r1) (intsAre_of r2) hu ⟨.bl (HT.lexGe ns ms), H, I, rfl, q⟩
theorem od_geX (hu : X.A.units + 64 < cLine) : OpD X (compareOp .GtE) (rCmpX (fun i j => decide (j ≤ i)) HT.lexGe) := opd_X od_ge (op_geT (by omega))
noncomputable def rInG (g : Bool → Bool) : R2D := fun x y M Q => ∃ p ps, Pd M x p ∧ (Pd M y (.list ps) ∨ Pd M y (.tuple ps)) ∧ SeqAt.shaped p = true ∧ PyData.canLayAll0 ps = true ∧ Q (.bl (g (ps.any fun q => PyData.eqv q p))) M
theorem shaped_min {p : PyData} {n : Nat} (h : SeqAt.shaped p = true) : min n p.depth ≤ 63 + 1 := Nat.le_trans (Nat.min_le_right _ _) (SeqAt.depth_of_shaped h)
theorem od_in (hu : X.A.units + 66 < cLine) : OpD X (compareOp .In) (rInG fun b => b) := by
  intro pins s σ H v u v' u' Q I rv ru h
  obtain ⟨x, y, M, R, r1, r2, a, ⟨p, ps, p1, p2, s1, s2, hq⟩, fin⟩ := h
  obtain ⟨as, q1⟩ := pd_reads I a p1 r1 rv
  have hm := shaped_min (n := PyData.depthAll ps) s1
  rcases p2 with p2 | p2
  · obtain ⟨bs, q2⟩ := pd_reads I a p2 r2 ru
    exact SeqAt.in_list_reads q2 q1 s2 (SeqAt.canLay_of_shaped s1) (by omega) ⟨.bl _, H, I, rfl, fin _ _ _ _ .refl (by rw [Rep]) a hq⟩
  · obtain ⟨bs, q2⟩ := pd_reads I a p2 r2 ru
    exact SeqAt.in_tuple_reads q2 q1 s2 (SeqAt.canLay_of_shaped s1) (by omega) ⟨.bl _, H, I, rfl, fin _ _ _ _ .refl (by rw [Rep]) a hq⟩
theorem od_notin (hu : X.A.units + 66 < cLine) : OpD X (compareOp .NotIn) (rInG fun b => !b) := by
  intro pins s σ H v u v' u' Q I rv ru h
  obtain ⟨x, y, M, R, r1, r2, a, ⟨p, ps, p1, p2, s1, s2, hq⟩, fin⟩ := h
  obtain ⟨as, q1⟩ := pd_reads I a p1 r1 rv
  have hm := shaped_min (n := PyData.depthAll ps) s1
  rcases p2 with p2 | p2
  · obtain ⟨bs, q2⟩ := pd_reads I a p2 r2 ru
    exact SeqAt.notIn_list_reads q2 q1 s2 (SeqAt.canLay_of_shaped s1) (by omega) ⟨.bl _, H, I, rfl, fin _ _ _ _ .refl (by rw [Rep]) a hq⟩
  · obtain ⟨bs, q2⟩ := pd_reads I a p2 r2 ru
    exact SeqAt.notIn_tuple_reads q2 q1 s2 (SeqAt.canLay_of_shaped s1) (by omega) ⟨.bl _, H, I, rfl, fin _ _ _ _ .refl (by rw [Rep]) a hq⟩
theorem bools_of {K : PySem.W.Frag} {H : Hp} : ∀ {bs : List Bool} {xs : List V}, Reps K H (bs.map D.bl) xs → xs = bs.map V.bl
  | [], xs, h => by rw [List.map_nil, Reps] at h; exact h
  | n :: ns, xs, h => by
    rw [List.map_cons, Reps] at h
    obtain ⟨x, r, rfl, h1, h2⟩ := h
    rw [Rep] at h1
    rw [h1, bools_of h2]; rfl
theorem vals_bools : ∀ {bs : List Bool} {us : List Value}, Vals (bs.map V.bl) us → us = bs.map Value.bool
  | [], _, .nil => rfl
  | b :: bs, _, .cons r t => by
    cases (show _ = Value.bool b from r)
    rw [vals_bools t]; rfl
noncomputable def rAll : RC := fun ds M Q => match ds with
  | [.ref l] => ∃ bs : List Bool, M l = some (.lst (List.map D.bl bs)) ∧ Q (.bl (bs.all id)) M
  | _ => False
theorem call_allL (hc : X.calm = true) : CallR X (.builtin "all") (fun xs H Q => ∃ (p : Addr) (bs : List Bool), xs = [.ref p] ∧ SqL X.K H p (bs.map V.bl) ∧ Q (.bl (bs.all id)) H) := by
  intro pins s σ H xs us Q I r z0
  obtain ⟨l, bs, e, hp, k⟩ := z0
  subst e
  obtain ⟨u, rfl, ru⟩ := vals1 r
  cases ru
  obtain ⟨its, r1, p1, _⟩ := I.list hp
  have hv := vals_bools r1
  have hl := p1.isList
  have lt : l ≠ s.heap.objs.size := Nat.ne_of_lt (let ⟨_, e, _⟩ := hl; Heap.lt_size e)
  refine call_all_walk (x := .ref l) (wpAny_pyIter_list hl ⟨s.heap.objs.size, [s.heap.objs.size, l], [s.heap.objs.size], its.toArray.size, _, _, fun i => (bs[i]?).getD true, rfl, Walks.list (A := X.A.in1) (I.ok.hd hc) _ l lt its.toArray, ⟨⟨_, Heap.get?_push_size _ rfl, rfl, rfl⟩, hl.push _⟩, fun i v s' Q' E' hP hQ => ?_, fun h' tk hk => ?_⟩)
  · have hP' : its[i]? = some v := by simpa using hP
    rw [hv, List.getElem?_map] at hP'
    cases eb : bs[i]? with
    | none => rw [eb] at hP'; cases hP'
    | some b =>
      rw [eb] at hP'
      cases hP'
      have hQ' : Q' b s' := by simpa [eb] using hQ
      exact wpAny_truthy_bool hQ'
  · rw [show ((List.range its.toArray.size).all fun i => (bs[i]?).getD true) = bs.all id by rw [List.size_toArray, hv, List.length_map]; exact LSm.range_all bs]
    exact ⟨.bl (bs.all id), H, I.kept (LSm.kept_iter hk), rfl, k⟩
theorem cd_all (hc : X.calm = true) : CallD X (.builtin "all") rAll := call_imp (call_allL hc) fun vs H Q z9 => by
  obtain ⟨ds, M, R, rs, a, q, fin⟩ := z9
  unfold rAll at q
  split at q
  · obtain ⟨bs, e, q⟩ := q
    obtain ⟨v, rfl, r⟩ := reps1 rs
    rw [Rep] at r; subst r
    obtain ⟨xs, hx, rx⟩ := a _ _ e
    rw [bools_of rx] at hx
    exact ⟨_, bs, rfl, SqL.of hx, fin _ _ _ _ .refl (by rw [Rep]) a q⟩
  · exact q.elim
noncomputable def tAppD (to : TD) (t : TAD) : TD := fun δ M Q => to δ M fun x M1 => ∃ l ys, x = .ref l ∧ M1 l = some (.lst ys) ∧ t δ M1 fun ds M2 => ∃ xs d, ds = [d] ∧ M2 l = some (.lst xs) ∧ xs.length < 1000000 ∧ Q .non (updM M2 l (.lst (xs ++ [d])))
variable {o e : Expr} {to : TD} {t : TAD} {apos cpos : Pos}
theorem de_m_append (ho : DE X o to) (ha : DA X [e] t)
    (hbase : attributeBase o "append" X.env (eval o X.env) = eval o X.env := by rfl)
    (hfew : ((backTo cpos (starEach [e] X.env)).all (fun x => !x.1) && (backToKw cpos (keywordEach [] X.env)).all (fun x => x.1.isSome)
      && decide ([e].length + ([] : List Keyword).length + (if ([] : List Keyword).isEmpty then 0 else 1) < 30)) = true := by rfl)
    (hline : (apos.endLine == cpos.line) = true := by rfl) (hs : starEach [e] X.env = (false, eval e X.env) :: starEach [] X.env := by rfl) (hplain : (backTo cpos (starEach [] X.env)).any (·.1) = false := by rfl) :
    DE X (.Call (.Attribute o "append" apos) [e] [] cpos) (tAppD to t) :=
  pe_imp (pe_bm PySem.F.plainAttrs_list PySem.F.slot_list_append PySem.F.type_list_append mt_append ho ha hbase hfew hline hs hplain) fun σ H Q z9 => by
    obtain ⟨δ, M, R, hsl, hM, q, fin⟩ := z9
    refine ⟨δ, M, _, hsl, hM, q, fun x M1 v H1 g1 r1 a1 zz62_0 => ?_⟩
    obtain ⟨l, ys, ex, hl, q1⟩ := zz62_0
    subst ex
    rw [Rep] at r1
    subst r1
    obtain ⟨vs, hvs, _⟩ := a1 _ _ hl
    refine ⟨.inl ⟨rfl, vs, SqL.of hvs⟩, δ, M1, _, hsl.mono g1, a1, q1, fun ds M2 us H2 g2 r2 a2 zz63_0 => ?_⟩
    obtain ⟨xs, d, ed, hx, hn, q2⟩ := zz63_0
    subst ed
    obtain ⟨u, rfl, ru⟩ := reps1 r2
    obtain ⟨ws, hws, rws⟩ := a2 _ _ hx
    have hlen := rws.length
    refine ⟨l, ws, u, rfl, rfl, hws, Nat.lt_of_lt_of_le (by omega) (show 1000000 ≤ sizeLine from Nat.le_of_ble_eq_true rfl), ?_⟩
    exact fin _ _ _ _ (g1.trans (g2.trans (.lst hws))) (by rw [Rep]) (a2.setL hws (rws.append (.cons ru .nil))) q2
end
end SD
set_option Elab.async false
set_option linter.all false
set_option maxRecDepth 100000
namespace SD
open PySem PySem.Spec PyProof.Rows L2
theorem ru66 {k : Nat} {A : Around} (r : Room k A) : A.units + 66 < cLine := by have := r.un; omega
noncomputable abbrev Wl := Int × Int × Int × Int
noncomputable def la (x y : Int) : Int := 100 * x + y
noncomputable def l1 (w : Wl) : Int := la w.1 w.2.1
noncomputable def l2 (w : Wl) : Int := la w.2.2.1 w.2.2.2
noncomputable def sd (w : Wl) (x y : Int) : Int := crs (w.2.2.1 - w.1) (w.2.2.2 - w.2.1) (x - w.1) (y - w.2.1)
noncomputable def sd1 (w v : Wl) : Int := sd w v.1 v.2.1
noncomputable def sd2 (w v : Wl) : Int := sd w v.2.2.1 v.2.2.2
structure Un5 (w : Wl) : Prop where
  a : 0 ≤ w.1 ∧ w.1 ≤ 20
  b : 0 ≤ w.2.1 ∧ w.2.1 ≤ 20
  c : 0 ≤ w.2.2.1 ∧ w.2.2.1 ≤ 20
  d : 0 ≤ w.2.2.2 ∧ w.2.2.2 ≤ 20
  lt : l1 w < l2 w
noncomputable def EndOk (w : Wl) (l s : Int) : Prop := l = l1 w ∨ l = l2 w ∨ l < l1 w ∨ l2 w < l ∨ s ≠ 0
structure Fair (U V : Wl) : Prop where
  ne : ¬ (l1 U = l1 V ∧ l2 U = l2 V)
  e1 : EndOk U (l1 V) (sd1 U V)
  e2 : EndOk U (l2 V) (sd2 U V)
  e3 : EndOk V (l1 U) (sd1 V U)
  e4 : EndOk V (l2 U) (sd2 V U)
  pr : 0 ≤ Int.sign (sd1 U V) * Int.sign (sd2 U V) ∨ 0 ≤ Int.sign (sd1 V U) * Int.sign (sd2 V U)
theorem Fair.swap {U V : Wl} (h : Fair U V) : Fair V U := ⟨fun z => h.ne ⟨z.1.symm, z.2.symm⟩, h.e3, h.e4, h.e1, h.e2, h.pr.symm⟩
noncomputable def abv (U V : Wl) : Bool :=
  if max (l1 U) (l1 V) < min (l2 U) (l2 V) then
    if l1 U = l1 V then (if l2 U < l2 V then decide (0 < sd2 V U) else decide (sd2 U V < 0))
    else if l1 V < l1 U then decide (0 < sd1 V U) else decide (sd1 U V < 0)
  else false
noncomputable def sides (U V : Wl) : List Int :=
  ((if l1 V ≤ l1 U ∧ l1 U ≤ l2 V then [Int.sign (sd1 V U)] else []) ++ (if l1 V ≤ l2 U ∧ l2 U ≤ l2 V then [Int.sign (sd2 V U)] else [])) ++
  ((if l1 U ≤ l1 V ∧ l1 V ≤ l2 U then [-Int.sign (sd1 U V)] else []) ++ (if l1 U ≤ l2 V ∧ l2 V ≤ l2 U then [-Int.sign (sd2 U V)] else []))
theorem sgp {x y : Int} (h : 0 ≤ Int.sign x * Int.sign y) : ¬ (0 < x ∧ y < 0) ∧ ¬ (x < 0 ∧ 0 < y) := by
  constructor
  · rintro ⟨a, b⟩
    rw [Int.sign_eq_one_of_pos a, Int.sign_eq_neg_one_of_neg b] at h
    omega
  · rintro ⟨a, b⟩
    rw [Int.sign_eq_neg_one_of_neg a, Int.sign_eq_one_of_pos b] at h
    omega
theorem pos_of {z k : Int} (hk : 0 < k) (h : 0 < z * k) : 0 < z := by
  rcases Int.lt_trichotomy z 0 with q | q | q
  · have := Int.mul_neg_of_neg_of_pos q hk; omega
  · subst q; simp at h
  · exact q
theorem neg_of {z k : Int} (hk : 0 < k) (h : z * k < 0) : z < 0 := by
  rcases Int.lt_trichotomy z 0 with q | q | q
  · exact q
  · subst q; simp at h
  · have := Int.mul_pos q hk; omega
theorem within {a b c d u1 u2 v1 v2 : Int} (I1 : a * (v2 - v1) = d * (u1 - v1) - c * (u2 - v1)) (I2 : b * (v2 - v1) = d * (u1 - v2) - c * (u2 - v2))
    (h1 : v1 < u1) (h2 : v1 < u2) (h3 : u1 < v2) (h4 : u2 < v2) (F : (¬ (0 < c ∧ d < 0) ∧ ¬ (c < 0 ∧ 0 < d)) ∨ (¬ (0 < a ∧ b < 0) ∧ ¬ (a < 0 ∧ 0 < b))) (c0 : c ≠ 0) (d0 : d ≠ 0) : 0 < c ↔ 0 < d := by
  have k : 0 < v2 - v1 := by omega
  have A1 : ¬ (0 < c ∧ d < 0) := fun z9 => by
    obtain ⟨x, y⟩ := z9
    have p1 := Int.mul_neg_of_neg_of_pos y (show 0 < u1 - v1 by omega)
    have p2 := Int.mul_pos x (show 0 < u2 - v1 by omega)
    have p3 := Int.mul_pos_of_neg_of_neg y (show u1 - v2 < 0 by omega)
    have p4 := Int.mul_neg_of_pos_of_neg x (show u2 - v2 < 0 by omega)
    have a1 := neg_of (z := a) k (by omega)
    have b1 := pos_of (z := b) k (by omega)
    omega
  have A2 : ¬ (c < 0 ∧ 0 < d) := fun z9 => by
    obtain ⟨x, y⟩ := z9
    have p1 := Int.mul_pos y (show 0 < u1 - v1 by omega)
    have p2 := Int.mul_neg_of_neg_of_pos x (show 0 < u2 - v1 by omega)
    have p3 := Int.mul_neg_of_pos_of_neg y (show u1 - v2 < 0 by omega)
    have p4 := Int.mul_pos_of_neg_of_neg x (show u2 - v2 < 0 by omega)
    have a1 := pos_of (z := a) k (by omega)
    have b1 := neg_of (z := b) k (by omega)
    omega
  omega
theorem id_1 (U V : Wl) : sd1 U V * (l2 V - l1 V) = sd2 V U * (l1 U - l1 V) - sd1 V U * (l2 U - l1 V) := by
  unfold sd1 sd2 sd l1 l2 la crs
  grind
theorem id_2 (U V : Wl) : sd2 U V * (l2 V - l1 V) = sd2 V U * (l1 U - l2 V) - sd1 V U * (l2 U - l2 V) := by
  unfold sd1 sd2 sd l1 l2 la crs
  grind
theorem la_inj {x y u v : Int} (h1 : 0 ≤ y ∧ y ≤ 20) (h2 : 0 ≤ v ∧ v ≤ 20) (h : la x y = la u v) : x = u ∧ y = v := by
  unfold la at h; omega
theorem EndOk.nz {w : Wl} {l s : Int} (h : EndOk w l s) (h1 : l1 w < l) (h2 : l < l2 w) : s ≠ 0 := by
  unfold EndOk at h
  rcases h with h | h | h | h | h
  · omega
  · omega
  · omega
  · omega
  · exact h
theorem apart4 {u1 u2 v1 v2 : Int} : max u1 v1 < min u2 v2 ↔ u1 < u2 ∧ u1 < v2 ∧ v1 < u2 ∧ v1 < v2 := by
  rw [Int.max_lt, Int.lt_min, Int.lt_min, and_assoc]
theorem lt_la {a b c d : Int} (hb : 0 ≤ b ∧ b ≤ 20) (hd : 0 ≤ d ∧ d ≤ 20) : HT.lexLt [a, b] [c, d] = decide (la a b < la c d) := by
  have h := Ma.lexLt_two (a := a) (b := b) (c := c) (d := d)
  rw [Bool.eq_iff_iff, h, decide_eq_true_eq]
  unfold la
  omega
theorem le_la {a b c d : Int} (hb : 0 ≤ b ∧ b ≤ 20) (hd : 0 ≤ d ∧ d ≤ 20) : HT.lexLe [a, b] [c, d] = decide (la a b ≤ la c d) := by
  rw [Ma.lexLe_two, lt_la hd hb, ← decide_not, decide_eq_decide]; omega
theorem gt_la {a b c d : Int} (hb : 0 ≤ b ∧ b ≤ 20) (hd : 0 ≤ d ∧ d ≤ 20) : HT.lexGt [a, b] [c, d] = decide (la c d < la a b) := by
  rw [Ma.lexGt_two, lt_la hd hb]
theorem bd20 {z : Int} (h : 0 ≤ z ∧ z ≤ 20) : Bd 6 z := by show z.natAbs < 2 ^ 6; omega
theorem eq_la {x y u v : Int} (h1 : 0 ≤ y ∧ y ≤ 20) (h2 : 0 ≤ v ∧ v ≤ 20) : (x = u ∧ y = v) ↔ la x y = la u v := by unfold la; omega
theorem endOk_of {A : Wl} {x y : Int} (hA : Un5 A) (hy : 0 ≤ y ∧ y ≤ 20) (h : (!(decide (A.1 = x ∧ A.2.1 = y) || decide (A.2.2.1 = x ∧ A.2.2.2 = y)) && (decide (l1 A ≤ la x y) && decide (la x y ≤ l2 A) && decide (sd A x y = 0))) = false) : EndOk A (la x y) (sd A x y) := by
  unfold EndOk
  by_cases h1 : A.1 = x ∧ A.2.1 = y
  · exact .inl ((eq_la hA.b hy).mp h1).symm
  · by_cases h2 : A.2.2.1 = x ∧ A.2.2.2 = y
    · exact .inr (.inl ((eq_la hA.d hy).mp h2).symm)
    · rw [decide_eq_false h1, decide_eq_false h2, Bool.or_false, Bool.not_false, Bool.true_and, ← Bool.decide_and, ← Bool.decide_and, decide_eq_false_iff_not] at h
      by_cases h3 : sd A x y = 0
      · rcases Int.lt_or_le (la x y) (l1 A) with z | z
        · exact .inr (.inr (.inl z))
        · rcases Int.lt_or_le (l2 A) (la x y) with z' | z'
          · exact .inr (.inr (.inr (.inl z')))
          · exact absurd ⟨⟨z, z'⟩, h3⟩ h
      · exact .inr (.inr (.inr (.inr h3)))
theorem in_two (M : MH) (A : Wl) (x y : Int) (g : Bool → Bool) (Q : DK) (q : Q (.bl (g (decide (A.1 = x ∧ A.2.1 = y) || decide (A.2.2.1 = x ∧ A.2.2.2 = y)))) M) : rInG g (.tup [.int x, .int y]) (uw A) M Q := by
  refine ⟨_, _, Pd.of rfl, .inr (Pd.of rfl), rfl, rfl, ?_⟩
  rw [List.any_cons, List.any_cons, List.any_nil, eqv_two, eqv_two, Bool.or_false]
  exact q
theorem sg_bd (z : Int) : Bd 64 (Int.sign z) := by
  rcases Int.lt_trichotomy z 0 with h | h | h
  · rw [Int.sign_eq_neg_one_of_neg h]; decide
  · subst h; decide
  · rw [Int.sign_eq_one_of_pos h]; decide
end SD
set_option Elab.async false
set_option linter.all false
set_option maxRecDepth 100000
namespace SD
open PySem PySem.Spec PyProof.Rows L2
noncomputable def uwP (w : Wl) : PyData := .tuple [.tuple [.int w.1, .int w.2.1], .tuple [.int w.2.2.1, .int w.2.2.2]]
theorem pds_ws {M : MH} : ∀ ws : List Wl, Pds M (ws.map uw) (ws.map uwP)
  | [] => .nil
  | w :: ws => .cons (Pd.of rfl) (pds_ws ws)
theorem lay_ws : ∀ ws : List Wl, PyData.canLayAll0 (ws.map uwP) = true
  | [] => rfl
  | w :: ws => by rw [List.map_cons, PyData.canLayAll0, lay_ws ws]; rfl
theorem dep_ws : ∀ ws : List Wl, PyData.depthAll (ws.map uwP) ≤ 10
  | [] => Nat.le_of_ble_eq_true rfl
  | w :: ws => by
    rw [List.map_cons, PyData.depthAll]
    exact Nat.max_le.mpr ⟨Nat.le_of_ble_eq_true rfl, dep_ws ws⟩
theorem shaped_ws (ws : List Wl) : SeqAt.shaped (.list (ws.map uwP)) = true := by
  unfold SeqAt.shaped
  have h1 := lay_ws ws
  have h2 := dep_ws ws
  rw [Bool.and_eq_true]
  refine ⟨by rw [PyData.canLay0]; exact h1, decide_eq_true ?_⟩
  rw [PyData.depth]
  omega
theorem eqv_ws_nil : ∀ ws : List Wl, PyData.eqv (.list (ws.map uwP)) (.list []) = ws.isEmpty
  | [] => by simp [PyData.eqv, PyData.eqvAll]
  | w :: ws => by simp [PyData.eqv, PyData.eqvAll]
noncomputable def PF (ws : List Wl) : Prop := ∀ (i j : Nat) (U V : Wl), i ≠ j → ws[i]? = some U → ws[j]? = some V → Fair U V
theorem pf_nil : PF [] := fun i j U V _ h => by simp at h
theorem pf_append {ws : List Wl} {U : Wl} (h : PF ws) (hU : ∀ (j : Nat) (w : Wl), ws[j]? = some w → Fair U w) : PF (ws ++ [U]) := by
  intro i j A B hij hA hB
  have get : ∀ {k : Nat} {C : Wl}, (ws ++ [U])[k]? = some C → ws[k]? = some C ∨ (k = ws.length ∧ C = U) := fun {k C} e => by
    rcases Nat.lt_trichotomy k ws.length with z | z | z
    · rw [List.getElem?_append_left z] at e; exact .inl e
    · subst z
      rw [List.getElem?_append_right (Nat.le_refl _)] at e
      simp at e
      exact .inr ⟨rfl, e.symm⟩
    · rw [List.getElem?_eq_none (by simp; omega)] at e; cases e
  rcases get hA with a | ⟨a, rfl⟩ <;> rcases get hB with b | ⟨b, rfl⟩
  · exact h i j A B hij a b
  · exact (hU _ _ a).swap
  · exact hU _ _ b
  · omega
theorem end_pick {w : Wl} (h : Un5 w) {v : Int} (h0 : 0 ≤ v) (h1 : v < 2) : ∃ x y, atI [D.tup [.int w.1, .int w.2.1], .tup [.int w.2.2.1, .int w.2.2.2]] v = some (.tup [.int x, .int y]) ∧ (0 ≤ x ∧ x ≤ 20) ∧ (0 ≤ y ∧ y ≤ 20) := by
  rcases (show v = 0 ∨ v = 1 by omega) with rfl | rfl
  · exact ⟨_, _, rfl, h.a, h.b⟩
  · exact ⟨_, _, rfl, h.c, h.d⟩
theorem ws_pick {ws : List Wl} {v : Int} (h0 : 0 ≤ v) (h1 : v < ws.length) : ∃ w, w ∈ ws ∧ atI (ws.map uw) v = some (uw w) := by
  obtain ⟨j, rfl⟩ : ∃ j : Nat, v = (j : Int) := ⟨v.toNat, by omega⟩
  have hj : j < ws.length := by omega
  exact ⟨ws[j], List.getElem_mem hj, atI_nat (by simp [hj])⟩
theorem order_two {p q e f : Int} (hp : 0 ≤ p ∧ p ≤ 20) (hq : 0 ≤ q ∧ q ≤ 20) (he : 0 ≤ e ∧ e ≤ 20) (hf : 0 ≤ f ∧ f ≤ 20) (ne : ¬ (p = e ∧ q = f)) :
    ∃ w : Wl, (if HT.lexLt [e, f] [p, q] = true then [e, f] else [p, q]) = [w.1, w.2.1] ∧ (if HT.lexGt [e, f] [p, q] = true then [e, f] else [p, q]) = [w.2.2.1, w.2.2.2] ∧ Un5 w := by
  rw [lt_la hf hq, gt_la hf hq]
  have nl : la p q ≠ la e f := fun z => ne ((eq_la hq hf).mpr z)
  by_cases h : la e f < la p q
  · exact ⟨(e, f, p, q), by rw [if_pos (decide_eq_true h)], by rw [if_neg (by simp; omega)], ⟨he, hf, hp, hq, h⟩⟩
  · have h' : la p q < la e f := by omega
    exact ⟨(p, q, e, f), by rw [if_neg (by simpa using h)], by rw [if_pos (decide_eq_true h')], ⟨hp, hq, he, hf, h'⟩⟩
theorem dec_la {t b X Y p q e f : Int} (ht : 0 < t) (hb : 0 < b) (hq : 0 ≤ q ∧ q ≤ 20) (hf : 0 ≤ f ∧ f ≤ 20) : Ma.ah (Ma.ut t b X 1 p) (Ma.ut t b Y 1 q) (Ma.ut t b X 1 e) (Ma.ut t b Y 1 f) ↔ la p q < la e f := by
  rw [ah_ut ht hb]; unfold la; omega
theorem sgn_sd {t b X Y : Int} (ht : 0 < t) (hb : 0 < b) (w : Wl) (x y : Int) : Ma.sgn (Ma.cr (Ma.ut t b X 1 w.1) (Ma.ut t b Y 1 w.2.1) (Ma.ut t b X 1 w.2.2.1) (Ma.ut t b Y 1 w.2.2.2) (Ma.ut t b X 1 x) (Ma.ut t b Y 1 y)) = Int.sign (sd w x y) := by
  have k : (0 : Rat) < (t : Rat) / b := by rw [Rat.div_def]; exact Rat.mul_pos (Ma.pos_int ht) (Rat.inv_pos.mpr (Ma.pos_int hb))
  rw [cr_ut hb, sgn_mul (Rat.mul_pos k k)]
  rfl
theorem chain_lift {K : PySem.W.Frag} {r r' : R2D} {ta tb tc : TD} {σ : L2.St} {H : Hp} {Q : VK} (h : lift K (tChainD r r' ta tb tc) σ H Q) : tChain (liftR2 K r) (liftR2 K r') (lift K ta) (lift K tb) (lift K tc) σ H Q := by
  obtain ⟨δ, M, R, hs, hM, q, fin⟩ := h
  refine ⟨δ, M, _, hs, hM, q, fun x M1 v H1 g1 r1 a1 q1 => ⟨δ, M1, _, hs.mono g1, a1, q1, fun y M2 u H2 g2 r2 a2 q2 => ⟨x, y, M2, _, r1.mono g2, r2, a2, q2, fun z M3 w H3 g3 r3 a3 zz64_0 => ?_⟩⟩⟩
  obtain ⟨k, e, q3⟩ := zz64_0
  subst e
  rw [Rep] at r3
  refine ⟨k, r3, ?_⟩
  cases k with
  | true =>
    rw [if_pos rfl] at q3 ⊢
    exact ⟨δ, M3, _, hs.mono ((g1.trans g2).trans g3), a3, q3, fun u' M4 w' H4 g4 r4 a4 q4 => ⟨y, u', M4, R, r2.mono (g3.trans g4), r4, a4, q4, fin.go (((g1.trans g2).trans g3).trans g4)⟩⟩
  | false =>
    rw [if_neg Bool.false_ne_true] at q3 ⊢
    exact fin _ _ _ _ ((g1.trans g2).trans g3) (by rw [Rep]) a3 q3
theorem dt_chain {X : Cx} {a b c : Expr} {ta tb tc : TD} {pos : Pos} {op op' : CmpOp} {r r' : R2D} (ho : OpD X (compareOp op) r) (ho' : OpD X (compareOp op') r') (ha : DE X a ta) (hb : DE X b tb) (hc : DE X c tc)
    (hm : lastMarks [op, op'] [b, c] = false := by with_unfolding_all rfl) : DT X (.Compare a [op, op'] [b, c] pos) (tBD (tChainD r r' ta tb tc)) :=
  pt_imp (pt_chain ho ho' ha hb hc hm) fun _ _ _ h => lift_test (fun _ _ _ h => chain_lift h) h
end SD
set_option Elab.async false
set_option linter.all false
set_option maxRecDepth 100000
namespace SD
open PySem PySem.Spec PyProof.Rows L2
section
variable {X : Cx}
noncomputable def insD {α : Type} (xs : List α) (j : Nat) (y : α) : List α := xs.take j ++ y :: xs.drop j
noncomputable def rInsert : V → List V → Hp → VK → Prop := fun x vs H Q => ∃ l xs y, ∃ (k : Int) (j : Nat), x = .ref l ∧ vs = [.int k, y] ∧ k = (j : Int) ∧ H l = some (.lst xs) ∧ j ≤ xs.length ∧ xs.length < 1000000 ∧ Q .non (upd H l (.lst (insD xs j y)))
noncomputable def tInsD (to : TD) (t : TAD) : TD := fun δ M Q => to δ M fun x M1 => ∃ l ys, x = .ref l ∧ M1 l = some (.lst ys) ∧ t δ M1 fun ds M2 => ∃ xs d, ∃ j : Nat, ds = [.int (j : Int), d] ∧ M2 l = some (.lst xs) ∧ j ≤ xs.length ∧ xs.length < 1000000 ∧ Q .non (updM M2 l (.lst (insD xs j d)))
variable {o e1 e2 : Expr} {to : TD} {t : TAD} {apos cpos : Pos}
noncomputable def rList : RC := fun ds M Q => match ds with
  | [.ref l] => ∃ xs, M l = some (.lst xs) ∧ ∀ p, M p = none → Q (.ref p) (updM M p (.lst xs))
  | [.tup xs] => ∀ p, M p = none → Q (.ref p) (updM M p (.lst xs))
  | _ => False
theorem cd_list : CallD X (.type "list") rList := call_imp call_list_of fun vs H Q z9 => by
  obtain ⟨ds, M, R, rs, a, q, fin⟩ := z9
  unfold rList at q
  split at q
  · obtain ⟨ys, e, q⟩ := q
    obtain ⟨v, rfl, r⟩ := reps1 rs
    rw [Rep] at r; subst r
    obtain ⟨xs, hx, rx⟩ := a _ _ e
    exact ⟨_, xs, rfl, .inl (SqL.of hx), fun z hz => fin _ _ _ _ (.new hz) (by rw [Rep]) (a.newL hz rx) (q z (a.fresh hz))⟩
  · obtain ⟨v, rfl, r⟩ := reps1 rs
    rw [Rep] at r
    obtain ⟨p, xs, rfl, hx, rx⟩ := r
    exact ⟨_, xs, rfl, .inr hx, fun z hz => fin _ _ _ _ (.new hz) (by rw [Rep]) (a.newL hz rx) (q z (a.fresh hz))⟩
  · exact q.elim
end
end SD
set_option Elab.async false
set_option linter.all false
set_option maxRecDepth 100000
namespace SD
open PySem PySem.Spec PyProof.Rows L2
noncomputable def lam (w : Wl) : Int := l2 w - l1 w
noncomputable def Nm (w : Wl) (t : Int) : Int := 2 * w.1 * lam w + (t - 2 * l1 w) * (w.2.2.1 - w.1)
noncomputable def Gh (U V : Wl) (t : Int) : Int := Nm V t * lam U - Nm U t * lam V
theorem g_lin (U V : Wl) (p q t : Int) : Gh U V t * (q - p) = Gh U V p * (q - t) + Gh U V q * (t - p) := by
  unfold Gh Nm
  grind
theorem g_pos {U V : Wl} {p q t : Int} (h1 : p < t) (h2 : t < q) (gp : 0 ≤ Gh U V p) (gq : 0 ≤ Gh U V q) (g : 0 < Gh U V p ∨ 0 < Gh U V q) : 0 < Gh U V t := by
  refine pos_of (k := q - p) (by omega) ?_
  rw [g_lin U V p q t]
  have a1 := Int.mul_nonneg gp (show 0 ≤ q - t by omega)
  have a2 := Int.mul_nonneg gq (show 0 ≤ t - p by omega)
  rcases g with g | g
  · have := Int.mul_pos g (show 0 < q - t by omega); omega
  · have := Int.mul_pos g (show 0 < t - p by omega); omega
end SD
set_option Elab.async false
set_option linter.all false
set_option maxRecDepth 100000
namespace SD
open PySem PySem.Spec PyProof.Rows L2
noncomputable def wAt (ws : List Wl) (k : Int) : Wl := (ws[k.toNat]?).getD (0, 0, 0, 0)
noncomputable def frP (q : Rat) : PyData := .tuple [.int q.num, .int (q.den : Int)]
noncomputable def rwP (t b x y : Int) (w : Wl) : PyData := .tuple [.tuple [frP (Ma.ut t b x 1 w.1), frP (Ma.ut t b y 1 w.2.1)], .tuple [frP (Ma.ut t b x 1 w.2.2.1), frP (Ma.ut t b y 1 w.2.2.2)]]
theorem rwP_refl (t b x y : Int) (w : Wl) : PyData.eqv (rwP t b x y w) (rwP t b x y w) = true := by
  simp [rwP, frP, PyData.eqv, PyData.eqvAll]
theorem pds_rw {M : MH} (t b x y : Int) : ∀ ws : List Wl, Pds M (ws.map (rwl t b x y)) (ws.map (rwP t b x y))
  | [] => .nil
  | w :: ws => .cons (Pd.of rfl) (pds_rw t b x y ws)
theorem lay_rw (t b x y : Int) : ∀ ws : List Wl, PyData.canLayAll0 (ws.map (rwP t b x y)) = true
  | [] => rfl
  | w :: ws => by rw [List.map_cons, PyData.canLayAll0, lay_rw t b x y ws]; rfl
theorem dep_rw (t b x y : Int) : ∀ ws : List Wl, PyData.depthAll (ws.map (rwP t b x y)) ≤ 10
  | [] => Nat.le_of_ble_eq_true rfl
  | w :: ws => by
    rw [List.map_cons, PyData.depthAll]
    exact Nat.max_le.mpr ⟨Nat.le_of_ble_eq_true rfl, dep_rw t b x y ws⟩
theorem eqvAll_rw (t b x y : Int) : ∀ ws : List Wl, PyData.eqvAll (ws.map (rwP t b x y)) (ws.map (rwP t b x y)) = true
  | [] => by simp [PyData.eqvAll]
  | w :: ws => by rw [List.map_cons, PyData.eqvAll, rwP_refl, eqvAll_rw t b x y ws]; rfl
end SD
namespace SD
open PySem PySem.Spec PyProof.Rows L2
noncomputable def spB (ws : List Wl) (m s : Int) (j : Nat) : Bool := decide (m * l1 (wAt ws (j : Int)) ≤ s) && decide (s < m * l2 (wAt ws (j : Int)))
noncomputable def spK (ws : List Wl) (m s : Int) : List Int := ((List.range ws.length).filter (spB ws m s)).map fun j : Nat => (j : Int)
end SD
set_option Elab.async false
set_option linter.all false
set_option maxRecDepth 100000
namespace SD
open PySem PySem.Spec PyProof.Rows L2
section
variable {X : Cx} {pins : List (Addr × Obj)} {σ : L2.St} {H : Hp} {s : Shared}
theorem turned_two {h' : Heap} {t' : Nat} {e it : Addr} (I : Inv X pins σ H s) (k : ∀ b o, b ≠ e → b ≠ it → s.heap.get? b = some o → h'.get? b = some o) (fe : FpOk X pins H e) (fi : FpOk X pins H it) : Inv X pins σ H { s with heap := h', toks := t' } := by
  obtain ⟨e0, e1, _, e3, e4, e5⟩ := fe
  obtain ⟨i0, i1, _, i3, i4, i5⟩ := fi
  have ne : ∀ b u, H b = some u → b ≠ e ∧ b ≠ it := fun b u q => ⟨fun z => (by rw [z, e0] at q; cases q), fun z => (by rw [z, i0] at q; cases q)⟩
  have nc : ∀ {b : Addr}, b ∉ [e, it] → b ≠ e ∧ b ≠ it := fun {b} hc => ⟨fun z => hc (by simp [z]), fun z => hc (by simp [z])⟩
  refine I.step (g' := s.gens) (d' := s.drawn) (ch := [e, it]) (fun b hb => ?_) (fun b o _ _ hc q _ => k b o (nc hc).1 (nc hc).2 q) (fun b o _ _ hc q _ => ⟨o.slots, k b o (nc hc).1 (nc hc).2 q⟩) (fun _ _ _ _ n => n)
    (fun b o hc q => ⟨o, k b o (nc hc).1 (nc hc).2 q⟩) (fun _ _ q => q) (fun _ _ _ q => q) (fun b ps q => ⟨#[], by rw [q]; simp⟩) (fun m hm => ?_) (fun b u q => ?_) I.bare
  · rcases (show b = e ∨ b = it by simpa using hb) with rfl | rfl
    · exact ⟨e3, e1, e4, e5⟩
    · exact ⟨i3, i1, i4, i5⟩
  · obtain ⟨o, es, ep, ho, r⟩ := hm
    exact ⟨o, es, ep, k _ o (Ne.symm e1) (Ne.symm i1) ho, r⟩
  · refine (I.hok b u q).stay (fun c v hc z => ?_) (fun _ z => z) fun _ _ z => z
    rcases hc with y | y
    · subst y; exact k _ v (ne _ u q).1 (ne _ u q).2 z
    · exact k c v (ne c _ y).1 (ne c _ y).2 z
end
noncomputable def Ite (K : PySem.W.Frag) (a : Addr) : It :=
  ⟨fun i H => ∃ xs x, SqL K H a xs ∧ xs[i]? = some x, fun i H x H' => ∃ T y, x = .ref T ∧ H T = none ∧ H' = upd H T (.tup [.int (i : Int), y]) ∧ ∀ xs, SqL K H a xs → xs[i]? = some y, fun i H => ∃ xs, SqL K H a xs ∧ xs.length ≤ i⟩
theorem turn_enum {P : Program} {w : World} {K : PySem.W.Frag} {elts : List Expr} {kt} {pt : Pos} (a e it : Addr) (hei : e ≠ it) : Turn P w K (.Tuple elts kt pt) (Ite K a) [e, it] e (fun i h => (∃ old, IsEnum h e it (i : Int) old) ∧ h.IsListIter it a i) where
  mem := by simp
  obj := fun i h st b hb => by
    rcases (show b = e ∨ b = it by simpa using hb) with rfl | rfl
    · obtain ⟨⟨old, q⟩, _⟩ := st
      exact ⟨_, q, fun v z => by
        have z' : Data.fields _ = Data.cell v := z
        cases z'⟩
    · obtain ⟨o, q, c, d⟩ := st.2
      exact ⟨o, q, fun v z => by rw [d] at z; cases z⟩
  keep := fun i h h' st k => by
    obtain ⟨⟨old, q⟩, st⟩ := st
    exact ⟨⟨old, k e (by simp) _ q⟩, st.at fun o z => k it (by simp) o z⟩
  item := by
    intro X hP hw hK hc i pins s σ H E I hf st hg
    subst hP hw hK
    obtain ⟨xs, x, hq, hx⟩ := hg
    obtain ⟨its, rv, p, hz⟩ := I.list hq
    obtain ⟨u, hu, ru⟩ := rv.get hx
    obtain ⟨⟨old, he⟩, hit⟩ := st
    have le : e < s.heap.objs.size := Heap.lt_size he
    have li : it < s.heap.objs.size := by obtain ⟨o, q, _⟩ := hit; exact Heap.lt_size q
    refine wpAny_pyNext_enum_item he hit p.isList (x := u) (by simpa using hu) hei fun h1 ho hit1 hT hsz hk => ⟨_, rfl, wpAny_letOwnedTupleGo_enum (s := { s with heap := h1, toks := s.toks + 1 }) ho fun h2 he2 hs2 => ?_⟩
    have hs2 : Heap.SameBut e h1 h2 := hs2
    have fr := I.fresh
    have I1 : Inv X pins σ (upd H s.heap.objs.size (.tup [.int (i : Int), x])) { s with heap := s.heap.push { cls := .type "tuple", data := .seq #[.int (i : Int) s.toks, u] }, toks := s.toks } :=
      I.laid (fun b v q => Heap.get?_push_of_some _ q) (Nat.le_refl _) ⟨Nat.le_of_ble_eq_true rfl, [.int (i : Int) s.toks, u], .cons ⟨_, rfl⟩ (.cons ru .nil), ⟨_, Heap.get?_push_size _ rfl, rfl, _, rfl⟩⟩
    have fk : ∀ {b : Addr}, b < s.heap.objs.size → FpOk X pins H b → FpOk X pins (upd H s.heap.objs.size (.tup [.int (i : Int), x])) b := fun {b} lt f => ⟨by rw [upd_ne (Nat.ne_of_lt lt)]; exact f.1, f.2⟩
    have fe := fk le (hf e (by simp))
    have fi := fk li (hf it (by simp))
    have I2 : Inv X pins σ (upd H s.heap.objs.size (.tup [.int (i : Int), x])) { s with heap := h2, toks := s.toks + 1 } := by
      refine turned_two (s := { s with heap := s.heap.push { cls := .type "tuple", data := .seq #[.int (i : Int) s.toks, u] }, toks := s.toks }) I1 (fun b o ne ni q => ?_) fe fi
      have q : (s.heap.push { cls := .type "tuple", data := .seq #[.int (i : Int) s.toks, u] }).get? b = some o := q
      refine (hs2.2 b ne).trans ?_
      rcases Heap.get?_push_cases q with ⟨rfl, rfl⟩ | q
      · exact hT
      · exact hk b o ne ni q
    refine ⟨.ref s.heap.objs.size, _, I2, rfl, ⟨_, x, rfl, fr, rfl, fun ys hy => by rw [I.list_inj hy hq]; exact hx⟩, ⟨⟨u, ?_⟩, hit1.at fun o z => (hs2.2 it hei.symm).trans z⟩, fun b hb => ?_⟩
    · have : (((i + 1 : Nat) : Int)) = (i : Int) + 1 := by omega
      rw [this]; exact he2
    · rcases (show b = e ∨ b = it by simpa using hb) with rfl | rfl
      · exact fe.1
      · exact fi.1
  done := by
    intro X hP hw hK hc i pins s σ H E I hf st hg
    subst hP hw hK
    obtain ⟨xs, hq, hx⟩ := hg
    obtain ⟨its, rv, p, hz⟩ := I.list hq
    obtain ⟨⟨old, he⟩, hit⟩ := st
    obtain ⟨f0, f1, f2, f3, f4, f5⟩ := hf it (by simp)
    have hl := rv.length
    exact wpAny_pyNext_enum_end (I.ok.hd hc) he hit p.isList (by simp; omega) fun h' eb => ⟨rfl, I.turned (t' := s.toks) (fun b o hb q => eb b o hb q) f0 f1 f3 f4 f5⟩
  self := fun _ _ _ _ _ st h => let ⟨⟨_, he⟩, _⟩ := st; wpAny_pyIter_enum he h
theorem bt_enumerate : bootBuiltins "enumerate" = some (.type "enumerate") := by decide +kernel
section
variable {X : Cx} {elts : List Expr} {kt : Nat} {pt : Pos}
noncomputable def iEnum (K : PySem.W.Frag) (ta : TA) : TI := fun σ H R => ta σ H fun vs H1 => ∃ a xs, vs = [.ref a] ∧ H1 a = some (.lst xs) ∧ R (Ite K a) H1
theorem pi_enum {a : Expr} {ta : TA} {p pos : Pos} (hg : Gl X "enumerate") (hm : X.mg "enumerate" = none) (ha : PA X [a] ta) (hs : starEach [a] X.env = [(false, eval a X.env)] := by rfl) : PI X (.Tuple elts kt pt) (.Call (.Name "enumerate" p) [a] [] pos) (iEnum X.K ta) := by
  intro pins s σ H R I h
  refine Call_ (ld_blt I hg hm bt_enumerate (PyProof.Rows.callWith_type1 (thn (ha pos pins s σ H _ I h) fun us s1 zz67_0 => ?_) hs rfl))
  obtain ⟨vs, H1, I1, r1, q1⟩ := zz67_0
  obtain ⟨l, xs, ev, hH, q⟩ := q1
  subst ev
  obtain ⟨u, rfl, ru⟩ := r1.one
  cases ru
  obtain ⟨z, its, n, r, hl, e⟩ := I1.lstM hH
  refine call_enumerate_1 e fun h' he hit hsz hk => wpAny_pyIter_enum he ?_
  have fp : ∀ b ∈ [s1.heap.objs.size + 1, s1.heap.objs.size], FpOk X pins H1 b := fun b hb => by
    have hb' : s1.heap.objs.size ≤ b := by
      rcases (show b = s1.heap.objs.size + 1 ∨ b = s1.heap.objs.size by simpa using hb) with rfl | rfl
      · exact Nat.le_succ _
      · exact Nat.le_refl _
    exact I1.fpOk hb' (I1.hok.fresh hb')
  exact ⟨_, [s1.heap.objs.size + 1, s1.heap.objs.size], _, _, H1, rfl, I1.kept (t' := s1.toks) hk, turn_enum l _ _ (Nat.succ_ne_self _), ⟨⟨_, he⟩, hit⟩, fp, q⟩
noncomputable def dEnum (ta : TAD) : TID := fun δ M R => ta δ M fun ds M1 => ∃ l es, ds = [.ref l] ∧ M1 l = some (.lst es) ∧ R ⟨es.length, fun i => (es[i]?).map fun d => .tup [.int (i : Int), d], fun M => M l = some (.lst es)⟩ M1
theorem di_enum {a : Expr} {ta : TAD} {p pos : Pos} (hg : Gl X "enumerate") (hm : X.mg "enumerate" = none) (ha : DA X [a] ta) (hs : starEach [a] X.env = [(false, eval a X.env)] := by rfl) : DI X (.Tuple elts kt pt) (.Call (.Name "enumerate" p) [a] [] pos) (dEnum ta) :=
  pi_imp (pi_enum hg hm ha hs) fun σ H R ⟨δ, M, RD, hs, hM, q, fin⟩ => ⟨δ, M, _, hs, hM, q, fun ds M1 vs H1 g1 r1 a1 z9 => by
    obtain ⟨l, es, e, hl, q1⟩ := z9
    subst e
    obtain ⟨v, rfl, r⟩ := reps1 r1
    rw [Rep] at r; subst r
    obtain ⟨xs, hx, rs⟩ := a1 _ _ hl
    refine ⟨l, xs, rfl, hx, fin _ M1 H1 _ g1 a1 q1 ⟨fun H2 M2 g2 a2 c2 => ?_, fun i H2 M2 hi g2 a2 c2 => ?_, ?_⟩⟩
    · obtain ⟨ys, hy, ry⟩ := a2 _ _ (show M2 l = some (.lst es) from c2)
      exact ⟨ys, SqL.of hy, by rw [← ry.length]; exact Nat.le_refl _⟩
    · obtain ⟨ys, hy, ry⟩ := a2 _ _ (show M2 l = some (.lst es) from c2)
      have hi' : i < ys.length := by rw [← ry.length]; exact hi
      exact ⟨ys, ys[i], SqL.of hy, by simp [hi']⟩
    · rintro i H2 M2 v H3 hi g2 a2 c2 ⟨T, y, rfl, hT, rfl, hy⟩
      have hi : i < es.length := hi
      obtain ⟨ys, hys, ry⟩ := a2 _ _ (show M2 l = some (.lst es) from c2)
      obtain ⟨x, e1, e2⟩ := ry.get (show es[i]? = some es[i] by simp [hi])
      have := hy ys (SqL.of hys)
      rw [e1] at this; cases this
      exact ⟨.new hT, a2.new hT, .tup [.int (i : Int), es[i]], by simp [hi], by rw [Rep]; exact ⟨T, _, rfl, SqT.of upd_same, .cons (by rw [Rep]) (.cons (e2.mono (.new hT)) .nil)⟩⟩⟩
end
end SD
set_option Elab.async false
set_option linter.all false
set_option maxRecDepth 100000
namespace SD
open PySem PySem.Spec PyProof.Rows L2
structure Un6 (w : Wl) : Prop where
  a : 0 ≤ w.1 ∧ w.1 ≤ 60
  b : 0 ≤ w.2.1 ∧ w.2.1 ≤ 20
  c : 0 ≤ w.2.2.1 ∧ w.2.2.1 ≤ 60
  d : 0 ≤ w.2.2.2 ∧ w.2.2.2 ≤ 20
  lt : l1 w < l2 w
theorem Un5.six {w : Wl} (h : Un5 w) : Un6 w := ⟨by have := h.a; omega, h.b, by have := h.c; omega, h.d, h.lt⟩
noncomputable def EndOf (w : Wl) (x y : Int) : Prop := (x = w.1 ∧ y = w.2.1) ∨ (x = w.2.2.1 ∧ y = w.2.2.2)
theorem meet_signs {U V : Wl} (hU : l1 U < l2 U) (hV : l1 V < l2 V) (F : Fair U V) (nz : ¬ (sd1 U V = 0 ∧ sd2 U V = 0)) (n1 : ¬ 0 < Int.sign (sd1 U V) * Int.sign (sd2 U V)) (n2 : ¬ 0 < Int.sign (sd1 V U) * Int.sign (sd2 V U)) :
    (sd1 U V = 0 ∧ (l1 V = l1 U ∨ l1 V = l2 U)) ∨ (sd2 U V = 0 ∧ sd1 U V ≠ 0 ∧ (l2 V = l1 U ∨ l2 V = l2 U)) := by
  have i1 := id_1 U V
  have i2 := id_2 U V
  have i3 := id_1 V U
  have i4 := id_2 V U
  rw [sign_pos] at n1 n2
  have pr := F.pr
  have f1 := F.e1
  have f2 := F.e2
  have f3 := F.e3.nz
  have f4 := F.e4.nz
  unfold EndOk at f1 f2
  have pr' : (¬ (0 < sd1 V U ∧ sd2 V U < 0) ∧ ¬ (sd1 V U < 0 ∧ 0 < sd2 V U)) ∨ (¬ (0 < sd1 U V ∧ sd2 U V < 0) ∧ ¬ (sd1 U V < 0 ∧ 0 < sd2 U V)) := pr.elim (fun z => .inr (sgp z)) (fun z => .inl (sgp z))
  clear pr
  generalize sd1 U V = a at *
  generalize sd2 U V = b at *
  generalize sd1 V U = c at *
  generalize sd2 V U = d at *
  generalize l1 U = u1 at *
  generalize l2 U = u2 at *
  generalize l1 V = v1 at *
  generalize l2 V = v2 at *
  have ku : 0 < u2 - u1 := by omega
  have kv : 0 < v2 - v1 := by omega
  by_cases ha : a = 0
  · left
    refine ⟨ha, ?_⟩
    have hb : b ≠ 0 := fun z => nz ⟨ha, z⟩
    subst ha
    rcases f1 with z | z | z | z | z
    · exact .inl z
    · exact .inr z
    · exfalso
      rcases Int.lt_or_gt_of_ne hb with q | q
      · have p1 := Int.mul_pos_of_neg_of_neg q (show v1 - u1 < 0 by omega)
        have p2 := Int.mul_pos_of_neg_of_neg q (show v1 - u2 < 0 by omega)
        have c1 := pos_of (z := c) ku (by omega)
        have d1 := pos_of (z := d) ku (by omega)
        exact n2 (.inl ⟨c1, d1⟩)
      · have p1 := Int.mul_neg_of_pos_of_neg q (show v1 - u1 < 0 by omega)
        have p2 := Int.mul_neg_of_pos_of_neg q (show v1 - u2 < 0 by omega)
        have c1 := neg_of (z := c) ku (by omega)
        have d1 := neg_of (z := d) ku (by omega)
        exact n2 (.inr ⟨c1, d1⟩)
    · exfalso
      rcases Int.lt_or_gt_of_ne hb with q | q
      · have p1 := Int.mul_neg_of_neg_of_pos q (show 0 < v1 - u1 by omega)
        have p2 := Int.mul_neg_of_neg_of_pos q (show 0 < v1 - u2 by omega)
        have c1 := neg_of (z := c) ku (by omega)
        have d1 := neg_of (z := d) ku (by omega)
        exact n2 (.inr ⟨c1, d1⟩)
      · have p1 := Int.mul_pos q (show 0 < v1 - u1 by omega)
        have p2 := Int.mul_pos q (show 0 < v1 - u2 by omega)
        have c1 := pos_of (z := c) ku (by omega)
        have d1 := pos_of (z := d) ku (by omega)
        exact n2 (.inl ⟨c1, d1⟩)
    · exact absurd rfl z
  by_cases hb : b = 0
  · right
    refine ⟨hb, ha, ?_⟩
    subst hb
    rcases f2 with z | z | z | z | z
    · exact .inl z
    · exact .inr z
    · exfalso
      rcases Int.lt_or_gt_of_ne ha with q | q
      · have p1 := Int.mul_pos_of_neg_of_neg q (show v2 - u1 < 0 by omega)
        have p2 := Int.mul_pos_of_neg_of_neg q (show v2 - u2 < 0 by omega)
        have c1 := neg_of (z := c) ku (by omega)
        have d1 := neg_of (z := d) ku (by omega)
        exact n2 (.inr ⟨c1, d1⟩)
      · have p1 := Int.mul_neg_of_pos_of_neg q (show v2 - u1 < 0 by omega)
        have p2 := Int.mul_neg_of_pos_of_neg q (show v2 - u2 < 0 by omega)
        have c1 := pos_of (z := c) ku (by omega)
        have d1 := pos_of (z := d) ku (by omega)
        exact n2 (.inl ⟨c1, d1⟩)
    · exfalso
      rcases Int.lt_or_gt_of_ne ha with q | q
      · have p1 := Int.mul_neg_of_neg_of_pos q (show 0 < v2 - u1 by omega)
        have p2 := Int.mul_neg_of_neg_of_pos q (show 0 < v2 - u2 by omega)
        have c1 := pos_of (z := c) ku (by omega)
        have d1 := pos_of (z := d) ku (by omega)
        exact n2 (.inl ⟨c1, d1⟩)
      · have p1 := Int.mul_pos q (show 0 < v2 - u1 by omega)
        have p2 := Int.mul_pos q (show 0 < v2 - u2 by omega)
        have c1 := neg_of (z := c) ku (by omega)
        have d1 := neg_of (z := d) ku (by omega)
        exact n2 (.inr ⟨c1, d1⟩)
    · exact absurd rfl z
  exfalso
  have ab : (0 < a ∧ b < 0) ∨ (a < 0 ∧ 0 < b) := by
    clear f1 f2 f3 f4 n2 pr' i1 i2 i3 i4 nz ku kv
    rcases Int.lt_or_gt_of_ne ha with x | x <;> rcases Int.lt_or_gt_of_ne hb with y | y
    · exact absurd (.inr ⟨x, y⟩) n1
    · exact .inr ⟨x, y⟩
    · exact .inl ⟨x, y⟩
    · exact absurd (.inl ⟨x, y⟩) n1
  have cd0 : c = 0 ∨ d = 0 := by
    have p : ¬ (0 < c ∧ d < 0) ∧ ¬ (c < 0 ∧ 0 < d) := pr'.elim id fun z => (ab.elim z.1 z.2).elim
    clear f1 f2 f3 f4 n1 pr' i1 i2 i3 i4 nz ku kv ab
    rcases Int.lt_trichotomy c 0 with x | x | x
    · rcases Int.lt_trichotomy d 0 with y | y | y
      · exact absurd (.inr ⟨x, y⟩) n2
      · exact .inr y
      · exact absurd ⟨x, y⟩ p.2
    · exact .inl x
    · rcases Int.lt_trichotomy d 0 with y | y | y
      · exact absurd ⟨x, y⟩ p.1
      · exact .inr y
      · exact absurd (.inl ⟨x, y⟩) n2
  have inn : ∀ {w : Int} {k : Int}, a * (v2 - v1) = k * (w - v1) → b * (v2 - v1) = k * (w - v2) → v1 < w ∧ w < v2 := fun {w k} e1 e2 => by
    rcases ab with ⟨x, y⟩ | ⟨x, y⟩
    · have q1 := Int.mul_pos x kv
      have q2 := Int.mul_neg_of_neg_of_pos y kv
      rcases Int.lt_trichotomy k 0 with z | z | z
      · have r1 : ¬ 0 ≤ w - v1 := fun h => by have := Int.mul_nonneg (show 0 ≤ -k by omega) h; rw [Int.neg_mul] at this; omega
        have r2 : ¬ w - v2 ≤ 0 := fun h => by have := Int.mul_nonneg (show 0 ≤ -k by omega) (show 0 ≤ -(w - v2) by omega); rw [Int.neg_mul_neg] at this; omega
        omega
      · subst z; simp at e1; omega
      · have r1 : ¬ w - v1 ≤ 0 := fun h => by have := Int.mul_nonneg (show 0 ≤ k by omega) (show 0 ≤ -(w - v1) by omega); rw [Int.mul_neg] at this; omega
        have r2 : ¬ 0 ≤ w - v2 := fun h => by have := Int.mul_nonneg (show 0 ≤ k by omega) h; omega
        omega
    · have q1 := Int.mul_neg_of_neg_of_pos x kv
      have q2 := Int.mul_pos y kv
      rcases Int.lt_trichotomy k 0 with z | z | z
      · have r1 : ¬ w - v1 ≤ 0 := fun h => by have := Int.mul_nonneg (show 0 ≤ -k by omega) (show 0 ≤ -(w - v1) by omega); rw [Int.neg_mul_neg] at this; omega
        have r2 : ¬ 0 ≤ w - v2 := fun h => by have := Int.mul_nonneg (show 0 ≤ -k by omega) h; rw [Int.neg_mul] at this; omega
        omega
      · subst z; simp at e1; omega
      · have r1 : ¬ 0 ≤ w - v1 := fun h => by have := Int.mul_nonneg (show 0 ≤ k by omega) h; omega
        have r2 : ¬ w - v2 ≤ 0 := fun h => by have := Int.mul_nonneg (show 0 ≤ k by omega) (show 0 ≤ -(w - v2) by omega); rw [Int.mul_neg] at this; omega
        omega
  rcases cd0 with z | z
  · subst z
    have q := inn (w := u1) (k := d) (by omega) (by omega)
    exact f3 q.1 q.2 rfl
  · subst z
    have q := inn (w := u2) (k := -c) (by rw [Int.neg_mul]; omega) (by rw [Int.neg_mul]; omega)
    exact f4 q.1 q.2 rfl
theorem line_apart {U V : Wl} (hU : l1 U < l2 U) (hV : l1 V < l2 V) (F : Fair U V) (z1 : sd1 U V = 0) (z2 : sd2 U V = 0) : ¬ max (l1 U) (l1 V) < min (l2 U) (l2 V) := by
  intro ap
  rw [apart4] at ap
  obtain ⟨o1, o2, o3, o4⟩ := ap
  have i3 := id_1 V U
  have i4 := id_2 V U
  rw [z1, z2] at i3 i4
  have f1 := F.e1.nz
  have f2 := F.e2.nz
  have f3 := F.e3.nz
  have f4 := F.e4.nz
  have ne := F.ne
  have c0 : sd1 V U = 0 := by
    have : sd1 V U * (l2 U - l1 U) = 0 := by rw [i3]; simp
    rcases Int.mul_eq_zero.mp this with q | q
    · exact q
    · omega
  have d0 : sd2 V U = 0 := by
    have : sd2 V U * (l2 U - l1 U) = 0 := by rw [i4]; simp
    rcases Int.mul_eq_zero.mp this with q | q
    · exact q
    · omega
  rcases Int.lt_trichotomy (l1 U) (l1 V) with h | h | h
  · exact f1 h o3 z1
  · rcases Int.lt_trichotomy (l2 U) (l2 V) with h' | h' | h'
    · exact f4 (by omega) h' d0
    · exact ne ⟨h, h'⟩
    · exact f2 (by omega) h' z2
  · exact f3 h o2 c0
theorem sign0 {z : Int} : Int.sign z = 0 ↔ z = 0 := Int.sign_eq_zero_iff_zero
theorem btw_zero (x y : Rat) : btw x y 0 = x := by unfold btw; grind
theorem btw_one (x y : Rat) : btw x y 1 = y := by unfold btw; grind
theorem end_of_la {w : Wl} {x y : Int} (hw : Un6 w) (hy : 0 ≤ y ∧ y ≤ 20) (h : la x y = l1 w ∨ la x y = l2 w) : EndOf w x y := by
  rcases h with h | h
  · exact .inl (la_inj hy hw.b h)
  · exact .inr (la_inj hy hw.d h)
theorem fair_meet {t b X Y : Int} {U V : Wl} (ht : 0 < t) (hb : 0 < b) (HU : Un6 U) (HV : Un6 V) (F : Fair U V) :
    meetD (Ma.ut t b X 1 U.1) (Ma.ut t b Y 1 U.2.1) (Ma.ut t b X 1 U.2.2.1) (Ma.ut t b Y 1 U.2.2.2) (Ma.ut t b X 1 V.1) (Ma.ut t b Y 1 V.2.1) (Ma.ut t b X 1 V.2.2.1) (Ma.ut t b Y 1 V.2.2.2) = .non ∨
    ∃ x y, meetD (Ma.ut t b X 1 U.1) (Ma.ut t b Y 1 U.2.1) (Ma.ut t b X 1 U.2.2.1) (Ma.ut t b Y 1 U.2.2.2) (Ma.ut t b X 1 V.1) (Ma.ut t b Y 1 V.2.1) (Ma.ut t b X 1 V.2.2.1) (Ma.ut t b Y 1 V.2.2.2) = .tup [.str "spot", Ma.spt (Ma.ut t b X 1 x) (Ma.ut t b Y 1 y)] ∧ EndOf U x y ∧ EndOf V x y := by
  have s1 := sgn_sd (X := X) (Y := Y) ht hb U V.1 V.2.1
  have s2 := sgn_sd (X := X) (Y := Y) ht hb U V.2.2.1 V.2.2.2
  have s3 := sgn_sd (X := X) (Y := Y) ht hb V U.1 U.2.1
  have s4 := sgn_sd (X := X) (Y := Y) ht hb V U.2.2.1 U.2.2.2
  unfold meetD
  rw [s1, s2, s3, s4]
  by_cases z : Int.sign (sd U V.1 V.2.1) = 0 ∧ Int.sign (sd U V.2.2.1 V.2.2.2) = 0
  · rw [if_pos z]
    have la0 := line_apart HU.lt HV.lt F (sign0.mp z.1) (sign0.mp z.2)
    have k1 := dec_la (X := X) (Y := Y) (p := V.1) (q := V.2.1) (e := U.1) (f := U.2.1) ht hb HV.b HU.b
    have k2 := dec_la (X := X) (Y := Y) (p := U.2.2.1) (q := U.2.2.2) (e := V.2.2.1) (f := V.2.2.2) ht hb HU.d HV.d
    have lu : la U.1 U.2.1 < la U.2.2.1 U.2.2.2 := HU.lt
    have lv : la V.1 V.2.1 < la V.2.2.1 V.2.2.2 := HV.lt
    have la0 : ¬ max (la U.1 U.2.1) (la V.1 V.2.1) < min (la U.2.2.1 U.2.2.2) (la V.2.2.1 V.2.2.2) := la0
    have fin : ∀ {p q e f : Int}, (0 ≤ q ∧ q ≤ 20) → (0 ≤ f ∧ f ≤ 20) → ¬ la p q < la e f → (la p q = la e f → EndOf U p q ∧ EndOf V p q) →
        (if Ma.ah (Ma.ut t b X 1 p) (Ma.ut t b Y 1 q) (Ma.ut t b X 1 e) (Ma.ut t b Y 1 f) then D.tup [.str "stretch", Ma.wll (Ma.ut t b X 1 p) (Ma.ut t b Y 1 q) (Ma.ut t b X 1 e) (Ma.ut t b Y 1 f)] else if Ma.ah (Ma.ut t b X 1 e) (Ma.ut t b Y 1 f) (Ma.ut t b X 1 p) (Ma.ut t b Y 1 q) then D.non else D.tup [.str "spot", Ma.spt (Ma.ut t b X 1 p) (Ma.ut t b Y 1 q)]) = .non ∨
        ∃ x y, (if Ma.ah (Ma.ut t b X 1 p) (Ma.ut t b Y 1 q) (Ma.ut t b X 1 e) (Ma.ut t b Y 1 f) then D.tup [.str "stretch", Ma.wll (Ma.ut t b X 1 p) (Ma.ut t b Y 1 q) (Ma.ut t b X 1 e) (Ma.ut t b Y 1 f)] else if Ma.ah (Ma.ut t b X 1 e) (Ma.ut t b Y 1 f) (Ma.ut t b X 1 p) (Ma.ut t b Y 1 q) then D.non else D.tup [.str "spot", Ma.spt (Ma.ut t b X 1 p) (Ma.ut t b Y 1 q)]) = .tup [.str "spot", Ma.spt (Ma.ut t b X 1 x) (Ma.ut t b Y 1 y)] ∧ EndOf U x y ∧ EndOf V x y := fun {p q e f} hq hf h1 h2 => by
      have j1 := dec_la (X := X) (Y := Y) (p := p) (q := q) (e := e) (f := f) ht hb hq hf
      have j2 := dec_la (X := X) (Y := Y) (p := e) (q := f) (e := p) (f := q) ht hb hf hq
      rw [if_neg (fun y => h1 (j1.mp y))]
      by_cases y : la e f < la p q
      · rw [if_pos (j2.mpr y)]; exact .inl rfl
      · rw [if_neg (fun z => y (j2.mp z))]
        exact .inr ⟨p, q, rfl, h2 (by omega)⟩
    unfold inlD
    dsimp only
    by_cases y1 : la V.1 V.2.1 < la U.1 U.2.1
    · rw [if_pos (k1.mpr y1)]
      by_cases y2 : la U.2.2.1 U.2.2.2 < la V.2.2.1 V.2.2.2
      · rw [if_pos (k2.mpr y2)]
        exact fin HU.b HU.d (by omega) (fun q => by omega)
      · rw [if_neg (fun q => y2 (k2.mp q))]
        exact fin HU.b HV.d (by omega) (fun q => ⟨.inl ⟨rfl, rfl⟩, end_of_la HV HU.b (.inr q)⟩)
    · rw [if_neg (fun q => y1 (k1.mp q))]
      by_cases y2 : la U.2.2.1 U.2.2.2 < la V.2.2.1 V.2.2.2
      · rw [if_pos (k2.mpr y2)]
        exact fin HV.b HU.d (by omega) (fun q => ⟨end_of_la HU HV.b (.inr q), .inl ⟨rfl, rfl⟩⟩)
      · rw [if_neg (fun q => y2 (k2.mp q))]
        exact fin HV.b HV.d (by omega) (fun q => by omega)
  · rw [if_neg z]
    by_cases n : 0 < Int.sign (sd U V.1 V.2.1) * Int.sign (sd U V.2.2.1 V.2.2.2) ∨ 0 < Int.sign (sd V U.1 U.2.1) * Int.sign (sd V U.2.2.1 U.2.2.2)
    · rw [if_pos n]; exact .inl rfl
    · rw [if_neg n]
      have m := meet_signs HU.lt HV.lt F (fun q => z ⟨sign0.mpr q.1, sign0.mpr q.2⟩) (fun q => n (.inl q)) (fun q => n (.inr q))
      have e1 := cr_ut (t := t) (X := X) (Y := Y) (p := U.1) (q := U.2.1) (r := U.2.2.1) (s := U.2.2.2) (e := V.1) (f := V.2.1) hb
      have e2 := cr_ut (t := t) (X := X) (Y := Y) (p := U.1) (q := U.2.1) (r := U.2.2.1) (s := U.2.2.2) (e := V.2.2.1) (f := V.2.2.2) hb
      have e1 : _ = _ * ((sd1 U V : Int) : Rat) := e1
      have e2 : _ = _ * ((sd2 U V : Int) : Rat) := e2
      have kpos : (0 : Rat) < (t : Rat) / b := by rw [Rat.div_def]; exact Rat.mul_pos (Ma.pos_int ht) (Rat.inv_pos.mpr (Ma.pos_int hb))
      rcases m with ⟨a0, hend⟩ | ⟨b0, a1, hend⟩
      · have c0 : Ma.cr (Ma.ut t b X 1 U.1) (Ma.ut t b Y 1 U.2.1) (Ma.ut t b X 1 U.2.2.1) (Ma.ut t b Y 1 U.2.2.2) (Ma.ut t b X 1 V.1) (Ma.ut t b Y 1 V.2.1) = 0 := by
          rw [e1, a0]; exact Rat.mul_zero _
        rw [c0, Rat.div_def, Rat.zero_mul, btw_zero, btw_zero]
        exact .inr ⟨V.1, V.2.1, rfl, end_of_la HU HV.b hend, .inl ⟨rfl, rfl⟩⟩
      · have c2 : Ma.cr (Ma.ut t b X 1 U.1) (Ma.ut t b Y 1 U.2.1) (Ma.ut t b X 1 U.2.2.1) (Ma.ut t b Y 1 U.2.2.2) (Ma.ut t b X 1 V.2.2.1) (Ma.ut t b Y 1 V.2.2.2) = 0 := by
          rw [e2, b0]; exact Rat.mul_zero _
        have c1 : Ma.cr (Ma.ut t b X 1 U.1) (Ma.ut t b Y 1 U.2.1) (Ma.ut t b X 1 U.2.2.1) (Ma.ut t b Y 1 U.2.2.2) (Ma.ut t b X 1 V.1) (Ma.ut t b Y 1 V.2.1) ≠ 0 := by
          rw [e1]
          exact fun q => a1 ((mul_zero_iff (Rat.mul_pos kpos kpos) _).mp q)
        rw [c2]
        generalize Ma.cr (Ma.ut t b X 1 U.1) (Ma.ut t b Y 1 U.2.1) (Ma.ut t b X 1 U.2.2.1) (Ma.ut t b Y 1 U.2.2.2) (Ma.ut t b X 1 V.1) (Ma.ut t b Y 1 V.2.1) = c at c1 ⊢
        have sh : c / (c - 0) = 1 := by
          rw [Rat.sub_eq_add_neg, Rat.neg_zero, Rat.add_zero, Rat.div_def]; exact Rat.mul_inv_cancel c c1
        rw [sh, btw_one, btw_one]
        exact .inr ⟨V.2.2.1, V.2.2.2, rfl, end_of_la HU HV.d hend, .inr ⟨rfl, rfl⟩⟩
end SD
set_option Elab.async false
set_option linter.all false
set_option maxRecDepth 100000
namespace SD
open PySem PySem.Spec PyProof.Rows L2
section
variable {X : Cx}
theorem de_globI {x : Str} {i : Int} {pos : Pos} (hg : Gl X x) (hm : ∃ t, X.mg x = some (.int i t)) (hd : (x == ("__debug__" : Str)) = false := by decide) : DE X (.Name x pos) (tCD (.int i)) := by
  obtain ⟨t, hm⟩ := hm
  exact dc (pe_glob (v := .int i) hg hm ⟨t, rfl⟩ hd) fun _ => by rw [Rep]
theorem globI {K : PySem.W.Frag} {mg : Str → Option Value} {h : Heap} {x : Str} {i : Int} {t : Tok} (X : K.In h) (G : h.Ns mainGlobals mg) (a : PySem.W.nsIn K mainGlobals x = some (some (.int i t))) : ∃ t, mg x = some (.int i t) := ⟨t, PySem.W.mg_of X G a⟩
noncomputable def tRevD (to : TD) : TD := fun δ M Q => to δ M fun x M1 => ∃ l xs, x = .ref l ∧ M1 l = some (.lst xs) ∧ Q .non (updM M1 l (.lst xs.reverse))
variable {o : Expr} {to : TD} {apos cpos : Pos}
end
end SD
set_option Elab.async false
set_option linter.all false
set_option maxRecDepth 100000
namespace SD
open PySem PySem.Spec PyProof.Rows L2
noncomputable def two (elt t1 i1 t2 i2 : Expr) (scope : Scope) (pos : Pos) : Expr := .ListComp elt [⟨t1, i1, [], 0⟩, ⟨t2, i2, [], 0⟩] scope pos
theorem turn0 (elt t1 i1 t2 i2 : Expr) (scope : Scope) (pos : Pos) (it acc : Value) (env : Env) : compTurn (two elt t1 i1 t2 i2 scope pos) 0 it acc env = (do
    standAt i1.pos
    match ← pyNext it with
    | none => pure (.done .next)
    | some v =>
      letOwnedTupleGo t1 it v
      assign t1 env v
      let x ← eval i2 env
      standAt i2.pos
      let x ← foldedSetIterable i2 env x
      let _ ← runOwn (.compStart (two elt t1 i1 t2 i2 scope pos) 1 (← holding [x] (pyIter x)) acc env) env
      again (.compLoop (two elt t1 i1 t2 i2 scope pos) 0 it acc env)) := by rfl
theorem turn1 (elt t1 i1 t2 i2 : Expr) (scope : Scope) (pos : Pos) (it acc : Value) (env : Env) : compTurn (two elt t1 i1 t2 i2 scope pos) 1 it acc env = (do
    standAt i2.pos
    match ← pyNext it with
    | none => pure (.done .next)
    | some v =>
      letOwnedTupleGo t2 it v
      assign t2 env v
      (do let _ ← call (.builtin "list.append") [acc, ← eval elt env])
      again (.compLoop (two elt t1 i1 t2 i2 scope pos) 1 it acc env)) := by rfl
section
variable {prog : Program} {w : World} {A : Around} {R : Result → Shared → Prop} {s : Shared} {elt t1 i1 t2 i2 : Expr} {scope : Scope} {pos : Pos} {it acc : Value} {env : Env}
theorem start1 (h0 : codeAny (model prog w) A (.compLoop (two elt t1 i1 t2 i2 scope pos) 1 it acc env) R s)
    (h : wpAny (model prog w) A (pyIter it) (fun it' s' => codeAny (model prog w) A (.compLoop (two elt t1 i1 t2 i2 scope pos) 1 it' acc env) R s') (notedBy (model prog w) A env fun x s' => R (.error x) s') s) :
    codeAny (model prog w) A (.compStart (two elt t1 i1 t2 i2 scope pos) 1 it acc env) R s := by
  refine codeAny_of_tree ?_
  show wpAny _ _ ((compStart (two elt t1 i1 t2 i2 scope pos) 1 it acc env).onRaise (fun x => do noteFrame x env; standAt theWindowsPlace)) _ _ s
  refine wpAny_notedAt ?_
  unfold compStart
  show wpAny _ _ (ask >>= _) _ _ s
  refine wpAny_bind (wpAny_askSetting (wpAny_ite ?_))
  split
  · first
      | exact wpAny_bind (wpAny_pure (wpAny_pure (And.intro rfl h0)))
      | exact wpAny_pure (And.intro rfl h0)
  · refine wpAny_bind (wpAny_rule ?_)
    show wpAny _ _ (standAt i2.pos >>= _) _ _ s
    exact wpAny_bind (wpAny_standAt (wpAny_bind (wpAny_mono h (fun it' s' h' => wpAny_pure (And.intro rfl h')) fun _ _ x => x)))
theorem loop1 (J : Nat → Shared → Prop)
    (step : ∀ n s, J n s → wpAny (model prog w) A (pyNext it) (fun r s1 => match r with
      | none => R (.ok .next) s1
      | some v => wpAny (model prog w) A (letOwnedTupleGo t2 it v) (fun _ s2 => wpAny (model prog w) A (assign t2 env v) (fun _ s3 =>
          wpAny (model prog w) A (eval elt env) (fun x s5 => wpAny (model prog w) A (call (.builtin "list.append") [acc, x]) (fun _ s6 => ∃ m, m < n ∧ J m s6) NoE s5) NoE s3) NoE s2) NoE s1) NoE s)
    (n : Nat) (h : J n s) : codeAny (model prog w) A (.compLoop (two elt t1 i1 t2 i2 scope pos) 1 it acc env) R s := by
  have no : ∀ {E : Value → Shared → Prop} e s', NoE e s' → E e s' := fun _ _ z => z.elim
  refine codeAny_loop rfl J (fun n s hJ => ?_) n h
  show wpAny _ _ (Sem.onRaise (compTurn (two elt t1 i1 t2 i2 scope pos) 1 it acc env) (fun x => do noteFrame x env; theTreesLotGoes x)) _ _ s
  refine wpAny_noted ?_
  rw [turn1]
  refine wpAny_bind (wpAny_standAt (wpAny_bind (wpAny_mono (step n s hJ) (fun r s1 h1 => ?_) no)))
  cases r with
  | none => exact wpAny_pure h1
  | some v =>
    refine wpAny_bind (wpAny_mono h1 (fun _ s2 h2 => wpAny_bind (wpAny_mono h2 (fun _ s3 h3 => ?_) no)) no)
    exact wpAny_bind (wpAny_bind (wpAny_mono h3 (fun x s5 h5 => wpAny_bind (wpAny_mono h5 (fun _ s6 h6 => wpAny_pure (wpAny_pure ⟨rfl, h6⟩)) no)) no))
theorem loop0 (J : Nat → Shared → Prop) (hfs : ∀ x, foldedSetIterable i2 env x = pure x)
    (step : ∀ n s, J n s → wpAny (model prog w) A (pyNext it) (fun r s1 => match r with
      | none => R (.ok .next) s1
      | some v => wpAny (model prog w) A (letOwnedTupleGo t1 it v) (fun _ s2 => wpAny (model prog w) A (assign t1 env v) (fun _ s3 =>
          wpAny (model prog w) A (eval i2 env) (fun x s4 => wpAny (model prog w) A (pyIter x) (fun it2 s5 => codeAny (model prog w) A (.compStart (two elt t1 i1 t2 i2 scope pos) 1 it2 acc env) (fun r s6 => match r with
            | .ok _ => ∃ m, m < n ∧ J m s6
            | .error e => False) s5) NoE s4) NoE s3) NoE s2) NoE s1) NoE s)
    (n : Nat) (h : J n s) : codeAny (model prog w) A (.compLoop (two elt t1 i1 t2 i2 scope pos) 0 it acc env) R s := by
  have no : ∀ {E : Value → Shared → Prop} e s', NoE e s' → E e s' := fun _ _ z => z.elim
  refine codeAny_loop rfl J (fun n s hJ => ?_) n h
  show wpAny _ _ (Sem.onRaise (compTurn (two elt t1 i1 t2 i2 scope pos) 0 it acc env) (fun x => do noteFrame x env; theTreesLotGoes x)) _ _ s
  refine wpAny_noted ?_
  rw [turn0]
  refine wpAny_bind (wpAny_standAt (wpAny_bind (wpAny_mono (step n s hJ) (fun r s1 h1 => ?_) no)))
  cases r with
  | none => exact wpAny_pure h1
  | some v =>
    refine wpAny_bind (wpAny_mono h1 (fun _ s2 h2 => wpAny_bind (wpAny_mono h2 (fun _ s3 h3 => wpAny_bind (wpAny_mono h3 (fun x s4 h4 => ?_) no)) no)) no)
    refine wpAny_bind (wpAny_standAt ?_)
    rw [hfs]
    refine wpAny_bind (wpAny_pure ?_)
    refine wpAny_bind (wpAny_holding (wpAny_mono h4 (fun it2 s5 h5 => ?_) no))
    refine wpAny_bind (wpAny_runOwn (codeAny_mono h5 (fun r s6 h6 => ?_)))
    cases r with
    | ok f => exact wpAny_pure ⟨rfl, h6⟩
    | error e => exact h6.elim
end
noncomputable def wTwo (js : List Nat) (wi2 : TI) (te : TE) (σ : L2.St) (J : It) (H1 : Hp) (Q : VK) : Prop := ∀ D, H1 D = none → ∃ W : Nat → Nat → Hp → Prop, (∃ m, W 0 m (upd H1 D (.lst []))) ∧ ∀ i m H, W i m H →
  (J.stop i H ∧ Q (.ref D) H) ∨ (J.go i H ∧ ∀ y H', J.yld i H y H' → ∀ o, wi2 (cσ [some y, o] js σ) H' fun J2 H2 => ∃ U : Nat → Nat → Hp → Prop, (∃ n, U 0 n H2) ∧ ∀ j n H3, U j n H3 →
    (J2.stop j H3 ∧ ∃ m', m' < m ∧ W (i + 1) m' H3) ∨ (J2.go j H3 ∧ ∀ z H4, J2.yld j H3 z H4 → te (cσ [some y, some z] js σ) H4 fun v H5 => ∃ xs, H5 D = some (.lst xs) ∧ xs.length < sizeLine ∧ ∃ n', n' < n ∧ U (j + 1) n' (upd H5 D (.lst (xs ++ [v])))))
noncomputable def tTwoL (js : List Nat) (wi wi2 : TI) (te : TE) : TE := fun σ H Q => wi σ H fun J H1 => wTwo js wi2 te σ J H1 Q
section
variable {X : Cx} {x y : Str} {px py pos : Pos} {js : List Nat} {scope : Scope} {elt i1 i2 : Expr} {te : TE} {wi wi2 : TI} {pins : List (Addr × Obj)} {σ : L2.St} {H : Hp} {s : Shared} {fp : List Addr} {it : Addr} {tn : Nat → Heap → Prop} {J : It}
theorem two_run (c : CScope X [x, y] js scope) (hc : X.calm = true) (hi2 : ∀ C s H fp, PI (cxC X [x, y] js scope C s H fp) (.Name y py) i2 wi2) (hfs : ∀ (env : Env) x, foldedSetIterable i2 env x = pure x) (he : ∀ C s H fp, PE (cxC X [x, y] js scope C s H fp) elt te)
    {R : Value → Addr → Result → Shared → Prop} {E : Value → Shared → Prop} {Q : VK}
    (I : Inv X pins σ H s) (T : Turn X.prog X.w X.K (.Name x px) J fp it tn) (st : tn 0 s.heap) (hf : ∀ b ∈ fp, FpOk X pins H b) (wc : wTwo js wi2 te σ J H Q)
    (hR : ∀ D C H' s', Inv X pins σ H' s' → FpOk X pins H' C → (∃ m, s'.heap.Ns C m) → Q (.ref D) H' → R (.ref D) C (.ok .next) s') :
    wpAny (model X.prog X.w) X.A (newList []) (fun acc s₃ => wpAny (model X.prog X.w) X.A (newFunctionEnv scope X.env.globals (clOf scope.names X.env) [] X.env.qual none .none (some X.env)) (fun cenv s₄ =>
      codeAny (model X.prog X.w) X.A (.compStart (two elt (.Name x px) i1 (.Name y py) i2 scope pos) 0 (.ref it) acc { cenv with scope := relabel scope X.env }) (R acc cenv.locals) s₄) E s₃) E s := by
  have hg1 : ∀ C s H fp, PG (cxC X [x, y] js scope C s H fp) (.Name x px) (gName 0) := fun _ _ _ _ => pg_own c 0 rfl
  have hg2 : ∀ C s H fp, PG (cxC X [x, y] js scope C s H fp) (.Name y py) (gName 1) := fun _ _ _ _ => pg_own c 1 rfl
  have hfp : ∀ b ∈ fp, b < s.heap.objs.size := fun b hb => let ⟨o, e, _⟩ := T.obj 0 _ st b hb; Heap.lt_size e
  have hD : H s.heap.objs.size = none := I.hok.fresh (Nat.le_refl _)
  refine wpAny_newObj_type (new_env ?_)
  generalize hh : s.heap.push { cls := .type "list", dict := none, data := .seq ([] : List Value).toArray } = h3
  generalize hh1 : pushCells (({ s with heap := h3 } : Shared).heap.push { cls := .type "dict", data := .dict #[] }) scope.names = h₁
  have k3 : ∀ b o, s.heap.get? b = some o → h3.get? b = some o := fun b o e => by rw [← hh]; exact Heap.get?_push_of_some _ e
  have I3 : Inv X pins σ (upd H s.heap.objs.size (.lst [])) { s with heap := h3 } := by
    refine I.laid (t' := s.toks) k3 (Nat.le_refl _) ?_
    refine ⟨Nat.zero_le _, [], 0, .nil, ?_⟩
    rw [← hh]
    exact Heap.get?_push_size _ rfl
  have hf3 : ∀ b ∈ fp, FpOk X pins (upd H s.heap.objs.size (.lst [])) b := fun b hb => ⟨by rw [upd_ne (Nat.ne_of_lt (hfp b hb))]; exact (hf b hb).1, (hf b hb).2⟩
  have hsz : h3.objs.size = s.heap.objs.size + 1 := by rw [← hh, Heap.size_push]
  have hfp3 : ∀ b ∈ fp, b < h3.objs.size := fun b hb => by rw [hsz]; exact Nat.lt_succ_of_lt (hfp b hb)
  have k4 : ∀ b o, h3.get? b = some o → h₁.get? b = some o := fun b o e => by rw [← hh1]; exact pushCells_keeps _ _ b o (Heap.get?_push_of_some _ e)
  have I4 := inv_comp c I3 hf3 hfp3 (h' := h₁) hh1.symm k4
  obtain ⟨W, ⟨m0, w0⟩, turn⟩ := wc _ hD
  have st4 : tn 0 h₁ := T.keep 0 _ _ st fun b hb o e => k4 b o (k3 b o e)
  generalize hX : cxC X [x, y] js scope h3.objs.size { s with heap := h3 } (upd H s.heap.objs.size (.lst [])) fp = X' at I4
  have fok : ∀ {pins' : List (Addr × Obj)} {H' : Hp} {σ' : L2.St} {s' : Shared}, Inv X' [] σ' H' s' → (∀ b ∈ fp, H' b = none) → ∀ b ∈ fp, FpOk X' [] H' b := fun {pins' H' σ' s'} J' hn b hb => by
    subst hX
    obtain ⟨a1, a2⟩ := J'.ok.exf b hb
    exact ⟨hn b hb, a1, J'.ok.exfs b hb, .inl hb, a2, fun p hp => absurd (show p ∈ ([] : List (Addr × Obj)) from hp) (by simp)⟩
  have loop : codeAny (model X.prog X.w) X.A (.compLoop (two elt (.Name x px) i1 (.Name y py) i2 scope pos) 0 (.ref it) (.ref s.heap.objs.size) (cEnv scope h3.objs.size X.env)) (R (.ref s.heap.objs.size) h3.objs.size)
      { s with heap := h₁ } := by
    refine loop0 (fun n s' => ∃ i os H', os.length = 2 ∧ Inv X' [] (cσ os js σ) H' s' ∧ tn i s'.heap ∧ (∀ b ∈ fp, H' b = none) ∧ W i n H') (fun x => hfs _ x) ?_ m0 ⟨0, _, _, by simp, I4, st4, fun b hb => (hf3 b hb).1, w0⟩
    rintro n s5 ⟨i, os, H5, hl5, I5, st5, fr5, w5⟩
    rcases turn i n H5 w5 with ⟨stop, q⟩ | ⟨go, step⟩
    · subst hX
      refine wpAny_mono (T.done (cxC X [x, y] js scope h3.objs.size { s with heap := h3 } (upd H s.heap.objs.size (.lst [])) fp) rfl rfl rfl hc i [] s5 _ H5 NoE I5 (fok (pins' := []) I5 fr5) st5 stop) (fun r s6 z6 => ?_) fun _ _ z => z
      obtain ⟨hr, I6⟩ := z6
      subst hr
      refine hR _ _ H5 s6 (I3.call' I6.os I6.base I6.hok I6.bare fun b hb => ⟨(hf3 b hb).2.2.2.1, (hf3 b hb).2.1, (hf3 b hb).2.2.2.2.1, (hf3 b hb).2.2.2.2.2⟩) (I3.fpOk (Nat.le_refl _) I6.free) (let ⟨m, hm, _⟩ := I6.loc; ⟨m, hm⟩) q
    · subst hX
      refine wpAny_mono (T.item (cxC X [x, y] js scope h3.objs.size { s with heap := h3 } (upd H s.heap.objs.size (.lst [])) fp) rfl rfl rfl hc i [] s5 _ H5 NoE I5 (fok (pins' := []) I5 fr5) st5 go) (fun r s6 z6 => ?_) fun _ _ z => z
      obtain ⟨u, hr, h6⟩ := z6
      subst hr
      refine wpAny_mono h6 (fun _ s7 z7 => ?_) fun _ _ z => z
      obtain ⟨yv, H7, I7, r7, y7, st7, fr7⟩ := z7
      have I7' := I7.pinned (fok (pins' := []) I7 fr7) (T.obj _ _ st7)
      obtain ⟨o0, o1, rfl⟩ : ∃ o0 o1, os = [o0, o1] := by
        exact ln_2 hl5
      refine wpAny_mono (hg1 _ _ _ _ _ s7 _ H7 yv u (fun σ' H' => σ' = cσ [some yv, o1] js σ ∧ H' = H7) I7' r7 ⟨rfl, rfl⟩) (fun _ s8 zz69_0 => ?_) fun _ _ z => z
      obtain ⟨σ8, H8, I8, e8, e8'⟩ := zz69_0
      subst e8 e8'
      have back : ∀ {m' : Nat} {o2 : Option V} {H10 : Hp} {s10 : Shared}, Inv (cxC X [x, y] js scope h3.objs.size { s with heap := h3 } (upd H s.heap.objs.size (.lst [])) fp) ([] ++ pinsAt fp s7.heap) (cσ [some yv, o2] js σ) H10 s10 → m' < n → W (i + 1) m' H10 →
          ∃ m, m < n ∧ ∃ i os H', os.length = 2 ∧ Inv (cxC X [x, y] js scope h3.objs.size { s with heap := h3 } (upd H s.heap.objs.size (.lst [])) fp) [] (cσ os js σ) H' s10 ∧ tn i s10.heap ∧ (∀ b ∈ fp, H' b = none) ∧ W i m H' := fun {m' o2 H10 s10} I10 hm' w10 => by
        refine ⟨m', hm', i + 1, _, H10, rfl, I10.unpinned, T.keep _ _ _ st7 fun b hb o e => (I10.pin (b, o) (List.mem_append_right _ (List.mem_append_right _ (mem_pinsAt hb e)))).1, fun b hb => ?_, w10⟩
        obtain ⟨o', e, d⟩ := T.obj _ _ st7 b hb
        exact (I10.pin (b, o') (List.mem_append_right _ (List.mem_append_right _ (mem_pinsAt hb e)))).2.1
      refine wpAny_mono (hi2 _ _ _ _ _ s8 _ _ _ I8 (step yv H8 y7 o1)) (fun v2 s9 h9 => wpAny_mono h9 (fun itv s10 z10 => ?_) fun _ _ z => z) fun _ _ z => z
      obtain ⟨it2, fp2, tn2, J2, H10, e10, I10, T2, st10, f10, U, ⟨n0, u0⟩, turn2⟩ := z10
      subst e10
      have loop2 : codeAny (model X.prog X.w) X.A (.compLoop (two elt (.Name x px) i1 (.Name y py) i2 scope pos) 1 (.ref it2) (.ref s.heap.objs.size) (cEnv scope h3.objs.size X.env)) (fun r s6 => match r with
            | .ok _ => ∃ m, m < n ∧ ∃ i os H', os.length = 2 ∧ Inv (cxC X [x, y] js scope h3.objs.size { s with heap := h3 } (upd H s.heap.objs.size (.lst [])) fp) [] (cσ os js σ) H' s6 ∧ tn i s6.heap ∧ (∀ b ∈ fp, H' b = none) ∧ W i m H'
            | .error e => False) s10 := by
        refine loop1 (fun n2 s' => ∃ j o2 H', Inv (cxC X [x, y] js scope h3.objs.size { s with heap := h3 } (upd H s.heap.objs.size (.lst [])) fp) ([] ++ pinsAt fp s7.heap) (cσ [some yv, o2] js σ) H' s' ∧ tn2 j s'.heap ∧ (∀ b ∈ fp2, H' b = none) ∧ U j n2 H') ?_ n0 ⟨0, o1, H10, I10, st10, fun b hb => (f10 b hb).1, u0⟩
        rintro n2 s11 ⟨j, o2, H11, I11, st11, fr11, u11⟩
        rcases turn2 j n2 H11 u11 with ⟨stop2, m', hm', w'⟩ | ⟨go2, step2⟩
        · refine wpAny_mono (T2.done (cxC X [x, y] js scope h3.objs.size { s with heap := h3 } (upd H s.heap.objs.size (.lst [])) fp) rfl rfl rfl hc j _ s11 _ H11 NoE I11 (fun b hb => ⟨fr11 b hb, (f10 b hb).2⟩) st11 stop2) (fun r s12 zz70_0 => ?_) fun _ _ z => z
          obtain ⟨hr, I12⟩ := zz70_0
          subst hr
          exact back I12 hm' w'
        · refine wpAny_mono (T2.item (cxC X [x, y] js scope h3.objs.size { s with heap := h3 } (upd H s.heap.objs.size (.lst [])) fp) rfl rfl rfl hc j _ s11 _ H11 NoE I11 (fun b hb => ⟨fr11 b hb, (f10 b hb).2⟩) st11 go2) (fun r s12 zz71_0 => ?_) fun _ _ z => z
          obtain ⟨u2, hr, h12⟩ := zz71_0
          subst hr
          refine wpAny_mono h12 (fun _ s13 zz72_0 => ?_) fun _ _ z => z
          obtain ⟨zv, H13, I13, r13, y13, st13, fr13⟩ := zz72_0
          have I13' := I13.pinned (fun b hb => ⟨fr13 b hb, (f10 b hb).2⟩) (T2.obj _ _ st13)
          refine wpAny_mono (hg2 _ _ _ _ _ s13 _ H13 zv u2 (fun σ' H' => σ' = cσ [some yv, some zv] js σ ∧ H' = H13) I13' r13 ⟨rfl, rfl⟩) (fun _ s14 zz73_0 => ?_) fun _ _ z => z
          obtain ⟨σ14, H14, I14, e14, e14'⟩ := zz73_0
          subst e14 e14'
          refine wpAny_mono (he _ _ _ _ _ s14 _ _ _ I14 (step2 zv H14 y13)) (fun v s15 zz74_0 => ?_) fun _ _ z => z
          obtain ⟨vv, H15, I15, r15, ys, hd15, hl15, q15⟩ := zz74_0
          refine wpAny_mono (mt_append (X := (cxC X [x, y] js scope h3.objs.size { s with heap := h3 } (upd H s.heap.objs.size (.lst [])) fp)) _ s15 _ H15 (.ref s.heap.objs.size) [vv] (.ref s.heap.objs.size) [v] (fun _ H' => ∃ n', n' < n2 ∧ U (j + 1) n' H') I15 rfl (.cons r15 .nil) ⟨_, ys, vv, rfl, rfl, hd15, hl15, q15⟩) (fun _ s16 zz75_0 => ?_) fun _ _ z => z
          obtain ⟨_, H16, I16, _, n', hn', w16⟩ := zz75_0
          refine ⟨n', hn', j + 1, _, H16, I16.unpinned, T2.keep _ _ _ st13 fun b hb o e => (I16.pin (b, o) (List.mem_append_right _ (List.mem_append_right _ (mem_pinsAt hb e)))).1, fun b hb => ?_, w16⟩
          obtain ⟨o', e, d⟩ := T2.obj _ _ st13 b hb
          exact (I16.pin (b, o') (List.mem_append_right _ (List.mem_append_right _ (mem_pinsAt hb e)))).2.1
      exact start1 loop2 (T2.self X.A 0 _ _ _ st10 loop2)
  exact codeAny_compStart_list loop (T.self X.A 0 _ _ _ st4 loop)
theorem pe_two (c : CScope X [x, y] js scope) (hc : X.calm = true) (hi : PI X (.Name x px) i1 wi) (hi2 : ∀ C s H fp, PI (cxC X [x, y] js scope C s H fp) (.Name y py) i2 wi2) (he : ∀ C s H fp, PE (cxC X [x, y] js scope C s H fp) elt te)
    (hs : ∀ x, foldedSetIterable i1 X.env x = pure x := by intro _; rfl) (hfs : ∀ (env : Env) x, foldedSetIterable i2 env x = pure x := by intro _ _; rfl) :
    PE X (two elt (.Name x px) i1 (.Name y py) i2 scope pos) (tTwoL js wi wi2 te) := by
  intro pins s σ H Q I h
  unfold two
  rw [eval_ListComp]
  refine wpAny_comprehension_free (use := none) rfl hs (c.clos I.ok) c.kind c.names (thn (hi pins s σ H _ I h) fun v s1 h1 => thn h1 fun itv s2 zz76_0 => ?_)
  obtain ⟨it, fp, tn, J, H2, e, I2, T, st, f2, w⟩ := zz76_0
  subst e
  refine two_run (R := fun acc C => compPost (model X.prog X.w) X.A X.xe none (EP X pins σ Q) acc C) c hc hi2 hfs he I2 T st f2 w fun D C H' s' I' fC zz77_0 q => ?_
  obtain ⟨m, hm⟩ := zz77_0
  exact ⟨m, hm, fun h' hsb => ⟨.ref D, H', I'.turned (t' := s'.toks) (fun b o ne e => hsb.extBut b o ne e) fC.1 fC.2.1 fC.2.2.2.1 fC.2.2.2.2.1 fC.2.2.2.2.2, rfl, q⟩⟩
end
noncomputable def kTwo (I : ItD) (js : List Nat) (wd2 : TID) (te : TD) (δ : DS) (M1 : MH) (Q : DK) : Prop := I.n ≤ 1000 ∧ ∀ p, M1 p = none → ∃ W : Nat → List D → MH → Prop, W 0 [] (updM M1 p (.lst [])) ∧ (∀ i ys M, i ≤ I.n → W i ys M → I.C M) ∧
  (∀ i ys d M, i < I.n → I.item i = some d → W i ys M → wd2 (cδ [some d, none] js δ) M fun I2 M2 => I2.n ≤ 1000 ∧ ∃ U : Nat → List D → MH → Prop, U 0 ys M2 ∧ (∀ j zs M, j ≤ I2.n → U j zs M → I2.C M) ∧
    (∀ j zs e M, j < I2.n → I2.item j = some e → U j zs M → te (cδ [some d, some e] js δ) M fun v M' => ∃ M3, Sub M3 M' ∧ M3 p = some (.lst zs) ∧ U (j + 1) (zs ++ [v]) (updM M3 p (.lst (zs ++ [v])))) ∧ ∀ zs M, U I2.n zs M → W (i + 1) zs M) ∧ ∀ ys M, W I.n ys M → Q (.ref p) M
noncomputable def tTwoD (wd : TID) (js : List Nat) (wd2 : TID) (te : TD) : TD := fun δ M Q => wd δ M fun I M1 => kTwo I js wd2 te δ M1 Q
theorem slots_half {K : PySem.W.Frag} {H : Hp} {d : D} {v : V} (o : Option V) (r : Rep K H d v) : Slots K H [some d, none] [some v, o] := by
  refine ⟨rfl, fun i e h => ?_⟩
  match i, h with
  | 0, h => cases h; exact ⟨v, rfl, r⟩
  | 1, h => cases h
theorem slots_full {K : PySem.W.Frag} {H : Hp} {d e : D} {v u : V} (r : Rep K H d v) (q : Rep K H e u) : Slots K H [some d, some e] [some v, some u] := slots_all (.cons r (.cons q .nil))
theorem two_lift {K : PySem.W.Frag} {wd wd2 : TID} {js : List Nat} {te : TD} {σ : L2.St} {H : Hp} {Q : VK} (h : lift K (tTwoD wd js wd2 te) σ H Q) : tTwoL js (liftI K wd) (liftI K wd2) (lift K te) σ H Q := by
  obtain ⟨δ, M, R, hs, hM, q, fin⟩ := h
  refine ⟨δ, M, _, hs, hM, q, fun I M1 H1 J g1 a1 kc io p hp => ?_⟩
  obtain ⟨hn, kc⟩ := kc
  obtain ⟨W, w0, hC, turn, done⟩ := kc p (a1.fresh hp)
  refine ⟨fun i m H2 => m = I.n - i ∧ i ≤ I.n ∧ Grow K H1 H2 ∧ ∃ ys M, ys.length ≤ i * 1000 ∧ Abs K H2 M ∧ W i ys M, ⟨I.n, by simp, Nat.zero_le _, .new hp, [], _, Nat.zero_le _, a1.newL hp .nil, w0⟩, ?_⟩
  rintro i m H2 ⟨rfl, hi, g2, ys, M2, hl, a2, w2⟩
  by_cases hin : i < I.n
  · refine .inr ⟨io.go i H2 M2 hin g2 a2 (hC _ _ _ hi w2), fun v H3 hy o => ?_⟩
    obtain ⟨g3, a3, d, ed, rd⟩ := io.yld i H2 M2 v H3 hin g2 a2 (hC _ _ _ hi w2) hy
    have q3 := turn i ys d M2 hin ed w2
    refine ⟨cδ [some d, none] js δ, M2, _, slots_c (js := js) (hs.mono ((g1.trans g2).trans g3)) (slots_half o rd), a3, q3, fun I2 M4 H4 J2 g4 a4 kc2 io2 => ?_⟩
    obtain ⟨hn2, U, u0, hC2, turn2, done2⟩ := kc2
    refine ⟨fun j n H5 => n = I2.n - j ∧ j ≤ I2.n ∧ Grow K H4 H5 ∧ ∃ zs M, zs.length ≤ i * 1000 + j ∧ Abs K H5 M ∧ U j zs M, ⟨I2.n, by simp, Nat.zero_le _, .refl, ys, M4, by omega, a4, u0⟩, ?_⟩
    rintro j n H5 ⟨rfl, hj, g5, zs, M5, hl5, a5, w5⟩
    by_cases hjn : j < I2.n
    · refine .inr ⟨io2.go j H5 M5 hjn g5 a5 (hC2 _ _ _ hj w5), fun u H6 hy6 => ?_⟩
      obtain ⟨g6, a6, e, ee, re⟩ := io2.yld j H5 M5 u H6 hjn g5 a5 (hC2 _ _ _ hj w5) hy6
      have s6 := slots_c (js := js) (hs.mono (((((g1.trans g2).trans g3).trans g4).trans g5).trans g6)) (slots_full (rd.mono ((g4.trans g5).trans g6)) re)
      refine ⟨cδ [some d, some e] js δ, M5, _, s6, a6, turn2 j zs e M5 hjn ee w5, fun vv M' uu H7 g7 r7 a7 zz78_0 => ?_⟩
      obtain ⟨M8, s8, e8, w8⟩ := zz78_0
      obtain ⟨ts, hx, rs⟩ := (a7.sub s8) _ _ e8
      refine ⟨ts, hx, ?_, I2.n - (j + 1), by omega, rfl, hjn, ((g5.trans g6).trans g7).trans (.lst hx), zs ++ [vv], _, by simp; omega, (a7.sub s8).setL hx (rs.append (.cons r7 .nil)), w8⟩
      rw [← rs.length]
      have sz : 1000000 ≤ sizeLine := Nat.le_of_ble_eq_true rfl
      omega
    · obtain rfl : j = I2.n := by omega
      exact .inl ⟨io2.stop H5 M5 g5 a5 (hC2 _ _ _ hj w5), I.n - (i + 1), by omega, rfl, hin, ((g2.trans g3).trans g4).trans g5, zs, M5, by omega, a5, done2 _ _ w5⟩
  · obtain rfl : i = I.n := by omega
    exact .inl ⟨io.stop H2 M2 g2 a2 (hC _ _ _ hi w2), fin _ _ _ _ (g1.trans g2) (by rw [Rep]) a2 (done ys M2 w2)⟩
section
variable {X : Cx} {x y : Str} {px py pos : Pos} {js : List Nat} {scope : Scope} {elt i1 i2 : Expr} {te : TD} {wd wd2 : TID}
theorem de_two (c : CScope X [x, y] js scope) (hc : X.calm = true) (hi : DI X (.Name x px) i1 wd) (hi2 : ∀ C s H fp, DI (cxC X [x, y] js scope C s H fp) (.Name y py) i2 wd2) (he : ∀ C s H fp, DE (cxC X [x, y] js scope C s H fp) elt te)
    (hs : ∀ x, foldedSetIterable i1 X.env x = pure x := by intro _; rfl) (hfs : ∀ (env : Env) x, foldedSetIterable i2 env x = pure x := by intro _ _; rfl) :
    DE X (.ListComp elt [⟨.Name x px, i1, [], 0⟩, ⟨.Name y py, i2, [], 0⟩] scope pos) (tTwoD wd js wd2 te) :=
  pe_imp (pe_two (te := lift X.K te) (wi2 := liftI X.K wd2) c hc hi hi2 he hs hfs) fun _ _ _ h => two_lift h
end
end SD
set_option Elab.async false
set_option linter.all false
set_option maxRecDepth 100000
namespace SD
open PySem PySem.Spec PyProof.Rows L2
noncomputable abbrev iT (i : Int) : Str := Str.ofString (toString i)
theorem log_bd {i : Int} (h : Bd 1900 i) : i.natAbs.log2 < 1920 := by
  by_cases z : i.natAbs = 0
  · rw [z]; decide
  · rw [Nat.log2_lt z]
    exact Nat.lt_of_lt_of_le h (Nat.pow_le_pow_right (by decide) (by decide))
theorem empty_app (x : Str) : Str.empty ++ x = x := by
  cases x with
  | mk c => show Str.mk (#[] ++ c) = _; simp
section
variable {X : Cx}
theorem pe_fmt {e : Expr} {te : TE} {p : Pos} (he : PE X e te) : PE X (.FormattedValue e (-1) none p) (fun σ H Q => te σ H fun v H1 => ∃ i : Int, v = .int i ∧ i.natAbs.log2 < 1920 ∧ Q (.str (iT i)) H1) := by
  intro pins s σ H Q I h
  refine wpAny_FormattedValue_plain (thn (he pins s σ H _ I h) fun v s1 zz79_0 => ?_)
  obtain ⟨x, H1, I1, r1, q1⟩ := zz79_0
  obtain ⟨i, rfl, hz, q⟩ := q1
  obtain ⟨t, rfl⟩ := r1
  exact wpAny_formatField_int hz ⟨.str _, H1, I1.tok _, ⟨_, rfl⟩, q⟩
theorem pe_j1 {a : Expr} {ta : TE} {p : Pos} (ha : PE X a ta) : PE X (.JoinedStr [a] p) ta := fun pins s σ H Q I h => wpAny_JoinedStr_one (ha pins s σ H Q I h)
theorem pe_j3 {a b c : Expr} {ta tb tc : TE} {p : Pos} (ha : PE X a ta) (hb : PE X b tb) (hc : PE X c tc) (he : evalEach [a, b, c] X.env = [eval a X.env, eval b X.env, eval c X.env] := by rfl) :
    PE X (.JoinedStr [a, b, c] p) (fun σ H Q => ta σ H fun x H1 => ∃ x', x = .str x' ∧ x'.length ≤ sizeLine ∧ tb σ H1 fun y H2 => ∃ y', y = .str y' ∧ (x' ++ y').length ≤ sizeLine ∧ tc σ H2 fun z H3 => ∃ z', z = .str z' ∧ (x' ++ y' ++ z').length ≤ sizeLine ∧ Q (.str (x' ++ y' ++ z')) H3) := by
  intro pins s σ H Q I h
  refine wpAny_JoinedStr ?_
  rw [he]
  refine thn (ha pins s σ H _ I h) fun v s1 zz80_0 => ?_
  obtain ⟨x, H1, I1, r1, q1⟩ := zz80_0
  obtain ⟨x', rfl, l1, q1⟩ := q1
  obtain ⟨t1, rfl⟩ := r1
  refine ⟨x', t1, rfl, by rw [empty_app]; exact l1, ?_⟩
  rw [empty_app]
  refine thn (hb pins s1 σ H1 _ I1 q1) fun v s2 zz81_0 => ?_
  obtain ⟨y, H2, I2, r2, q2⟩ := zz81_0
  obtain ⟨y', rfl, l2, q2⟩ := q2
  obtain ⟨t2, rfl⟩ := r2
  refine ⟨y', t2, rfl, l2, ?_⟩
  refine thn (hc pins s2 σ H2 _ I2 q2) fun v s3 zz82_0 => ?_
  obtain ⟨z, H3, I3, r3, q3⟩ := zz82_0
  obtain ⟨z', rfl, l3, q3⟩ := q3
  obtain ⟨t3, rfl⟩ := r3
  exact ⟨z', t3, rfl, l3, l3, .str _, H3, I3.tok _, ⟨_, rfl⟩, q3⟩
noncomputable def tFmtD (t : TD) : TD := fun δ M Q => t δ M fun d M1 => ∃ i, d = .int i ∧ Bd 1900 i ∧ Q (.str (iT i)) M1
theorem de_fmt {e : Expr} {te : TD} {p : Pos} (he : DE X e te) : DE X (.FormattedValue e (-1) none p) (tFmtD te) :=
  pe_imp (pe_fmt he) fun σ H Q zz83_0 => by obtain ⟨δ, M, R, hs, hM, q, fin⟩ := zz83_0; exact (⟨δ, M, _, hs, hM, q, fun d M1 v H1 g1 r1 a1 z9 => by
    obtain ⟨i, ed, hi, q1⟩ := z9
    subst ed
    rw [Rep] at r1; subst r1
    exact ⟨i, rfl, log_bd hi, fin _ _ _ _ g1 (by rw [Rep]) a1 q1⟩⟩)
theorem de_j1 {a : Expr} {ta : TD} {p : Pos} (ha : DE X a ta) : DE X (.JoinedStr [a] p) ta := pe_j1 ha
noncomputable def tJ3D (ta tb tc : TD) : TD := fun δ M Q => ta δ M fun x M1 => ∃ x', x = .str x' ∧ x'.length ≤ 1000 ∧ tb δ M1 fun y M2 => ∃ y', y = .str y' ∧ y'.length ≤ 1000 ∧ tc δ M2 fun z M3 => ∃ z', z = .str z' ∧ z'.length ≤ 1000 ∧ Q (.str (x' ++ y' ++ z')) M3
theorem len_app (x y : Str) : (x ++ y).length = x.length + y.length := PySem.Str.length_append x y
theorem k3 : 3000 ≤ sizeLine := Nat.le_of_ble_eq_true rfl
theorem de_j3 {a b c : Expr} {ta tb tc : TD} {p : Pos} (ha : DE X a ta) (hb : DE X b tb) (hc : DE X c tc) (he : evalEach [a, b, c] X.env = [eval a X.env, eval b X.env, eval c X.env] := by rfl) : DE X (.JoinedStr [a, b, c] p) (tJ3D ta tb tc) :=
  pe_imp (pe_j3 ha hb hc he) fun σ H Q ⟨δ, M, R, hs, hM, q, fin⟩ => ⟨δ, M, _, hs, hM, q, fun d M1 v H1 g1 r1 a1 z9 => by
    obtain ⟨x, ed, l1, q1⟩ := z9
    have := k3
    subst ed
    rw [Rep] at r1; subst r1
    refine ⟨x, rfl, by omega, δ, M1, _, hs.mono g1, a1, q1, fun d M2 v H2 g2 r2 a2 zz84_0 => ?_⟩
    obtain ⟨y, ed, l2, q2⟩ := zz84_0
    subst ed
    rw [Rep] at r2; subst r2
    refine ⟨y, rfl, by rw [len_app]; omega, δ, M2, _, (hs.mono g1).mono g2, a2, q2, fun d M3 v H3 g3 r3 a3 zz85_0 => ?_⟩
    obtain ⟨z, ed, l3, q3⟩ := zz85_0
    subst ed
    rw [Rep] at r3; subst r3
    exact ⟨z, rfl, by rw [len_app, len_app]; omega, fin _ _ _ _ ((g1.trans g2).trans g3) (by rw [Rep]) a3 q3⟩⟩
noncomputable def rAddT : R2D := fun x y M Q => match x, y with
  | .str a, .str b => a.length + b.length ≤ sizeLine ∧ Q (.str (a ++ b)) M
  | x, y => rAddD x y M Q
theorem od_addT : OpD X (binaryOp .Add) rAddT := op_imp (op_add_str.or od_add) fun v u H Q z9 => by
  obtain ⟨x, y, M, R, r1, r2, a, q, fin⟩ := z9
  unfold rAddT at q
  split at q
  · obtain rfl : v = .str _ := by rw [Rep] at r1; exact r1
    obtain rfl : u = .str _ := by rw [Rep] at r2; exact r2
    exact .inl ⟨_, _, rfl, rfl, q.1, fin _ _ _ _ .refl (by rw [Rep]) a q.2⟩
  · exact .inr ⟨x, y, M, R, r1, r2, a, q, fin⟩
theorem dec_strV {a b : Str} : decide (V.str a = V.str b) = decide (a = b) := by
  by_cases h : a = b <;> simp [h]
noncomputable def rEqT : R2D := fun x y M Q => match x, y with
  | .str a, .str b => Q (.bl (decide (a = b))) M
  | x, y => rEqD x y M Q
noncomputable def rNeT : R2D := fun x y M Q => match x, y with
  | .str a, .str b => Q (.bl (!decide (a = b))) M
  | x, y => rNeD x y M Q
theorem od_eqT (hu : X.A.units + 64 < cLine) : OpD X (compareOp .Eq) rEqT := op_imp (op_eq.or (od_eq hu)) fun v u H Q z9 => by
  obtain ⟨x, y, M, R, r1, r2, a, q, fin⟩ := z9
  unfold rEqT at q
  split at q
  · obtain rfl : v = .str _ := by rw [Rep] at r1; exact r1
    obtain rfl : u = .str _ := by rw [Rep] at r2; exact r2
    exact .inl ⟨rfl, by rw [dec_strV]; exact fin _ _ _ _ .refl (by rw [Rep]) a q⟩
  · exact .inr ⟨x, y, M, R, r1, r2, a, q, fin⟩
theorem od_neT (hu : X.A.units + 64 < cLine) : OpD X (compareOp .NotEq) rNeT := op_imp (op_ne.or (od_ne hu)) fun v u H Q z9 => by
  obtain ⟨x, y, M, R, r1, r2, a, q, fin⟩ := z9
  unfold rNeT at q
  split at q
  · obtain rfl : v = .str _ := by rw [Rep] at r1; exact r1
    obtain rfl : u = .str _ := by rw [Rep] at r2; exact r2
    exact .inl ⟨rfl, by rw [dec_strV]; exact fin _ _ _ _ .refl (by rw [Rep]) a q⟩
  · exact .inr ⟨x, y, M, R, r1, r2, a, q, fin⟩
noncomputable def rNotInT : R2D := fun x y M Q => match x, y with
  | .str a, .str b => ∃ c : Nat, a = ⟨#[c]⟩ ∧ Q (.bl (!decide (c ∈ b.cps.toList))) M
  | x, y => rInG (fun b => !b) x y M Q
theorem od_notinT (hu : X.A.units + 66 < cLine) : OpD X (compareOp .NotIn) rNotInT := op_imp (op_notin_str.or (od_notin hu)) fun v u H Q z9 => by
  obtain ⟨x, y, M, R, r1, r2, a, q, fin⟩ := z9
  unfold rNotInT at q
  split at q
  · obtain rfl : v = .str _ := by rw [Rep] at r1; exact r1
    obtain rfl : u = .str _ := by rw [Rep] at r2; exact r2
    obtain ⟨c, rfl, q⟩ := q
    exact .inl ⟨_, _, rfl, rfl, by rw [PySem.StrLaws.found_one]; exact fin _ _ _ _ .refl (by rw [Rep]) a q⟩
  · exact .inr ⟨x, y, M, R, r1, r2, a, q, fin⟩
noncomputable def rLenT : RC := fun ds M Q => match ds with
  | [.str x] => x.length ≤ sizeLine ∧ Q (.int (x.length : Int)) M
  | ds => rLen ds M Q
theorem cd_lenT : CallD X (.builtin "len") rLenT := call_imp (call_len_str.or cd_len) fun vs H Q z9 => by
  obtain ⟨ds, M, R, rs, a, q, fin⟩ := z9
  unfold rLenT at q
  split at q
  · obtain ⟨v, rfl, r⟩ := reps1 rs
    rw [Rep] at r; subst r
    exact .inl ⟨_, rfl, q.1, fin _ _ _ _ .refl (by rw [Rep]) a q.2⟩
  · exact .inr ⟨ds, M, R, rs, a, q, fin⟩
theorem call_anyL (hc : X.calm = true) : CallR X (.builtin "any") (fun xs H Q => ∃ (p : Addr) (bs : List Bool), xs = [.ref p] ∧ SqL X.K H p (bs.map V.bl) ∧ Q (.bl (bs.any id)) H) := by
  intro pins s σ H xs us Q I r z0
  obtain ⟨l, bs, e, hp, k⟩ := z0
  subst e
  obtain ⟨u, rfl, ru⟩ := vals1 r
  cases ru
  obtain ⟨its, r1, p1, _⟩ := I.list hp
  have hv := vals_bools r1
  have hl := p1.isList
  have lt : l ≠ s.heap.objs.size := Nat.ne_of_lt (let ⟨_, e, _⟩ := hl; Heap.lt_size e)
  refine call_any_walk (x := .ref l) (wpAny_pyIter_list hl ⟨s.heap.objs.size, [s.heap.objs.size, l], [s.heap.objs.size], its.toArray.size, _, _, fun i => (bs[i]?).getD false, rfl, Walks.list (A := X.A.in1) (I.ok.hd hc) _ l lt its.toArray, ⟨⟨_, Heap.get?_push_size _ rfl, rfl, rfl⟩, hl.push _⟩, fun i v s' Q' E' hP hQ => ?_, fun h' tk hk => ?_⟩)
  · have hP' : its[i]? = some v := by simpa using hP
    rw [hv, List.getElem?_map] at hP'
    cases eb : bs[i]? with
    | none => rw [eb] at hP'; cases hP'
    | some b =>
      rw [eb] at hP'
      cases hP'
      have hQ' : Q' b s' := by simpa [eb] using hQ
      exact wpAny_truthy_bool hQ'
  · rw [show ((List.range its.toArray.size).any fun i => (bs[i]?).getD false) = bs.any id by rw [List.size_toArray, hv, List.length_map]; exact LSm.range_any bs]
    exact ⟨.bl (bs.any id), H, I.kept (LSm.kept_iter hk), rfl, k⟩
noncomputable def rAny : RC := fun ds M Q => match ds with
  | [.ref l] => ∃ bs : List Bool, M l = some (.lst (List.map D.bl bs)) ∧ Q (.bl (bs.any id)) M
  | _ => False
theorem cd_any (hc : X.calm = true) : CallD X (.builtin "any") rAny := call_imp (call_anyL hc) fun vs H Q z9 => by
  obtain ⟨ds, M, R, rs, a, q, fin⟩ := z9
  unfold rAny at q
  split at q
  · obtain ⟨bs, e, q⟩ := q
    obtain ⟨v, rfl, r⟩ := reps1 rs
    rw [Rep] at r; subst r
    obtain ⟨xs, hx, rx⟩ := a _ _ e
    rw [bools_of rx] at hx
    exact ⟨_, bs, rfl, SqL.of hx, fin _ _ _ _ .refl (by rw [Rep]) a q⟩
  · exact q.elim
theorem bt_any : bootBuiltins "any" = some (.builtin "any") := by decide +kernel
noncomputable def rIxTD : R2D := fun x y M Q => match x, y with
  | .str z, .int i => z.length ≤ sizeLine ∧ ∃ c, atI z.cps.toList i = some c ∧ Q (.str ⟨#[c]⟩) M
  | x, y => rIxD x y M Q
theorem de_ixT {a b : Expr} {ta tb : TD} {pos : Pos} (ha : DE X a ta) (hb : DE X b tb) (hs : PlainIx b := by exact fun _ _ => rfl) : DE X (.Subscript a b pos) (tOpD rIxTD ta tb) :=
  de_ixR (ix_imp ix_seq fun v u H Q z9 => by
    obtain ⟨x, y, M, R, r1, r2, a, q, fin⟩ := z9
    unfold rIxTD at q
    split at q
    · obtain rfl : v = .str _ := by rw [Rep] at r1; exact r1
      obtain rfl : u = .int _ := by rw [Rep] at r2; exact r2
      obtain ⟨hz, c, e, q⟩ := q
      exact .inr (.inr ⟨_, _, c, rfl, rfl, hz, e, fin _ _ _ _ .refl (by rw [Rep]) a q⟩)
    · exact rIxD_lift ⟨x, y, M, R, r1, r2, a, q, fin⟩) ha hb hs
theorem call_intT : CallR X (.type "int") (fun xs H Q => ∃ x n, xs = [.str x] ∧ PySem.intText? x = some n ∧ x.length ≤ 640 ∧ Q (.int n) H) := by
  intro pins s σ H xs us Q I r h
  obtain ⟨x, n, rfl, hn, hl, q⟩ := h
  obtain ⟨u, rfl, t, rfl⟩ := vals1 r
  exact PySem.W.KIN.call_text hn hl ⟨.int n, H, I.tok _, ⟨_, rfl⟩, q⟩
noncomputable def rIntT : RC := fun ds M Q => match ds with
  | [.str x] => ∃ n, PySem.intText? x = some n ∧ x.length ≤ 640 ∧ Q (.int n) M
  | ds => rInt1 ds M Q
theorem cd_intT : CallD X (.type "int") rIntT := call_imp (call_intT.or cd_int) fun vs H Q z9 => by
  obtain ⟨ds, M, R, rs, a, q, fin⟩ := z9
  unfold rIntT at q
  split at q
  · obtain ⟨v, rfl, r⟩ := reps1 rs
    rw [Rep] at r; subst r
    obtain ⟨n, e1, e2, q⟩ := q
    exact .inl ⟨_, n, rfl, e1, e2, fin _ _ _ _ .refl (by rw [Rep]) a q⟩
  · exact .inr ⟨ds, M, R, rs, a, q, fin⟩
noncomputable def rStrI : RC := fun ds M Q => match ds with
  | [.int i] => Bd 1900 i ∧ Q (.str (iT i)) M
  | _ => False
theorem cd_strI : CallD X (.type "str") rStrI := call_imp call_str_int fun vs H Q z9 => by
  obtain ⟨ds, M, R, rs, a, q, fin⟩ := z9
  unfold rStrI at q
  split at q
  · obtain ⟨v, rfl, r⟩ := reps1 rs
    rw [Rep] at r; subst r
    exact ⟨_, rfl, log_bd q.1, fin _ _ _ _ .refl (by rw [Rep]) a q.2⟩
  · exact q.elim
end
end SD
set_option Elab.async false
set_option linter.all false
set_option maxRecDepth 100000
namespace SD
open PySem PySem.Spec PyProof.Rows L2 PySem.Builtin PySem.Builtin.Str
section
variable {X : Cx}
theorem vals_strs : ∀ {ts : List Str} {us : List Value}, Vals (ts.map V.str) us → ∃ l : List (Str × Tok), us = strValues l ∧ l.map (·.1) = ts
  | [], _, .nil => ⟨[], rfl, rfl⟩
  | t :: ts, _, .cons r q => by
    obtain ⟨k, rfl⟩ := (show ∃ k, _ = Value.str t k from r)
    obtain ⟨l, rfl, e⟩ := vals_strs q
    exact ⟨(t, k) :: l, rfl, by rw [List.map_cons, e]⟩
theorem strs_vals : ∀ (l : List (Str × Tok)), Vals ((l.map (·.1)).map V.str) (strValues l)
  | [] => .nil
  | (x, t) :: l => .cons ⟨t, rfl⟩ (strs_vals l)
noncomputable def rStart : V → List V → Hp → VK → Prop := fun x vs H Q => ∃ a b, x = .str a ∧ vs = [.str b] ∧ Q (.bl (Txt.startswith a b)) H
theorem mt_start : MtM X "str.startswith" rStart := by
  intro pins s σ H x vs v us Q I rx rv z0
  obtain ⟨a, b, ex, ev, q⟩ := z0
  subst ex ev
  obtain ⟨t, rfl⟩ := rx
  obtain ⟨u, rfl, t', rfl⟩ := rv.one
  exact SC.startswith ⟨.bl _, H, I, rfl, q⟩
noncomputable def rPart : V → List V → Hp → VK → Prop := fun x vs H Q => ∃ a b, x = .str a ∧ vs = [.str b] ∧ (b.length == 0) = false ∧ a.length ≤ sizeLine ∧ ∀ p, H p = none → Q (.ref p) (upd H p (.tup [.str (Txt.partition a b).1, .str (Txt.partition a b).2.1, .str (Txt.partition a b).2.2]))
theorem mt_part : MtM X "str.partition" rPart := by
  intro pins s σ H x vs v us Q I rx rv z0
  obtain ⟨a, b, ex, ev, hb, ha, q⟩ := z0
  subst ex ev
  obtain ⟨t, rfl⟩ := rx
  obtain ⟨u, rfl, t', rfl⟩ := rv.one
  refine call_meets PySem.F.slot_str_partition (typeIs_str _ _ _) PySem.F.entry_str_partition (PySem.F.args_str_partition_2 _ _) (meets_str_partition a b t t' hb ha) ?_
  have q' := q _ (I.hok.fresh (Nat.le_refl _))
  have key : ∀ (p1 p2 p3 : Str) (t1 t2 t3 k : Tok), Q (.ref s.heap.objs.size) (upd H s.heap.objs.size (.tup [.str p1, .str p2, .str p3])) → EP X pins σ Q (.ref s.heap.objs.size) { s with toks := k, heap := s.heap.push { cls := .type "tuple", data := .seq [.str p1 t1, .str p2 t2, .str p3 t3].toArray } } := fun p1 p2 p3 t1 t2 t3 k z =>
    ⟨.ref s.heap.objs.size, _, I.laid (o := .tup [.str p1, .str p2, .str p3]) (t' := k) (fun b u e => Heap.get?_push_of_some _ e) (Nat.le_refl _) ⟨Nat.le_of_ble_eq_true rfl, _, .cons ⟨_, rfl⟩ (.cons ⟨_, rfl⟩ (.cons ⟨_, rfl⟩ .nil)), ⟨_, Heap.get?_push_size _ rfl, rfl, _, rfl⟩⟩, rfl, z⟩
  revert q'
  unfold Txt.partition
  cases occurrences a b 0 a.length 1 with
  | nil => intro q'; exact key _ _ _ _ _ _ _ q'
  | cons i r => intro q'; exact key _ _ _ _ _ _ _ q'
noncomputable def rSplit : V → List V → Hp → VK → Prop := fun x vs H Q => ∃ a b, x = .str a ∧ vs = [.str b] ∧ (b.length == 0) = false ∧ a.length + 2 ≤ sizeLine ∧ ∀ p, H p = none → Q (.ref p) (upd H p (.lst ((Txt.split a b).map V.str)))
theorem mt_split : MtM X "str.split" rSplit := by
  intro pins s σ H x vs v us Q I rx rv z0
  obtain ⟨a, b, ex, ev, hb, ha, q⟩ := z0
  subst ex ev
  obtain ⟨t, rfl⟩ := rx
  obtain ⟨u, rfl, t', rfl⟩ := rv.one
  have q' := q _ (I.hok.fresh (Nat.le_refl _))
  have hn : (partsBetween a (occurrences a b 0 a.length (a.length + 1)) b.length).length ≤ sizeLine := by
    have := StrLaws.occ_length_le a b 0 a.length (a.length + 1)
    rw [length_partsBetween]; omega
  have key : ∀ (l : List (Str × Tok)) (k : Tok), l.map (·.1) = Txt.split a b → EP X pins σ Q (.ref s.heap.objs.size) { s with toks := k, heap := s.heap.push { cls := .type "list", data := .seq (strValues l).toArray } } := fun l k e => by
    rw [← e] at q'
    refine ⟨.ref s.heap.objs.size, _, I.laid (o := .lst ((l.map (·.1)).map V.str)) (t' := k) (fun b u e => Heap.get?_push_of_some _ e) (Nat.le_refl _) ⟨?_, _, 0, strs_vals l, Heap.get?_push_size _ rfl⟩, rfl, q'⟩
    have h2 := PyProof.Rows.split_le a b
    rw [← e, List.length_map] at h2
    rw [List.length_map, List.length_map]; omega
  cases h1 : (decide (a.length < b.length) || decide (strKind a < strKind b)) with
  | true => exact call_meets PySem.F.slot_str_split (typeIs_str _ _ _) PySem.F.entry_str_split (PySem.F.args_str_split_2 _ _) (meets_str_split_cannot_occur a b t t' h1) (key [(a, t)] s.toks (by unfold Txt.split; rw [if_pos h1]; rfl))
  | false =>
    cases hf : (occurrences a b 0 a.length (a.length + 1)).isEmpty with
    | true => exact call_meets PySem.F.slot_str_split (typeIs_str _ _ _) PySem.F.entry_str_split (PySem.F.args_str_split_2 _ _) (meets_str_split_not_found a b t t' h1 hb hf) (key [(a, t)] s.toks (by unfold Txt.split; rw [if_neg (ne_true_of_eq_false h1), if_pos hf]; rfl))
    | false =>
      refine call_meets PySem.F.slot_str_split (typeIs_str _ _ _) PySem.F.entry_str_split (PySem.F.args_str_split_2 _ _) (meets_str_split_sep a b t t' h1 hb hf (by omega) hn) ?_
      rw [strsFrom_eq]
      exact key (numbered s.toks _) _ (by rw [numbered_texts]; unfold Txt.split; rw [if_neg (ne_true_of_eq_false h1), if_neg (ne_true_of_eq_false hf)])
noncomputable def rJoinT : V → List V → Hp → VK → Prop := fun x vs H Q => ∃ a l ts, x = .str a ∧ vs = [.ref l] ∧ H l = some (.lst (ts.map V.str)) ∧ JoinOk a ts = true ∧ Q (.str (Str.join a ts)) H
theorem mt_join : MtM X "str.join" rJoinT := by
  intro pins s σ H x vs v us Q I rx rv z0
  obtain ⟨a, l, ts, ex, ev, hH, hj, q⟩ := z0
  subst ex ev
  obtain ⟨t, rfl⟩ := rx
  obtain ⟨u, rfl, ru⟩ := rv.one
  cases (show u = Value.ref l from ru)
  obtain ⟨its, r, p, hz⟩ := I.list (SqL.of hH)
  obtain ⟨ls, rfl, e⟩ := vals_strs r
  have hj' := hj
  rw [← e] at hj'
  have hg : ∀ us, Txt.join a us = Str.join a us := fun us => StrLaws.glued_eq_join a us
  refine call_meets PySem.F.slot_str_join (typeIs_str _ _ _) PySem.F.entry_str_join (PySem.F.args_str_join_2 _ _) (meets_str_join_list a t l ls (by unfold JoinOk at hj'; rw [Bool.not_eq_true'] at hj'; exact hj')) ⟨p.isList, post_join ls ⟨joinOk_length hj', fun t' k => ?_⟩⟩
  refine ⟨.str _, H, I.tok k, ⟨t', rfl⟩, ?_⟩
  rw [e, hg]
  exact q
theorem sl_str : SlR X (fun x lo hi H Q => ∃ z i, x = .str z ∧ lo = some i ∧ hi = none ∧ z.length ≤ sizeLine ∧ Q (.str (Txt.slice z (some i) none)) H) := by
  intro pins s σ H x v vl vu lo hi sl Q I rx hs pl pu z0
  obtain ⟨z, i, ex, e1, e2, hz, q⟩ := z0
  subst ex e1 e2
  obtain ⟨t, rfl⟩ := rx
  cases pl with
  | int _ u =>
    cases pu
    exact ⟨"str", _, PySem.F.slot_str_getitem.lookup, typeIs_str _ _ _, wpAny_getItem_str_slice (l := some (i, u)) (u := none) (st := none) hs rfl (post_val_or_str ⟨Nat.le_trans (Txt.slice_le z _ _) hz, fun t' k => ⟨.str _, H, I.tok k, ⟨t', rfl⟩, q⟩⟩)⟩
noncomputable def tSlTD (te tl : TD) : TD := fun δ M Q => te δ M fun x M1 => ∃ z, x = .str z ∧ z.length ≤ sizeLine ∧ tl δ M1 fun l M2 => ∃ i, l = .int i ∧ Q (.str (Txt.slice z (some i) none)) M2
theorem de_sliceT {a lo : Expr} {te tl : TD} {pos p2 : Pos} (he : DE X a te) (hl : DE X lo tl) : DE X (.Subscript a (.Slice (some lo) none none p2) pos) (tSlTD te tl) :=
  pe_imp (pe_slice sl_str he (po_some hl) po_none) fun σ H Q z9 => by
    obtain ⟨δ, M, R, hs, hM, q, fin⟩ := z9
    refine ⟨δ, M, _, hs, hM, q, fun d M1 v H1 g1 r1 a1 zz86_0 => ?_⟩
    obtain ⟨z, ed, hz, q1⟩ := zz86_0
    subst ed
    rw [Rep] at r1; subst r1
    refine ⟨δ, M1, _, hs.mono g1, a1, q1, fun d M2 v H2 g2 r2 a2 zz87_0 => ?_⟩
    obtain ⟨i, ed, q2⟩ := zz87_0
    subst ed
    rw [Rep] at r2; subst r2
    exact ⟨i, rfl, z, i, rfl, rfl, rfl, hz, fin _ _ _ _ (g1.trans g2) (by rw [Rep]) a2 q2⟩
end
section
variable {X : Cx} {o e1 : Expr} {to : TD} {t : TAD} {apos cpos : Pos}
noncomputable def tStartD (to : TD) (t : TAD) : TD := fun δ M Q => to δ M fun x M1 => ∃ a, x = .str a ∧ t δ M1 fun ds M2 => ∃ b, ds = [.str b] ∧ Q (.bl (Txt.startswith a b)) M2
theorem de_m_start (ho : DE X o to) (ha : DA X [e1] t)
    (hbase : attributeBase o "startswith" X.env (eval o X.env) = eval o X.env := by rfl)
    (hfew : ((backTo cpos (starEach [e1] X.env)).all (fun x => !x.1) && (backToKw cpos (keywordEach [] X.env)).all (fun x => x.1.isSome)
      && decide ([e1].length + ([] : List Keyword).length + (if ([] : List Keyword).isEmpty then 0 else 1) < 30)) = true := by rfl)
    (hline : (apos.endLine == cpos.line) = true := by rfl) (hs : starEach [e1] X.env = (false, eval e1 X.env) :: starEach [] X.env := by rfl) (hplain : (backTo cpos (starEach [] X.env)).any (·.1) = false := by rfl) :
    DE X (.Call (.Attribute o "startswith" apos) [e1] [] cpos) (tStartD to t) :=
  pe_imp (pe_bm PySem.F.plainAttrs_str PySem.F.slot_str_startswith PySem.F.type_str_startswith mt_start ho ha hbase hfew hline hs hplain) fun σ H Q z9 => by
    obtain ⟨δ, M, R, hsl, hM, q, fin⟩ := z9
    refine ⟨δ, M, _, hsl, hM, q, fun x M1 v H1 g1 r1 a1 zz88_0 => ?_⟩
    obtain ⟨a, ex, q1⟩ := zz88_0
    subst ex
    rw [Rep] at r1
    subst r1
    refine ⟨rfl, δ, M1, _, hsl.mono g1, a1, q1, fun ds M2 us H2 g2 r2 a2 zz89_0 => ?_⟩
    obtain ⟨b, ed, q2⟩ := zz89_0
    subst ed
    obtain ⟨u1, rfl, ru1⟩ := reps1 r2
    rw [Rep] at ru1
    subst ru1
    exact ⟨a, b, rfl, rfl, fin _ _ _ _ (g1.trans g2) (by rw [Rep]) a2 q2⟩
noncomputable def tPartTD (to : TD) (t : TAD) : TD := fun δ M Q => to δ M fun x M1 => ∃ a, x = .str a ∧ a.length ≤ sizeLine ∧ t δ M1 fun ds M2 => ∃ b, ds = [.str b] ∧ (b.length == 0) = false ∧ Q (.tup [.str (Txt.partition a b).1, .str (Txt.partition a b).2.1, .str (Txt.partition a b).2.2]) M2
theorem de_m_part (ho : DE X o to) (ha : DA X [e1] t)
    (hbase : attributeBase o "partition" X.env (eval o X.env) = eval o X.env := by rfl)
    (hfew : ((backTo cpos (starEach [e1] X.env)).all (fun x => !x.1) && (backToKw cpos (keywordEach [] X.env)).all (fun x => x.1.isSome)
      && decide ([e1].length + ([] : List Keyword).length + (if ([] : List Keyword).isEmpty then 0 else 1) < 30)) = true := by rfl)
    (hline : (apos.endLine == cpos.line) = true := by rfl) (hs : starEach [e1] X.env = (false, eval e1 X.env) :: starEach [] X.env := by rfl) (hplain : (backTo cpos (starEach [] X.env)).any (·.1) = false := by rfl) :
    DE X (.Call (.Attribute o "partition" apos) [e1] [] cpos) (tPartTD to t) :=
  pe_imp (pe_bm PySem.F.plainAttrs_str PySem.F.slot_str_partition PySem.F.type_str_partition mt_part ho ha hbase hfew hline hs hplain) fun σ H Q z9 => by
    obtain ⟨δ, M, R, hsl, hM, q, fin⟩ := z9
    refine ⟨δ, M, _, hsl, hM, q, fun x M1 v H1 g1 r1 a1 zz90_0 => ?_⟩
    obtain ⟨a, ex, hz, q1⟩ := zz90_0
    subst ex
    rw [Rep] at r1
    subst r1
    refine ⟨rfl, δ, M1, _, hsl.mono g1, a1, q1, fun ds M2 us H2 g2 r2 a2 zz91_0 => ?_⟩
    obtain ⟨b, ed, hb, q2⟩ := zz91_0
    subst ed
    obtain ⟨u1, rfl, ru1⟩ := reps1 r2
    rw [Rep] at ru1
    subst ru1
    refine ⟨a, b, rfl, rfl, hb, hz, fun p hp => fin _ _ _ _ ((g1.trans g2).trans (.new hp)) ?_ (a2.new hp) q2⟩
    rw [Rep]
    exact ⟨p, _, rfl, SqT.of upd_same, .cons (by rw [Rep]) (.cons (by rw [Rep]) (.cons (by rw [Rep]) .nil))⟩
theorem reps_strs {K : PySem.W.Frag} {H : Hp} : ∀ (ts : List Str), Reps K H (ts.map D.str) (ts.map V.str)
  | [] => .nil
  | t :: ts => .cons (by rw [Rep]) (reps_strs ts)
theorem strs_of {K : PySem.W.Frag} {H : Hp} : ∀ {ts : List Str} {xs : List V}, Reps K H (ts.map D.str) xs → xs = ts.map V.str
  | [], xs, h => by rw [List.map_nil, Reps] at h; exact h
  | n :: ns, xs, h => by
    rw [List.map_cons, Reps] at h
    obtain ⟨x, r, rfl, h1, h2⟩ := h
    rw [Rep] at h1
    rw [h1, strs_of h2]; rfl
noncomputable def tSplitD (to : TD) (t : TAD) : TD := fun δ M Q => to δ M fun x M1 => ∃ a, x = .str a ∧ a.length ≤ 1000000 ∧ t δ M1 fun ds M2 => ∃ b, ds = [.str b] ∧ (b.length == 0) = false ∧ ∀ p, M2 p = none → Q (.ref p) (updM M2 p (.lst ((Txt.split a b).map D.str)))
theorem de_m_split (ho : DE X o to) (ha : DA X [e1] t)
    (hbase : attributeBase o "split" X.env (eval o X.env) = eval o X.env := by rfl)
    (hfew : ((backTo cpos (starEach [e1] X.env)).all (fun x => !x.1) && (backToKw cpos (keywordEach [] X.env)).all (fun x => x.1.isSome)
      && decide ([e1].length + ([] : List Keyword).length + (if ([] : List Keyword).isEmpty then 0 else 1) < 30)) = true := by rfl)
    (hline : (apos.endLine == cpos.line) = true := by rfl) (hs : starEach [e1] X.env = (false, eval e1 X.env) :: starEach [] X.env := by rfl) (hplain : (backTo cpos (starEach [] X.env)).any (·.1) = false := by rfl) :
    DE X (.Call (.Attribute o "split" apos) [e1] [] cpos) (tSplitD to t) :=
  pe_imp (pe_bm PySem.F.plainAttrs_str PySem.F.slot_str_split PySem.F.type_str_split mt_split ho ha hbase hfew hline hs hplain) fun σ H Q z9 => by
    obtain ⟨δ, M, R, hsl, hM, q, fin⟩ := z9
    refine ⟨δ, M, _, hsl, hM, q, fun x M1 v H1 g1 r1 a1 zz92_0 => ?_⟩
    obtain ⟨a, ex, hz, q1⟩ := zz92_0
    subst ex
    rw [Rep] at r1
    subst r1
    refine ⟨rfl, δ, M1, _, hsl.mono g1, a1, q1, fun ds M2 us H2 g2 r2 a2 zz93_0 => ?_⟩
    obtain ⟨b, ed, hb, q2⟩ := zz93_0
    subst ed
    obtain ⟨u1, rfl, ru1⟩ := reps1 r2
    rw [Rep] at ru1
    subst ru1
    refine ⟨a, b, rfl, rfl, hb, Nat.le_trans (Nat.add_le_add_right hz 2) (show 1000002 ≤ sizeLine from Nat.le_of_ble_eq_true rfl), fun p hp => ?_⟩
    exact fin _ _ _ _ ((g1.trans g2).trans (.new hp)) (by rw [Rep]) (a2.newL hp (reps_strs _)) (q2 p (a2.fresh hp))
noncomputable def tJoinD (to : TD) (t : TAD) : TD := fun δ M Q => to δ M fun x M1 => ∃ a, x = .str a ∧ t δ M1 fun ds M2 => ∃ l ts, ds = [.ref l] ∧ M2 l = some (.lst (List.map D.str ts)) ∧ JoinOk a ts = true ∧ Q (.str (Str.join a ts)) M2
theorem de_m_join (ho : DE X o to) (ha : DA X [e1] t)
    (hbase : attributeBase o "join" X.env (eval o X.env) = eval o X.env := by rfl)
    (hfew : ((backTo cpos (starEach [e1] X.env)).all (fun x => !x.1) && (backToKw cpos (keywordEach [] X.env)).all (fun x => x.1.isSome)
      && decide ([e1].length + ([] : List Keyword).length + (if ([] : List Keyword).isEmpty then 0 else 1) < 30)) = true := by rfl)
    (hline : (apos.endLine == cpos.line) = true := by rfl) (hs : starEach [e1] X.env = (false, eval e1 X.env) :: starEach [] X.env := by rfl) (hplain : (backTo cpos (starEach [] X.env)).any (·.1) = false := by rfl) :
    DE X (.Call (.Attribute o "join" apos) [e1] [] cpos) (tJoinD to t) :=
  pe_imp (pe_bm PySem.F.plainAttrs_str PySem.F.slot_str_join PySem.F.type_str_join mt_join ho ha hbase hfew hline hs hplain) fun σ H Q z9 => by
    obtain ⟨δ, M, R, hsl, hM, q, fin⟩ := z9
    refine ⟨δ, M, _, hsl, hM, q, fun x M1 v H1 g1 r1 a1 zz94_0 => ?_⟩
    obtain ⟨a, ex, q1⟩ := zz94_0
    subst ex
    rw [Rep] at r1
    subst r1
    refine ⟨rfl, δ, M1, _, hsl.mono g1, a1, q1, fun ds M2 us H2 g2 r2 a2 zz95_0 => ?_⟩
    obtain ⟨l, ts, ed, hl, hj, q2⟩ := zz95_0
    subst ed
    obtain ⟨u1, rfl, ru1⟩ := reps1 r2
    rw [Rep] at ru1
    subst ru1
    obtain ⟨ws, hws, rws⟩ := a2 _ _ hl
    rw [strs_of rws] at hws
    exact ⟨a, l, ts, rfl, rfl, hws, hj, fin _ _ _ _ (g1.trans g2) (by rw [Rep]) a2 q2⟩
end
end SD
set_option Elab.async false
set_option linter.all false
set_option maxRecDepth 100000
namespace SD
open PySem PySem.Spec PyProof.Rows L2
noncomputable def Its (z : Str) : It := ⟨fun i _ => i < z.cps.size, fun i H x H' => H' = H ∧ ∃ c, z.cps[i]? = some c ∧ x = .str ⟨#[c]⟩, fun i _ => z.cps.size ≤ i⟩
theorem turn_str {P : Program} {w : World} {K : PySem.W.Frag} {tg : Expr} (z : Str) (t : Tok) (it : Addr) : Turn P w K tg (Its z) [it] it (fun i h => h.IsStrIter it "str_ascii_iterator" z t i) where
  mem := by simp
  obj := fun i h st b hb => by
    obtain rfl : b = it := by simpa using hb
    obtain ⟨o, e, c, d⟩ := st
    exact ⟨o, e, fun v z => by rw [d] at z; cases z⟩
  keep := fun i h h' ⟨o, e, r⟩ k => ⟨o, k it (by simp) o e, r⟩
  item := by
    intro X hP hw hK hc i pins s σ H E I hf st hg
    subst hP hw hK
    have hg : i < z.cps.size := hg
    obtain ⟨f0, f1, f2, f3, f4, f5⟩ := hf it (by simp)
    refine wpAny_pyNext_ascii_item st (c := z.cps[i]) (by simp [hg]) fun h' st' sb => ?_
    have I1 : Inv X pins σ H { s with heap := h', toks := s.toks + 1 } := I.turned (t' := s.toks + 1) (fun b o hb e => (sb.2 b hb).trans e) f0 f1 f3 f4 f5
    obtain ⟨o, e, c, d⟩ := id st'
    exact ⟨_, rfl, go_of (s := { s with heap := h', toks := s.toks + 1 }) e c d (by decide) ⟨.str ⟨#[z.cps[i]]⟩, H, I1, ⟨_, rfl⟩, ⟨rfl, _, by simp [hg], rfl⟩, st', fun b hb => (hf b hb).1⟩⟩
  done := by
    intro X hP hw hK hc i pins s σ H E I hf st hg
    subst hP hw hK
    have hg : z.cps.size ≤ i := hg
    obtain ⟨f0, f1, f2, f3, f4, f5⟩ := hf it (by simp)
    exact wpAny_pyNext_ascii_end (I.ok.hd hc) st (by simp; exact hg) fun h' eb => ⟨rfl, I.turned (t' := s.toks) (fun b o hb e => eb b o hb e) f0 f1 f3 f4 f5⟩
  self := fun _ _ _ _ _ st h => wpAny_pyIter_striter_ascii st h
section
variable {X : Cx} {tg : Expr}
theorem pi_str {l : Expr} {tl : TE} (hl : PE X l tl) : PI X tg l (fun σ H R => tl σ H fun x H1 => ∃ z, x = .str z ∧ z.cps.all (· < 128) = true ∧ R (Its z) H1) := by
  intro pins s σ H R I h
  refine thn (hl pins s σ H _ I h) fun v s1 zz96_0 => ?_
  obtain ⟨x, H1, I1, r1, q1⟩ := zz96_0
  obtain ⟨z, e, ha, q⟩ := q1
  subst e
  obtain ⟨t, rfl⟩ := r1
  refine wpAny_pyIter_ascii ha ?_
  refine ⟨s1.heap.objs.size, [s1.heap.objs.size], _, _, H1, rfl, I1.kept (t' := s1.toks) fun b o e => Heap.get?_push_of_some _ e, turn_str z t _, ⟨_, Heap.get?_push_size _ rfl, rfl, rfl⟩, fun b hb => ?_, q⟩
  obtain rfl : b = s1.heap.objs.size := by simpa using hb
  exact I1.fpOk (Nat.le_refl _) (I1.hok.fresh (Nat.le_refl _))
noncomputable def dStr (tl : TD) : TID := fun δ M R => tl δ M fun d M1 => ∃ z, d = .str z ∧ z.cps.all (· < 128) = true ∧ R ⟨z.cps.size, fun i => (z.cps[i]?).map fun c => .str ⟨#[c]⟩, fun _ => True⟩ M1
theorem di_str {l : Expr} {tl : TD} (hl : DE X l tl) : DI X tg l (dStr tl) :=
  pi_imp (pi_str hl) fun σ H R ⟨δ, M, RD, hs, hM, q, fin⟩ => ⟨δ, M, _, hs, hM, q, fun d M1 v H1 g1 r1 a1 z9 => by
    obtain ⟨z, ed, ha, q1⟩ := z9
    subst ed
    rw [Rep] at r1; subst r1
    refine ⟨z, rfl, ha, fin _ M1 H1 _ g1 a1 q1 ⟨fun _ _ _ _ _ => Nat.le_refl _, fun i _ _ hi _ _ _ => hi, ?_⟩⟩
    rintro i H2 M2 v H3 hi g2 a2 _ ⟨rfl, c, e, rfl⟩
    exact ⟨.refl, a2, _, by show (z.cps[i]?).map _ = _; rw [e]; rfl, by rw [Rep]⟩⟩
theorem pg_star {es : List Expr} {k : Nat} {t : TGs} {pos : Pos} (hc : X.calm = true) (h : PGs X es t) (hn : (assignEach es X.env).length = 2 := by rfl) (hst : (assignEach es X.env).findIdx? (·.1) = some 1 := by rfl) :
    PG X (.Tuple es k pos) (fun v σ H Q => ∃ a x0 xs, v = .ref a ∧ SqL X.K H a (x0 :: xs) ∧ xs.length ≤ 10000 ∧ ∀ p, H p = none → t [x0, .ref p] σ (upd H p (.lst xs)) Q) := by
  intro pins s σ H v u Q I r z0
  obtain ⟨a, x0, xs, ev, hq, hz, q⟩ := z0
  subst ev
  cases r
  obtain ⟨its, rv, p, _⟩ := I.list hq
  obtain ⟨u0, us, rfl, ru0, rus⟩ : ∃ u0 us, its = u0 :: us ∧ RelV x0 u0 ∧ Vals xs us := by
    cases rv with
    | cons r t => exact ⟨_, _, rfl, r, t⟩
  have hl := p.isList
  have hal : a < s.heap.objs.size := let ⟨o, ho, _⟩ := hl; Heap.lt_size ho
  have hne := Nat.ne_of_lt hal
  have lus : us.length ≤ 10000 := by rw [← rus.length]; exact hz
  have hsl : sizeLine = 16777216 := sizeLine_eq
  rw [PyProof.Rows.assign_Tuple]
  refine wpAny_bind (wpAny_standAt ?_)
  unfold unpack
  rw [hn, hst]
  refine wpAny_bind (wpAny_holding ?_)
  unfold unpackItems notIterableAtAll
  refine wpAny_bind (wpAny_bind (wpAny_specialOf hl.typeIs slot_list_iter.lookup (wpAny_pure ?_)))
  rw [if_neg (by simp)]
  refine wpAny_bind (wpAny_holding (wpAny_pyIter_list hl ?_))
  refine wpAny_bind (wpAny_holding (PySem.W.kun_draw hne 1 0 _ _ ⟨_, Heap.get?_push_size _ rfl, rfl, rfl⟩ (hl.push _) (by simp) fun h1 hit1 hs1 => ?_))
  have hl1 : h1.IsList a (u0 :: us).toArray := (hl.push _).extBut hs1.extBut hne
  have hi1 : s.heap.objs.size < h1.objs.size := let ⟨_, ho, _⟩ := hit1; Heap.lt_size ho
  have ha1 : a < h1.objs.size := let ⟨_, ho, _⟩ := hl1; Heap.lt_size ho
  rw [if_neg (by simp)]
  refine wpAny_bind (wpAny_holding (PySem.W.kun_collect (s := { s with heap := h1 }) (T := "list_iterator") (.inr (.inr (.inl rfl))) (Walks.list (A := X.A.in1) (I.ok.hd hc) s.heap.objs.size a hne (u0 :: us).toArray) (fun j u st => st.1.typeIs) (k := 1) (by simp) ⟨hit1, hl1⟩ hi1 ha1 (fun h2 tk hk => ?_) (by simp; omega)))
  show wpAny _ _ (if us.length < 0 then _ else _) _ _ _
  rw [if_neg (by omega)]
  have kp : ∀ b o, s.heap.get? b = some o → h2.get? b = some o := fun b o e => by
    have nb : b ≠ s.heap.objs.size := Nat.ne_of_lt (Heap.lt_size e)
    exact hk b o nb (hs1.extBut b o nb (Heap.get?_push_of_some _ e))
  have I2 : Inv X pins σ H { s with heap := h2, toks := tk } := I.kept (t' := tk) kp
  have e1 : us.take us.length = us := List.take_length
  show wpAny _ _ (newList (us.take us.length) >>= fun d => pure ([u0] ++ [d] ++ us.drop us.length)) _ _ _
  rw [e1, List.drop_length]
  refine wpAny_bind (wpAny_newList ?_ (by omega))
  refine wpAny_pure ?_
  have I3 := I2.laid (h' := h2.push (seqObj "list" us.toArray 0)) (a := h2.objs.size) (o := .lst xs) (t' := tk) (fun b u e => Heap.get?_push_of_some _ e) (Nat.le_refl _) ⟨by omega, us, 0, rus, Heap.get?_push_size _ rfl⟩
  exact h pins _ σ _ [x0, .ref h2.objs.size] [u0, .ref h2.objs.size] Q I3 (.cons ru0 (.cons rfl .nil)) (q _ (I2.hok.fresh (Nat.le_refl _)))
theorem dgs_star {e : Expr} {t : TGD} {p : Pos} (h : DG X e t) (he : (assignEach [.Starred e p] X.env).map (·.2) = (assignEach [e] X.env).map (·.2) := by rfl) (hs : (assignEach [e] X.env).map (·.2) = assign e X.env :: (assignEach [] X.env).map (·.2) := by rfl) : DGs X [.Starred e p] (gConsD t gNilD) := fun pins s σ H vs us Q I r q => by
  rw [he]
  exact dgs_cons h dgs_nil hs pins s σ H vs us Q I r q
noncomputable def gStarD (t : TGsD) : TGD := fun d δ M Q => ∃ l d0 ds, d = .ref l ∧ M l = some (.lst (d0 :: ds)) ∧ ds.length ≤ 10000 ∧ ∀ p, M p = none → t [d0, .ref p] δ (updM M p (.lst ds)) Q
theorem dg_star {es : List Expr} {k : Nat} {t : TGsD} {pos : Pos} (hc : X.calm = true) (h : DGs X es t) (hn : (assignEach es X.env).length = 2 := by rfl) (hst : (assignEach es X.env).findIdx? (·.1) = some 1 := by rfl) : DG X (.Tuple es k pos) (gStarD t) :=
  pg_imp (pg_star hc h hn hst) fun v σ H Q z => by
    obtain ⟨d, δ, M, R, r, hs, a, ⟨l, d0, ds, e, hl, hz, q⟩, fin⟩ := z
    subst e
    rw [Rep] at r; subst r
    obtain ⟨xs, hx, rx⟩ := a _ _ hl
    rw [Reps] at rx
    obtain ⟨x0, xr, rfl, r0, rr⟩ := rx
    refine ⟨l, x0, xr, rfl, SqL.of hx, by rw [← rr.length]; exact hz, fun p hp => ?_⟩
    exact ⟨[d0, .ref p], δ, _, R, .cons (r0.mono (.new hp)) (.cons (by rw [Rep]) .nil), hs.mono (.new hp), a.newL hp rr, q p (a.fresh hp), fin.go (.new hp)⟩
end
end SD
set_option Elab.async false
set_option linter.all false
set_option maxRecDepth 100000
namespace SD
open PySem PySem.Spec PyProof.Rows L2 PySem.Builtin PySem.Builtin.Str
theorem str_ext {x y : Str} (h : x.cps.toList = y.cps.toList) : x = y := PySem.Str.ext' (Array.toList_inj.mp h)
theorem app_cps (x y : Str) : (x ++ y).cps.toList = x.cps.toList ++ y.cps.toList := by
  show (x.cps ++ y.cps).toList = _
  simp
theorem len_cps (x : Str) : x.length = x.cps.toList.length := by simp [PySem.Str.length]
noncomputable def dgs (n : Nat) : List Nat := (Nat.toDigits 10 n).map Char.toNat
theorem iT_nat (n : Nat) : (iT (n : Int)).cps.toList = dgs n := PySem.W.KIN.signs_num n
theorem iT_neg (n : Nat) : (iT (-((n + 1 : Nat) : Int))).cps.toList = 45 :: dgs (n + 1) := by
  have e : (-((n + 1 : Nat) : Int)) = Int.negSucc n := rfl
  rw [e]
  show (Str.ofString (toString (Int.negSucc n))).cps.toList = _
  rw [signs_ofString]
  show ("-" ++ Nat.repr (n + 1)).toList.map Char.toNat = _
  rw [String.toList_append, List.map_append, Nat.toList_repr]
  rfl
theorem dgs_dig {n c : Nat} (h : c ∈ dgs n) : 48 ≤ c ∧ c ≤ 57 := by
  obtain ⟨ch, hch, rfl⟩ := List.mem_map.mp h
  exact digit_range (Nat.isDigit_of_mem_toDigits (by decide) (by decide) hch)
theorem dgs_step {n : Nat} (h : ¬ n < 10) : dgs n = dgs (n / 10) ++ dgs (n % 10) := by
  have hm : n % 10 < 10 := Nat.mod_lt n (by decide)
  have t : Nat.toDigits 10 (n / 10) ++ Nat.toDigits 10 (n % 10) = Nat.toDigits 10 (10 * (n / 10) + n % 10) := Nat.toDigits_append_toDigits (by decide) (by omega) hm
  rw [Nat.div_add_mod] at t
  unfold dgs
  rw [← t, List.map_append]
theorem dgs_one {n : Nat} (h : n < 10) : dgs n = [48 + n] := by
  unfold dgs
  rw [Nat.toDigits_of_lt_base h]
  show [(Nat.digitChar n).toNat] = _
  have : ∀ d : Nat, d < 10 → (Nat.digitChar d).toNat = 48 + d := by decide
  rw [this n h]
theorem dgs_ne (n : Nat) : dgs n ≠ [] := fun e => by
  have h := toDigits_len_ge 10 n
  rw [List.map_eq_nil_iff.mp e] at h
  exact absurd h (by decide)
theorem dgs_len : ∀ (k n : Nat), n < 10 ^ (k + 1) → (dgs n).length ≤ k + 1
  | 0, n, h => by rw [dgs_one (by simpa using h)]; simp
  | k + 1, n, h => by
    by_cases z : n < 10
    · rw [dgs_one z]; simp
    · have h2 : n / 10 < 10 ^ (k + 1) := by
        have : (10 : Nat) ^ (k + 1 + 1) = 10 ^ (k + 1) * 10 := Nat.pow_succ ..
        omega
      have := dgs_len k (n / 10) h2
      rw [dgs_step z, List.length_append, dgs_one (Nat.mod_lt n (by decide))]
      simp
      omega
theorem dgs_head : ∀ (n : Nat) (r : List Nat), dgs n = 48 :: r → n = 0 := by
  intro n
  induction n using Nat.strongRecOn with
  | _ n ih =>
    intro r h
    by_cases z : n < 10
    · rw [dgs_one z] at h
      have := (List.cons.inj h).1
      omega
    · rw [dgs_step z] at h
      cases e : dgs (n / 10) with
      | nil => exact absurd e (dgs_ne _)
      | cons a l =>
        rw [e, List.cons_append] at h
        have ha := (List.cons.inj h).1
        have := ih (n / 10) (by omega) l (by rw [e, ha])
        omega
theorem dgs_read {x : Str} {n : Nat} (hx : x.cps.toList = dgs n) (hl : x.length ≤ 640) : PySem.intText? x = some (n : Int) := by
  have e := PySem.intText_digits (x := x) (by rw [hx]; exact fun c hc => dgs_dig hc) (by rw [hx]; exact dgs_ne n) (Nat.le_trans hl (by decide))
  rw [hx] at e
  rw [e]
  exact congrArg (fun z : Nat => some (z : Int)) (PySem.W.KIN.val_back n)
theorem cut_eq {c : Nat} : ∀ {a b r s : List Nat}, c ∉ a → c ∉ b → a ++ c :: r = b ++ c :: s → a = b ∧ r = s
  | [], [], r, s, _, _, h => ⟨rfl, (List.cons.inj h).2⟩
  | [], y :: b, r, s, _, hb, h => absurd (List.cons.inj h).1 fun e => hb (by rw [← e]; exact List.mem_cons_self)
  | x :: a, [], r, s, ha, _, h => absurd (List.cons.inj h).1 fun e => ha (by rw [e]; exact List.mem_cons_self)
  | x :: a, y :: b, r, s, ha, hb, h => by
    obtain ⟨e1, e2⟩ := List.cons.inj h
    obtain ⟨e3, e4⟩ := cut_eq (fun m => ha (List.mem_cons_of_mem _ m)) (fun m => hb (List.mem_cons_of_mem _ m)) e2
    exact ⟨by rw [e1, e3], e4⟩
theorem join_cons (c : Nat) (t u : Str) (ts : List Str) : (Str.join ⟨#[c]⟩ (t :: u :: ts)).cps.toList = t.cps.toList ++ c :: (Str.join ⟨#[c]⟩ (u :: ts)).cps.toList := by
  show (t ++ ⟨#[c]⟩ ++ Str.join ⟨#[c]⟩ (u :: ts)).cps.toList = _
  rw [app_cps, app_cps]
  simp
theorem join_inj (c : Nat) : ∀ (ts us : List Str), ts ≠ [] → us ≠ [] → (∀ t ∈ ts, c ∉ t.cps.toList) → (∀ u ∈ us, c ∉ u.cps.toList) → Str.join ⟨#[c]⟩ ts = Str.join ⟨#[c]⟩ us → ts = us
  | [], _, h, _, _, _, _ => absurd rfl h
  | _, [], _, h, _, _, _ => absurd rfl h
  | [t], [u], _, _, _, _, h => by rw [show t = u from h]
  | [t], u :: v :: us, _, _, ht, _, h => by
    exfalso
    have e : t.cps.toList = u.cps.toList ++ c :: (Str.join ⟨#[c]⟩ (v :: us)).cps.toList := by rw [← join_cons, ← h]; rfl
    exact ht t (List.mem_singleton.mpr rfl) (by rw [e]; simp)
  | t :: v :: ts, [u], _, _, _, hu, h => by
    exfalso
    have e : u.cps.toList = t.cps.toList ++ c :: (Str.join ⟨#[c]⟩ (v :: ts)).cps.toList := by rw [← join_cons, h]; rfl
    exact hu u (List.mem_singleton.mpr rfl) (by rw [e]; simp)
  | t :: t2 :: ts, u :: u2 :: us, _, _, ht, hu, h => by
    have e := congrArg (fun x : Str => x.cps.toList) h
    rw [join_cons, join_cons] at e
    obtain ⟨e1, e2⟩ := cut_eq (ht t List.mem_cons_self) (hu u List.mem_cons_self) e
    rw [str_ext e1, join_inj c (t2 :: ts) (u2 :: us) (by simp) (by simp) (fun z hz => ht z (List.mem_cons_of_mem _ hz)) (fun z hz => hu z (List.mem_cons_of_mem _ hz)) (str_ext e2)]
theorem split_join (c : Nat) (ts : List Str) (h0 : ts ≠ []) (h : ∀ t ∈ ts, c ∉ t.cps.toList) : Txt.split (Str.join ⟨#[c]⟩ ts) ⟨#[c]⟩ = ts :=
  join_inj c _ _ (fun e => by have := PyProof.Rows.split_pos (Str.join ⟨#[c]⟩ ts) ⟨#[c]⟩; rw [e] at this; exact absurd this (by decide)) h0 (StrLaws.split_free _ c) h (StrLaws.join_split _ _)
theorem part_none {x : Str} {c : Nat} (h : c ∉ x.cps.toList) : Txt.partition x ⟨#[c]⟩ = (x, Str.empty, Str.empty) := by
  have e : (occurrences x ⟨#[c]⟩ 0 x.length 1).isEmpty = true := by rw [PyProof.Rows.empty_one, decide_eq_false h]; rfl
  unfold Txt.partition
  rw [List.isEmpty_iff.mp e]
theorem part_some {x a b : Str} {c : Nat} (h : c ∉ a.cps.toList) (hx : x.cps.toList = a.cps.toList ++ c :: b.cps.toList) : Txt.partition x ⟨#[c]⟩ = (a, ⟨#[c]⟩, b) := by
  have hm : c ∈ x.cps.toList := by rw [hx]; simp
  have e : (occurrences x ⟨#[c]⟩ 0 x.length 1).isEmpty = false := by rw [PyProof.Rows.empty_one, decide_eq_true hm]; rfl
  have s1 := StrLaws.partition_sum x ⟨#[c]⟩
  have p2 : (Txt.partition x ⟨#[c]⟩).2.1 = ⟨#[c]⟩ := by
    unfold Txt.partition
    cases q : occurrences x ⟨#[c]⟩ 0 x.length 1 with
    | nil => rw [q] at e; cases e
    | cons i r => rfl
  have p1 : c ∉ (Txt.partition x ⟨#[c]⟩).1.cps.toList := by
    rcases PyProof.Rows.partition_head x ⟨#[c]⟩ with ⟨_, z⟩ | ⟨i, z1, z2, z3⟩
    · obtain ⟨j, hj⟩ := List.getElem?_of_mem hm
      exact absurd ((StrLaws.subAt_one x c j).mpr hj) (z j)
    · rw [z1]
      exact StrLaws.part_free x c 0 i (Nat.le_trans (Nat.le_add_right _ _) z2.1) fun k _ hk => z3 k hk
  have e2 := congrArg (fun z : Str => z.cps.toList) s1
  rw [app_cps, app_cps, p2, hx] at e2
  have e3 : (Txt.partition x ⟨#[c]⟩).1.cps.toList ++ c :: (Txt.partition x ⟨#[c]⟩).2.2.cps.toList = a.cps.toList ++ c :: b.cps.toList := by rw [← e2]; simp
  obtain ⟨q1, q2⟩ := cut_eq p1 h e3
  exact Prod.ext (str_ext q1) (Prod.ext p2 (str_ext q2))
theorem slice_tail {x y : Str} {c : Nat} (h : x.cps.toList = c :: y.cps.toList) : Txt.slice x (some 1) none = y := by
  have hl : x.length = y.cps.toList.length + 1 := by rw [len_cps, h]; rfl
  have e : strSliceIndices (some 1) none 1 x.length = strSliceIndices (some ((1 : Nat) : Int)) (some ((x.length : Nat) : Int)) 1 x.length := by
    unfold strSliceIndices
    have h1 : ¬ ((x.length : Int) < 0) := by omega
    have h2 : max (0 : Int) (min (x.length : Int) (x.length : Int)) = x.length := by omega
    simp [h1, h2]
  have p := StrLaws.sliced_plain x (a := 1) (b := x.length) (by omega) (Nat.le_refl _)
  rw [← e] at p
  have l : (strSliceIndices (some 1) none 1 x.length).length = x.length - 1 := by
    rw [e, StrLaws.strSliceIndices_plain (by omega) (Nat.le_refl _)]
    simp
  unfold Txt.slice
  rw [if_neg (by rw [l]; simp; omega), p]
  apply str_ext
  rw [h]
  simp [hl]
  exact List.take_of_length_le (by simp)
theorem start_yes {x : Str} {c : Nat} {r : List Nat} (h : x.cps.toList = c :: r) : Txt.startswith x ⟨#[c]⟩ = true := by
  obtain ⟨h1, h2⟩ := (StrLaws.subAt_one x c 0).mpr (by rw [h]; rfl)
  unfold Txt.startswith
  rw [h2, decide_eq_true h1]; rfl
theorem start_no {x : Str} {c : Nat} (h : x.cps.toList[0]? ≠ some c) : Txt.startswith x ⟨#[c]⟩ = false := by
  cases e : Txt.startswith x ⟨#[c]⟩ with
  | false => rfl
  | true =>
    unfold Txt.startswith at e
    rw [Bool.and_eq_true, decide_eq_true_eq] at e
    exact absurd ((StrLaws.subAt_one x c 0).mp e) h
end SD
set_option Elab.async false
set_option linter.all false
set_option maxRecDepth 100000
namespace SD
open PySem PySem.Spec PyProof.Rows L2
theorem t_slash : Str.ofString "/" = ⟨#[47]⟩ := by decide +kernel
theorem t_spc : Str.ofString " " = ⟨#[32]⟩ := by decide +kernel
theorem t_nl : Str.ofString "\n" = ⟨#[10]⟩ := by decide +kernel
theorem t_minus : Str.ofString "-" = ⟨#[45]⟩ := by decide +kernel
theorem t_zero : Str.ofString "0" = ⟨#[48]⟩ := by decide +kernel
theorem t_none : Str.ofString "" = Str.empty := by decide +kernel
theorem t_wall : (Str.ofString "wall").cps.toList = [119, 97, 108, 108] := by decide +kernel
theorem t_figs : (Str.ofString "0123456789").cps.toList = [48, 49, 50, 51, 52, 53, 54, 55, 56, 57] := by decide +kernel
theorem iT_cases (a : Int) : ∃ n : Nat, (a = n ∧ (iT a).cps.toList = dgs n) ∨ (a = -(n : Int) ∧ 0 < n ∧ (iT a).cps.toList = 45 :: dgs n) := by
  by_cases h : 0 ≤ a
  · obtain ⟨n, rfl⟩ := Int.eq_ofNat_of_zero_le h
    exact ⟨n, .inl ⟨rfl, iT_nat n⟩⟩
  · obtain ⟨n, e⟩ : ∃ n : Nat, a = -((n + 1 : Nat) : Int) := ⟨a.natAbs - 1, by omega⟩
    subst e
    exact ⟨n + 1, .inr ⟨rfl, by omega, iT_neg n⟩⟩
theorem iT_sign {a : Int} {c : Nat} (h : c ∈ (iT a).cps.toList) : c = 45 ∨ (48 ≤ c ∧ c ≤ 57) := by
  obtain ⟨n, ⟨_, e⟩ | ⟨_, _, e⟩⟩ := iT_cases a
  · rw [e] at h; exact .inr (dgs_dig h)
  · rw [e] at h
    rcases List.mem_cons.mp h with h | h
    · exact .inl h
    · exact .inr (dgs_dig h)
theorem iT_len {a : Int} {k : Nat} (h : a.natAbs < 10 ^ (k + 1)) : (iT a).length ≤ k + 2 := by
  obtain ⟨n, ⟨z, e⟩ | ⟨z, _, e⟩⟩ := iT_cases a
  · have := dgs_len k n (by have : a.natAbs = n := by omega
                            omega)
    rw [len_cps, e]; omega
  · have := dgs_len k n (by have : a.natAbs = n := by omega
                            omega)
    rw [len_cps, e, List.length_cons]; omega
theorem bd_ten {n : Nat} {a : Int} (h : Bd (n + 1) a) : a.natAbs < 10 ^ (n + 1) := Nat.lt_of_lt_of_le h (Nat.pow_le_pow_left (by decide) _)
theorem atI_zero {α : Type} (l : List α) : L2.atI l ((0 : Nat) : Int) = l[0]? := by
  cases l with
  | nil => rfl
  | cons a l => exact atI_nat rfl
noncomputable def sF (a b : Int) : Str := if b = 1 then iT a else iT a ++ ⟨#[47]⟩ ++ iT b
noncomputable abbrev sQ (q : Rat) : Str := sF q.num (q.den : Int)
theorem sF_sign {a b : Int} {c : Nat} (h : c ∈ (sF a b).cps.toList) : c = 45 ∨ c = 47 ∨ (48 ≤ c ∧ c ≤ 57) := by
  unfold sF at h
  split at h
  · rcases iT_sign h with z | z
    · exact .inl z
    · exact .inr (.inr z)
  · rw [app_cps, app_cps] at h
    rcases List.mem_append.mp h with h | h
    · rcases List.mem_append.mp h with h | h
      · rcases iT_sign h with z | z
        · exact .inl z
        · exact .inr (.inr z)
      · exact .inr (.inl (by simpa using h))
    · rcases iT_sign h with z | z
      · exact .inl z
      · exact .inr (.inr z)
theorem sF_len {a b : Int} (ha : Bd 900 a) (hb : Bd 900 b) : (sF a b).length ≤ 2000 := by
  have h1 := iT_len (k := 899) (bd_ten ha)
  have h2 := iT_len (k := 899) (bd_ten hb)
  unfold sF
  split
  · omega
  · rw [len_app, len_app]
    have : (⟨#[47]⟩ : Str).length = 1 := rfl
    omega
noncomputable def rowQ (q : List Rat) : Str := Str.join ⟨#[32]⟩ (Str.ofString "wall" :: q.map sQ)
noncomputable def wQ (t b X Y : Int) (w : Wl) : List Rat := [Ma.ut t b X 1 w.1, Ma.ut t b Y 1 w.2.1, Ma.ut t b X 1 w.2.2.1, Ma.ut t b Y 1 w.2.2.2]
noncomputable def rowW (t b X Y : Int) (w : Wl) : Str := rowQ (wQ t b X Y w)
theorem none_sub {M M' : MH} {p : Addr} (h : M' p = none) (s : SD.Sub M M') : M p = none := by
  cases e : M p with
  | none => rfl
  | some o => rw [s _ _ e] at h; cases h
theorem b30 {z : Int} (h : z.natAbs < 10 ^ 30) : Bd 900 z := Nat.lt_of_lt_of_le h (by show 10 ^ 30 ≤ 2 ^ 900; exact Nat.le_trans (show 10 ^ 30 ≤ 2 ^ 100 by decide) (Nat.pow_le_pow_right (by decide) (by decide)))
theorem rowW_len {t b X Y : Int} {w : Wl} (h : ∀ q ∈ wQ t b X Y w, Ma.Bq 900 q) : (rowW t b X Y w).length ≤ 10005 := by
  have j := StrLaws.join_length_le ⟨#[32]⟩ (Str.ofString "wall" :: (wQ t b X Y w).map sQ)
  have s : ∀ q ∈ wQ t b X Y w, (sQ q).length ≤ 2000 := fun q hq => sF_len (h q hq).1 (h q hq).2
  have l4 : (Str.ofString "wall").length = 4 := by rw [len_cps, t_wall]; rfl
  have a1 := s _ (show Ma.ut t b X 1 w.1 ∈ wQ t b X Y w by simp [wQ])
  have a2 := s _ (show Ma.ut t b Y 1 w.2.1 ∈ wQ t b X Y w by simp [wQ])
  have a3 := s _ (show Ma.ut t b X 1 w.2.2.1 ∈ wQ t b X Y w by simp [wQ])
  have a4 := s _ (show Ma.ut t b Y 1 w.2.2.2 ∈ wQ t b X Y w by simp [wQ])
  show (Str.join ⟨#[32]⟩ (Str.ofString "wall" :: (wQ t b X Y w).map sQ)).length ≤ _
  refine Nat.le_trans j ?_
  show (Str.ofString "wall").length + ((sQ _).length + ((sQ _).length + ((sQ _).length + ((sQ _).length + 0)))) + 5 * 1 ≤ _
  omega
theorem join_mem (s c : Nat) : ∀ ts : List Str, c ∈ (Str.join ⟨#[s]⟩ ts).cps.toList → c = s ∨ ∃ t ∈ ts, c ∈ t.cps.toList
  | [], h => by simp [Str.join, Str.empty] at h
  | [t], h => .inr ⟨t, List.mem_singleton.mpr rfl, h⟩
  | t :: u :: ts, h => by
    rw [join_cons] at h
    rcases List.mem_append.mp h with h | h
    · exact .inr ⟨t, List.mem_cons_self, h⟩
    · rcases List.mem_cons.mp h with h | h
      · exact .inl h
      · rcases join_mem s c (u :: ts) h with z | ⟨v, z1, z2⟩
        · exact .inl z
        · exact .inr ⟨v, List.mem_cons_of_mem _ z1, z2⟩
theorem rowW_ok (t b X Y : Int) (w : Wl) : 10 ∉ (rowW t b X Y w).cps.toList ∧ (rowW t b X Y w).cps.toList ≠ [] := by
  refine ⟨fun h => ?_, fun h => ?_⟩
  · rcases join_mem 32 10 _ h with z | ⟨v, z1, z2⟩
    · cases z
    · rcases List.mem_cons.mp z1 with rfl | z1
      · rw [t_wall] at z2; exact absurd z2 (by decide)
      · obtain ⟨q, _, rfl⟩ := List.mem_map.mp z1
        have := sF_sign z2
        omega
  · have e : (rowW t b X Y w).cps.toList = (Str.ofString "wall").cps.toList ++ 32 :: (Str.join ⟨#[32]⟩ ((wQ t b X Y w).map sQ)).cps.toList := join_cons 32 _ _ _
    rw [e, t_wall] at h
    cases h
end SD
set_option Elab.async false
set_option linter.all false
set_option maxRecDepth 100000
namespace SD
open PySem PySem.Spec PyProof.Rows L2
section
variable {X : Cx}
theorem pe_fmtS {e : Expr} {te : TE} {p : Pos} (he : PE X e te) : PE X (.FormattedValue e (-1) none p) (fun σ H Q => te σ H fun v H1 => ∃ x : Str, v = .str x ∧ x.length ≤ sizeLine ∧ Q (.str x) H1) := by
  intro pins s σ H Q I h
  refine wpAny_FormattedValue_plain (thn (he pins s σ H _ I h) fun v s1 zz97_0 => ?_)
  obtain ⟨x, H1, I1, r1, q1⟩ := zz97_0
  obtain ⟨y, rfl, hz, q⟩ := q1
  obtain ⟨t, rfl⟩ := r1
  exact wpAny_formatField_str ⟨.str _, H1, I1, ⟨_, rfl⟩, q⟩ ⟨.str _, H1, I1.tok _, ⟨_, rfl⟩, q⟩ hz
noncomputable def tFmtSD (t : TD) : TD := fun δ M Q => t δ M fun d M1 => ∃ x, d = .str x ∧ x.length ≤ sizeLine ∧ Q (.str x) M1
theorem de_fmtS {e : Expr} {te : TD} {p : Pos} (he : DE X e te) : DE X (.FormattedValue e (-1) none p) (tFmtSD te) :=
  pe_imp (pe_fmtS he) fun σ H Q zz98_0 => by obtain ⟨δ, M, R, hs, hM, q, fin⟩ := zz98_0; exact (⟨δ, M, _, hs, hM, q, fun d M1 v H1 g1 r1 a1 zz99_0 => by
    obtain ⟨x, ed, hi, q1⟩ := zz99_0
    subst ed
    rw [Rep] at r1; subst r1
    exact ⟨x, rfl, hi, fin _ _ _ _ g1 (by rw [Rep]) a1 q1⟩⟩)
noncomputable def tTruT (te : TD) : TTD := fun δ M Q => te δ M fun x M1 => ∃ l xs, x = .ref l ∧ M1 l = some (.lst xs) ∧ Q (!xs.isEmpty) M1
theorem dt_lstT {e : Expr} {te : TD} (he : DE X e te) (hw : ∀ whole, isTrue e X.env whole = (do let v ← whole; standAt e.pos; holding [v] (truthy v)) := by intro _; rfl) : DT X e (tTruT te) :=
  pt_imp (pt_truth he hw) fun σ H Q ⟨δ, M, R, hs, hM, q, fin⟩ => ⟨δ, M, _, hs, hM, q, fun x M1 v H1 g1 r1 a1 ⟨l, xs, ex, hl, q1⟩ => by
    subst ex
    rw [Rep] at r1; subst r1
    obtain ⟨ys, hy, ry⟩ := a1 _ _ hl
    refine ⟨_, .inl ⟨ys, SqL.of hy, rfl⟩, ?_⟩
    have e : ys.isEmpty = xs.isEmpty := by
      have := ry.length
      cases xs <;> cases ys <;> simp at this ⊢
    rw [e]
    exact fin _ _ _ g1 a1 q1⟩
end
end SD
set_option Elab.async false
set_option linter.all false
set_option maxRecDepth 100000
namespace SD
open PySem PySem.Spec PyProof.Rows L2
noncomputable def N30 (q : Rat) : Prop := q.num.natAbs < 10 ^ 30 ∧ q.den < 10 ^ 30
theorem N30.bq {q : Rat} (h : N30 q) : Ma.Bq 900 q := ⟨b30 h.1, b30 (by simpa using h.2)⟩
theorem N30.of {q : Rat} (h : Ma.Bq 60 q) : N30 q := by
  have e : (2 : Nat) ^ 60 ≤ 10 ^ 30 := by decide
  exact ⟨Nat.lt_of_lt_of_le h.1 e, Nat.lt_of_lt_of_le (by have := h.2; simpa [Bd] using this) e⟩
noncomputable def spq (s : Rat × Rat) : D := Ma.spt s.1 s.2
noncomputable def flat : List (Rat × Rat) → List Rat
  | [] => []
  | s :: r => s.1 :: s.2 :: flat r
theorem flat_app : ∀ (a b : List (Rat × Rat)), flat (a ++ b) = flat a ++ flat b
  | [], b => rfl
  | s :: a, b => by show s.1 :: s.2 :: flat (a ++ b) = _; rw [flat_app a b]; rfl
theorem flat_mem {q : Rat} : ∀ {l : List (Rat × Rat)}, q ∈ flat l → ∃ s ∈ l, q = s.1 ∨ q = s.2
  | [], h => by cases h
  | s :: r, h => by
    have h : q ∈ s.1 :: s.2 :: flat r := h
    rcases List.mem_cons.mp h with h | h
    · exact ⟨s, List.mem_cons_self, .inl h⟩
    · rcases List.mem_cons.mp h with h | h
      · exact ⟨s, List.mem_cons_self, .inr h⟩
      · obtain ⟨z, z1, z2⟩ := flat_mem h
        exact ⟨z, List.mem_cons_of_mem _ z1, z2⟩
theorem flat_len : ∀ l : List (Rat × Rat), (flat l).length = 2 * l.length
  | [] => rfl
  | s :: r => by show (flat r).length + 1 + 1 = _; rw [flat_len r, List.length_cons]; omega
noncomputable def rowS (w : Str) (l : List (Rat × Rat)) : Str := Str.join ⟨#[32]⟩ (w :: (flat l).map sQ)
noncomputable abbrev askR (s : Rat × Rat) : Str := rowS (Str.ofString "ask") [s]
theorem t_ask : (Str.ofString "ask").cps.toList = [97, 115, 107] := by decide +kernel
theorem ask_ne : Str.ofString "ask" ≠ Str.ofString "wall" := by decide +kernel
theorem seqD_mono {M M' : MH} (s : SD.Sub M M') {v : D} {ds : List D} (h : seqD M v ds) : seqD M' v ds := by
  cases v with
  | ref a => exact s _ _ h
  | tup _ => exact h
  | rol _ => exact h
  | _ => exact h.elim
theorem rowS_split {w : Str} (l : List (Rat × Rat)) (h : 32 ∉ w.cps.toList) : Txt.split (rowS w l) ⟨#[32]⟩ = w :: (flat l).map sQ := split_join 32 _ (by simp) (fun t ht => by
  rcases List.mem_cons.mp ht with rfl | ht
  · exact h
  · obtain ⟨q, _, rfl⟩ := List.mem_map.mp ht
    intro z
    have := sF_sign z
    omega)
theorem rowS_ok {w : Str} (l : List (Rat × Rat)) (h : 10 ∉ w.cps.toList) (h0 : w.cps.toList ≠ []) : 10 ∉ (rowS w l).cps.toList ∧ (rowS w l).cps.toList ≠ [] := by
  refine ⟨fun h => ?_, fun h => ?_⟩
  · rcases join_mem 32 10 _ h with z | ⟨v, z1, z2⟩
    · cases z
    · rcases List.mem_cons.mp z1 with rfl | z1
      · contradiction
      · obtain ⟨q, _, rfl⟩ := List.mem_map.mp z1
        have := sF_sign z2
        omega
  · unfold rowS at h
    cases e : (flat l).map sQ with
    | nil => rw [e] at h; exact h0 h
    | cons u us =>
      rw [e, join_cons] at h
      simp at h
theorem rowS_fit {w : Str} {l : List (Rat × Rat)} (hw : w.length ≤ 1000) (hl : l.length ≤ 2) (h : ∀ s ∈ l, Ma.Bq 900 s.1 ∧ Ma.Bq 900 s.2) : JoinOk ⟨#[32]⟩ (w :: (flat l).map sQ) = true := by
  have fl := flat_len l
  unfold JoinOk
  rw [StrLaws.joinFits (B := 2000) (fun y hy => ?_) (by rw [List.length_cons, List.length_map, fl]; show _ + _ * 1 ≤ _; omega)]
  · rfl
  · rcases List.mem_cons.mp hy with rfl | hy
    · omega
    · obtain ⟨q, hq, rfl⟩ := List.mem_map.mp hy
      obtain ⟨s, hs, e⟩ := flat_mem hq
      have := h s hs
      rcases e with rfl | rfl
      · exact sF_len this.1.1 this.1.2
      · exact sF_len this.2.1 this.2.2
theorem rowS_len {w : Str} {l : List (Rat × Rat)} (hw : w.length ≤ 1000) (hl : l.length ≤ 2) (h : ∀ s ∈ l, Ma.Bq 900 s.1 ∧ Ma.Bq 900 s.2) : (rowS w l).length ≤ 10005 := by
  have fl := flat_len l
  have j := StrLaws.join_length_le ⟨#[32]⟩ (w :: (flat l).map sQ)
  have s := StrLaws.sumLen_le (B := 2000) (w :: (flat l).map sQ) fun y hy => by
    rcases List.mem_cons.mp hy with rfl | hy
    · omega
    · obtain ⟨q, hq, rfl⟩ := List.mem_map.mp hy
      obtain ⟨s, hs, e⟩ := flat_mem hq
      have := h s hs
      rcases e with rfl | rfl
      · exact sF_len this.1.1 this.1.2
      · exact sF_len this.2.1 this.2.2
  rw [List.length_cons, List.length_map, fl] at j s
  have e : (⟨#[32]⟩ : Str).length = 1 := rfl
  rw [e] at j
  show (Str.join ⟨#[32]⟩ (w :: (flat l).map sQ)).length ≤ _
  omega
noncomputable def fraP (q : Rat) : PyData := .tuple [.int q.num, .int (q.den : Int)]
theorem pds_frs {M : MH} : ∀ l : List Rat, Pds M (l.map Ma.fr) (l.map fraP)
  | [] => .nil
  | q :: l => .cons (Pd.of rfl) (pds_frs l)
theorem lay_frs : ∀ l : List Rat, PyData.canLayAll0 (l.map fraP) = true
  | [] => rfl
  | q :: l => by rw [List.map_cons, PyData.canLayAll0, lay_frs l]; rfl
theorem any_frs : ∀ l : List Rat, ((l.map fraP).any fun q => PyData.eqv q .none) = false
  | [] => rfl
  | q :: l => by rw [List.map_cons, List.any_cons, any_frs l]; simp [fraP, PyData.eqv]
theorem flat_get : ∀ (l : List (Rat × Rat)) (j : Nat), (flat l)[2 * j]? = (l[j]?).map (·.1) ∧ (flat l)[2 * j + 1]? = (l[j]?).map (·.2)
  | [], j => by simp [flat]
  | s :: l, 0 => ⟨rfl, rfl⟩
  | s :: l, j + 1 => by
    have ih := flat_get l j
    rw [show 2 * (j + 1) = 2 * j + 1 + 1 by omega, show 2 * j + 1 + 1 + 1 = (2 * j + 1) + 1 + 1 by omega]
    exact ih
theorem qrows_len {t b X Y : Int} {ws : List Wl} {l : List (Rat × Rat)} (h : ∀ w ∈ ws, ∀ q ∈ wQ t b X Y w, Ma.Bq 900 q) (hs : ∀ s ∈ l, Ma.Bq 900 s.1 ∧ Ma.Bq 900 s.2) (hl : ws.length ≤ 40) (hl2 : l.length ≤ 40) : (Str.join ⟨#[10]⟩ (ws.map (rowW t b X Y) ++ l.map askR)).length ≤ 1000000 := by
  have j := StrLaws.join_length_le ⟨#[10]⟩ (ws.map (rowW t b X Y) ++ l.map askR)
  have s := StrLaws.sumLen_le (B := 10005) (ws.map (rowW t b X Y) ++ l.map askR) fun y hy => by
    rcases List.mem_append.mp hy with hy | hy
    · obtain ⟨w, hw, rfl⟩ := List.mem_map.mp hy
      exact rowW_len (h w hw)
    · obtain ⟨z, hz, rfl⟩ := List.mem_map.mp hy
      exact rowS_len (by rw [len_cps, t_ask]; decide) (by simp) fun y hy => by rw [List.mem_singleton.mp hy]; exact hs z hz
  rw [List.length_append, List.length_map, List.length_map] at j s
  have e : (⟨#[10]⟩ : Str).length = 1 := rfl
  rw [e] at j
  omega
end SD
set_option Elab.async false
set_option linter.all false
set_option maxRecDepth 100000
namespace SD
open PySem PySem.Spec PyProof.Rows L2
noncomputable def anD (s : Str × Int) : D := .tup [.str s.1, .int s.2]
noncomputable def anT (s : Str × Int) : Str := s.1 ++ ⟨#[32]⟩ ++ iT s.2
theorem anT_len {s : Str × Int} (h1 : s.1.length ≤ 900) (h2 : Bd 900 s.2) : (anT s).length ≤ 2000 := by
  have h := iT_len (k := 899) (bd_ten h2)
  unfold anT
  rw [len_app, len_app]
  have : (⟨#[32]⟩ : Str).length = 1 := rfl
  omega
noncomputable def spP (s : Rat × Rat) : PyData := .tuple [fraP s.1, fraP s.2]
theorem spP_refl (s : Rat × Rat) : PyData.eqv (spP s) (spP s) = true := by
  have h : ∀ q : Rat, PyData.eqv (fraP q) (fraP q) = true := fun q => by
    unfold fraP; rw [Ma.eqv_fr]; exact decide_eq_true rfl
  unfold spP
  simp only [PyData.eqv, PyData.eqvAll, h, Bool.and_true]
theorem pds_sp {M : MH} : ∀ l : List (Rat × Rat), Pds M (l.map spq) (l.map spP)
  | [] => .nil
  | s :: l => .cons (Pd.of rfl) (pds_sp l)
theorem lay_sp : ∀ l : List (Rat × Rat), PyData.canLayAll0 (l.map spP) = true
  | [] => rfl
  | s :: l => by rw [List.map_cons, PyData.canLayAll0, lay_sp l]; rfl
theorem dep_sp : ∀ l : List (Rat × Rat), PyData.depthAll (l.map spP) ≤ 10
  | [] => Nat.le_of_ble_eq_true rfl
  | s :: l => by
    rw [List.map_cons, PyData.depthAll]
    exact Nat.max_le.mpr ⟨Nat.le_of_ble_eq_true rfl, dep_sp l⟩
theorem eqvAll_sp : ∀ l : List (Rat × Rat), PyData.eqvAll (l.map spP) (l.map spP) = true
  | [] => by simp [PyData.eqvAll]
  | s :: l => by rw [List.map_cons, PyData.eqvAll, spP_refl, eqvAll_sp l]; rfl
theorem shaped_sp (l : List (Rat × Rat)) : SeqAt.shaped (.list (l.map spP)) = true := by
  unfold SeqAt.shaped
  rw [Bool.and_eq_true]
  have h2 := dep_sp l
  refine ⟨by rw [PyData.canLay0]; exact lay_sp l, decide_eq_true ?_⟩
  rw [PyData.depth]
  omega
theorem shaped_wsS (t b x y : Int) (ws : List Wl) (l : List (Rat × Rat)) : SeqAt.shaped (.tuple [.tuple (ws.map (rwP t b x y)), .list (l.map spP)]) = true := by
  unfold SeqAt.shaped
  rw [Bool.and_eq_true]
  have h1 := dep_rw t b x y ws
  have h2 := dep_sp l
  refine ⟨?_, decide_eq_true ?_⟩
  · simp only [PyData.canLay0, PyData.canLayAll0, lay_rw, lay_sp, Bool.and_true]
  · simp only [PyData.depth, PyData.depthAll]
    omega
theorem eqv_wsS (t b x y : Int) (ws : List Wl) (l : List (Rat × Rat)) : PyData.eqv (.tuple [.tuple (ws.map (rwP t b x y)), .list (l.map spP)]) (.tuple [.tuple (ws.map (rwP t b x y)), .list (l.map spP)]) = true := by
  simp only [PyData.eqv, PyData.eqvAll, eqvAll_rw, eqvAll_sp, Bool.and_true]
theorem ne_sps {l : List (Rat × Rat)} {a c : Addr} {M : MH} {Q : DK} (ha : M a = some (.lst (l.map spq))) (hc : M c = some (.lst (l.map spq))) (q : Q (.bl false) M) : rNeT (.ref a) (.ref c) M Q := by
  show rNeD (.ref a) (.ref c) M Q
  refine ⟨_, _, .lst ha (pds_sp l), .lst hc (pds_sp l), shaped_sp l, shaped_sp l, ?_⟩
  rw [show PyData.eqv (.list (l.map spP)) (.list (l.map spP)) = true by rw [PyData.eqv]; exact eqvAll_sp l]
  exact q
theorem ne_ws {t b x y : Int} {ws : List Wl} {l : List (Rat × Rat)} {a c : Addr} {M : MH} {Q : DK} (ha : M a = some (.lst (l.map spq))) (hc : M c = some (.lst (l.map spq))) (q : Q (.bl false) M) : rNeT (.tup [.tup (ws.map (rwl t b x y)), .ref a]) (.tup [.tup (ws.map (rwl t b x y)), .ref c]) M Q := by
  show rNeD (.tup [.tup (ws.map (rwl t b x y)), .ref a]) (.tup [.tup (ws.map (rwl t b x y)), .ref c]) M Q
  refine ⟨_, _, .tup (.cons (.tup (pds_rw t b x y ws)) (.cons (.lst ha (pds_sp l)) .nil)), .tup (.cons (.tup (pds_rw t b x y ws)) (.cons (.lst hc (pds_sp l)) .nil)), shaped_wsS t b x y ws l, shaped_wsS t b x y ws l, ?_⟩
  rw [eqv_wsS]
  exact q
noncomputable def anOk (s : Str × Int) : Prop := (s.1 = Str.ofString "corner" ∨ s.1 = Str.ofString "wall" ∨ s.1 = Str.ofString "land") ∧ 0 ≤ s.2 ∧ s.2 < 80
noncomputable def anP (s : Str × Int) : PyData := .tuple [.str s.1, .int s.2]
theorem anOk.len {s : Str × Int} (h : anOk s) : s.1.length ≤ 900 := by
  rcases h.1 with e | e | e <;> rw [e] <;> exact Nat.le_of_ble_eq_true (by decide +kernel)
theorem anOk.bd {s : Str × Int} (h : anOk s) : Bd 900 s.2 := by
  have := h.2
  exact Bd.mono (show Bd 64 s.2 by show s.2.natAbs < 2 ^ 64; omega) (by decide)
theorem anOk.lay {s : Str × Int} (h : anOk s) : PyData.canLay0 (anP s) = true := by
  have o : PyData.strOk s.1 = true := by
    rcases h.1 with e | e | e <;> rw [e] <;> decide +kernel
  unfold anP
  simp [PyData.canLay0, PyData.canLayAll0, o]
theorem pds_an {M : MH} : ∀ l : List (Str × Int), Pds M (l.map anD) (l.map anP)
  | [] => .nil
  | s :: l => .cons (.tup (.cons (.str _) (.cons (.int _) .nil))) (pds_an l)
theorem lay_an : ∀ {l : List (Str × Int)}, (∀ s ∈ l, anOk s) → PyData.canLayAll0 (l.map anP) = true
  | [], _ => rfl
  | s :: l, h => by rw [List.map_cons, PyData.canLayAll0, (h s List.mem_cons_self).lay, lay_an fun z hz => h z (List.mem_cons_of_mem _ hz)]; rfl
theorem dep_an : ∀ l : List (Str × Int), PyData.depthAll (l.map anP) ≤ 10
  | [] => Nat.le_of_ble_eq_true rfl
  | s :: l => by
    rw [List.map_cons, PyData.depthAll]
    exact Nat.max_le.mpr ⟨Nat.le_of_ble_eq_true rfl, dep_an l⟩
theorem eqvAll_an : ∀ l : List (Str × Int), PyData.eqvAll (l.map anP) (l.map anP) = true
  | [] => by simp [PyData.eqvAll]
  | s :: l => by
    rw [List.map_cons, PyData.eqvAll, eqvAll_an l]
    simp [anP, PyData.eqv, PyData.eqvAll]
theorem ne_ans {l : List (Str × Int)} {a c : Addr} {M : MH} {Q : DK} (h : ∀ s ∈ l, anOk s) (ha : M a = some (.lst (l.map anD))) (hc : M c = some (.lst (l.map anD))) (q : Q (.bl false) M) : rNeT (.ref a) (.ref c) M Q := by
  show rNeD (.ref a) (.ref c) M Q
  have sh : SeqAt.shaped (.list (l.map anP)) = true := by
    unfold SeqAt.shaped
    rw [Bool.and_eq_true]
    have h2 := dep_an l
    refine ⟨by rw [PyData.canLay0]; exact lay_an h, decide_eq_true ?_⟩
    rw [PyData.depth]
    omega
  refine ⟨_, _, .lst ha (pds_an l), .lst hc (pds_an l), sh, sh, ?_⟩
  rw [show PyData.eqv (.list (l.map anP)) (.list (l.map anP)) = true by rw [PyData.eqv]; exact eqvAll_an l]
  exact q
end SD
set_option Elab.async false
set_option linter.all false
set_option maxRecDepth 100000
namespace SD
open PySem PySem.Spec PyProof.Rows L2
noncomputable def rIsInstL (K : PySem.W.Frag) : RC := fun ds M Q => rIsInst K ds M Q ∨ ∃ a xs n b, ds = [.ref a, .ty n] ∧ M a = some (.lst xs) ∧ PySem.W.kitOne K (.type "list") (.type n) = some b ∧ Q (.bl b) M
section
variable {X : Cx}
theorem cd_isinstL {K : PySem.W.Frag} (hK : X.K = K) : CallD X (.builtin "isinstance") (rIsInstL K) := by
  subst hK
  intro pins s σ H vs us Q I rv z0
  obtain ⟨ds, M, R, rs, a, q, fin⟩ := z0
  rcases q with q | ⟨x, xs, n, b, ed, hM, hk, q⟩
  · exact cd_isinst pins s σ H vs us Q I rv ⟨ds, M, R, rs, a, q, fin⟩
  · subst ed
    obtain ⟨v, u, rfl, r, r'⟩ := reps2 rs
    rw [Rep] at r; subst r
    rw [Rep] at r'; subst r'
    obtain ⟨v', u', rfl, rw0, ru⟩ := vals2 rv
    cases (show v' = Value.ref x from rw0)
    cases (show u' = Value.type n from ru)
    obtain ⟨ys, hy, _⟩ := a _ _ hM
    obtain ⟨its, _, ⟨o, m, z1, z2, _⟩, _⟩ := I.list (SqL.of hy)
    have h : ∀ tk, EP X pins σ Q (.bool b) { s with toks := tk } := fun tk => ⟨.bl b, H, I.tok tk, rfl, fin _ _ _ _ .refl (by rw [Rep]) a q⟩
    exact PySem.W.kia_one PySem.W.kitx_list I.kIn ⟨o, z1, z2⟩ hk (fun z => nomatch z) h
end
end SD
set_option Elab.async false
set_option linter.all false
set_option maxRecDepth 100000
namespace Q_k64_questions_and_answers_writt
open PySem PySem.Spec PyProof.Rows L2 SD
noncomputable def top (i : Nat) : Stmt := PySem.Challenge.pw_spotlook_k64_questions_and_answers_writt.main.body.getD i (.Pass ⟨0, 0, 0, 0⟩)
noncomputable abbrev s_law_cell_at : Stmt := top 44
noncomputable abbrev s_law_take : Stmt := top 45
noncomputable abbrev s_law_scale : Stmt := top 48
noncomputable abbrev s_law_low : Stmt := top 46
noncomputable abbrev s_law_spot : Stmt := top 49
noncomputable abbrev s_law_made : Stmt := top 50
noncomputable abbrev s_law_turn : Stmt := top 51
noncomputable abbrev s_law_on : Stmt := top 52
noncomputable abbrev s_law_fair : Stmt := top 53
noncomputable abbrev s_law_shuts_here : Stmt := top 54
noncomputable abbrev s_law_number : Stmt := top 47
noncomputable abbrev s_law_shown : Stmt := top 55
noncomputable abbrev s_show_fraction : Stmt := top 31
noncomputable abbrev s_show_row : Stmt := top 32
noncomputable abbrev s_wall_rows : Stmt := top 33
noncomputable abbrev s_show_questions : Stmt := top 34
noncomputable abbrev s_law_rows : Stmt := top 56
noncomputable abbrev s_rows_of : Stmt := top 41
noncomputable abbrev s_read_number : Stmt := top 36
noncomputable abbrev s_read_top : Stmt := top 37
noncomputable abbrev s_greatest_divisor : Stmt := top 5
noncomputable abbrev s_fraction : Stmt := top 6
noncomputable abbrev s_read_fraction : Stmt := top 38
noncomputable abbrev s_read_spots : Stmt := top 39
noncomputable abbrev s_is_less : Stmt := top 11
noncomputable abbrev s_is_ahead : Stmt := top 13
noncomputable abbrev s_gap : Stmt := top 18
noncomputable abbrev s_lean : Stmt := top 19
noncomputable abbrev s_side_of : Stmt := top 20
noncomputable abbrev s_later_of : Stmt := top 14
noncomputable abbrev s_earlier_of : Stmt := top 15
noncomputable abbrev s_own_spot : Stmt := top 16
noncomputable abbrev s_own_wall : Stmt := top 17
noncomputable abbrev s_meeting_in_line : Stmt := top 24
noncomputable abbrev s_over : Stmt := top 10
noncomputable abbrev s_less : Stmt := top 8
noncomputable abbrev s_plus : Stmt := top 7
noncomputable abbrev s_times : Stmt := top 9
noncomputable abbrev s_number_between : Stmt := top 26
noncomputable abbrev s_crossing_spot : Stmt := top 25
noncomputable abbrev s_meeting : Stmt := top 23
noncomputable abbrev s_meet_as_in_plots : Stmt := top 27
noncomputable abbrev s_first_crossed : Stmt := top 28
noncomputable abbrev s_read_wall : Stmt := top 40
noncomputable abbrev s_read_questions : Stmt := top 42
noncomputable abbrev s_show_answers : Stmt := top 35
noncomputable abbrev s_law : Stmt := top 57
structure Tx (K : PySem.W.Frag) (mg : Str → Option Value) : Prop where
  f_law_cell_at : Txt K mg "_law_cell_at" s_law_cell_at
  f_law_take : Txt K mg "_law_take" s_law_take
  f_law_scale : Txt K mg "_law_scale" s_law_scale
  f_law_low : Txt K mg "_law_low" s_law_low
  f_law_spot : Txt K mg "_law_spot" s_law_spot
  f_law_made : Txt K mg "_law_made" s_law_made
  f_law_turn : Txt K mg "_law_turn" s_law_turn
  f_law_on : Txt K mg "_law_on" s_law_on
  f_law_fair : Txt K mg "_law_fair" s_law_fair
  f_law_shuts_here : Txt K mg "_law_shuts_here" s_law_shuts_here
  f_law_number : Txt K mg "_law_number" s_law_number
  f_law_shown : Txt K mg "_law_shown" s_law_shown
  f_show_fraction : Txt K mg "show_fraction" s_show_fraction
  f_show_row : Txt K mg "show_row" s_show_row
  f_wall_rows : Txt K mg "wall_rows" s_wall_rows
  f_show_questions : Txt K mg "show_questions" s_show_questions
  f_law_rows : Txt K mg "_law_rows" s_law_rows
  f_rows_of : Txt K mg "rows_of" s_rows_of
  f_read_number : Txt K mg "read_number" s_read_number
  f_read_top : Txt K mg "read_top" s_read_top
  f_greatest_divisor : Txt K mg "greatest_divisor" s_greatest_divisor
  f_fraction : Txt K mg "fraction" s_fraction
  f_read_fraction : Txt K mg "read_fraction" s_read_fraction
  f_read_spots : Txt K mg "read_spots" s_read_spots
  f_is_less : Txt K mg "is_less" s_is_less
  f_is_ahead : Txt K mg "is_ahead" s_is_ahead
  f_gap : Txt K mg "gap" s_gap
  f_lean : Txt K mg "lean" s_lean
  f_side_of : Txt K mg "side_of" s_side_of
  f_later_of : Txt K mg "later_of" s_later_of
  f_earlier_of : Txt K mg "earlier_of" s_earlier_of
  f_own_spot : Txt K mg "own_spot" s_own_spot
  f_own_wall : Txt K mg "own_wall" s_own_wall
  f_meeting_in_line : Txt K mg "meeting_in_line" s_meeting_in_line
  f_over : Txt K mg "over" s_over
  f_less : Txt K mg "less" s_less
  f_plus : Txt K mg "plus" s_plus
  f_times : Txt K mg "times" s_times
  f_number_between : Txt K mg "number_between" s_number_between
  f_crossing_spot : Txt K mg "crossing_spot" s_crossing_spot
  f_meeting : Txt K mg "meeting" s_meeting
  f_meet_as_in_plots : Txt K mg "meet_as_in_plots" s_meet_as_in_plots
  f_first_crossed : Txt K mg "first_crossed" s_first_crossed
  f_read_wall : Txt K mg "read_wall" s_read_wall
  f_read_questions : Txt K mg "read_questions" s_read_questions
  f_show_answers : Txt K mg "show_answers" s_show_answers
  f_law : Txt K mg "law" s_law
  b_abs : mg "abs" = none
  b_all : mg "all" = none
  b_any : mg "any" = none
  b_enumerate : mg "enumerate" = none
  b_int : mg "int" = none
  b_isinstance : mg "isinstance" = none
  b_len : mg "len" = none
  b_list : mg "list" = none
  b_max : mg "max" = none
  b_min : mg "min" = none
  b_range : mg "range" = none
  b_str : mg "str" = none
  b_tuple : mg "tuple" = none
  g_MOST_FIGURES : ∃ t, mg "MOST_FIGURES" = some (.int 30 t)
  g_MOST_WALLS : ∃ t, mg "MOST_WALLS" = some (.int 40 t)
theorem sc_law_cell_at : FnScope ["_law_script", "_law_k"] ["_law_script", "_law_k"] (defScope s_law_cell_at) := ⟨rfl, rfl, rfl, by decide, rfl, by decide, by decide⟩
inductive Cn_law_cell_at (x y : D) (M : MH) (Q : DK) : Prop
  | mk (ns : _) (k : _) (hh0 : x = .rol (List.map D.int ns)) (hh1 : y = .int k) (hh2 : 0 ≤ k) (hh3 : ∀ z, Q (.int z) M) : Cn_law_cell_at x y M Q
noncomputable def sp_law_cell_at : SpD := fun ds M Q => match ds with
  | [x, y] => Cn_law_cell_at x y M Q
  | _ => False
theorem ln_law_cell_at : ∀ ds M Q, sp_law_cell_at ds M Q → ds.length = 2 := fun ds M Q h => by
  unfold sp_law_cell_at at h
  split at h
  · rfl
  · exact h.elim
set_option maxHeartbeats 4000000 in
theorem c_law_cell_at {P : Program} {w : World} {K : PySem.W.Frag} {mg : Str → Option Value} {base : Heap} (T : Tx K mg) : Cal P w K mg base 1 "_law_cell_at" sp_law_cell_at := by
  refine calD (k := 0) (N := ["_law_script", "_law_k"]) (ps := ["_law_script", "_law_k"]) T.f_law_cell_at sc_law_cell_at (fun _ _ _ _ _ _ us hl => by obtain ⟨_, _, rfl⟩ := SD.ln_2 hl; rfl) ln_law_cell_at fun f cdv A outer s H E hr => ⟨_, (dss_cons (ds_if (dt_cmp (od_ltX hr.units) (dv 1) (de_callB cd_len rfl T.b_len bt_len (da_cons (dv 0) da_nil))) (dss_one (ds_ret (de_ix (dv 0) (dv 1)))) dss_nil)
      (dss_one (ds_ret de_int))), fun ds M Q h => ?r⟩
  case r =>
    unfold sp_law_cell_at at h
    split at h
    case h_2 => exact h.elim
    obtain ⟨ns, k, rfl, rfl, hk, q⟩ := h
    (repeat (first | refine ⟨_, rfl, ?_⟩ | refine ⟨trivial, ?_⟩ | refine ⟨_, _, rfl, ?_⟩ | refine ⟨rfl, ?_⟩ | refine ⟨Nat.le_of_ble_eq_true rfl, ?_⟩))
    refine ite2 (fun hl => ?_) (fun _ => ?_)
    · have hl' : k < (ns.length : Int) := by simpa using hl
      obtain ⟨j, rfl⟩ : ∃ j : Nat, k = (j : Int) := ⟨k.toNat, by omega⟩
      have hj : j < ns.length := by omega
      refine ⟨_, rfl, _, rfl, .int ns[j], atI_nat (by simp [hj]), rtn (q _)⟩
    · exact rtn (q 0)
theorem sc_law_take : FnScope ["_law_row", "_law_base", "_law_rest", "_law_number_here"] ["_law_row", "_law_base"] (defScope s_law_take) := ⟨rfl, rfl, rfl, by decide, rfl, by decide, by decide⟩
inductive Cn_law_take (y z : D) (M : MH) (Q : DK) : Prop
  | mk (r : _) (b : _) (x : _) (c : _) (hh0 : y = .ref r) (hh1 : z = .int b) (hh2 : M r = some (.lst [.int x, .int c])) (hh3 : 0 ≤ c) (hh4 : c < 1000000) (hh5 : 0 < b) (hh6 : Bd 8000 b) (hh7 : ∀ x' v, 0 ≤ v → v < b → Q (.int v) (updM M r (.lst [.int x', .int (c + 1)]))) : Cn_law_take y z M Q
noncomputable def sp_law_take : SpD := fun ds M Q => match ds with
  | [y, z] => Cn_law_take y z M Q
  | _ => False
theorem ln_law_take : ∀ ds M Q, sp_law_take ds M Q → ds.length = 2 := fun ds M Q h => by
  unfold sp_law_take at h
  split at h
  · rfl
  · exact h.elim
set_option maxHeartbeats 4000000 in
theorem c_law_take {P : Program} {w : World} {K : PySem.W.Frag} {mg : Str → Option Value} {base : Heap} (T : Tx K mg) : Cal P w K mg base 1 "_law_take" sp_law_take := by
  refine calD (k := 0) (N := ["_law_row", "_law_base", "_law_rest", "_law_number_here"]) (ps := ["_law_row", "_law_base"]) T.f_law_take sc_law_take (fun _ _ _ _ _ _ us hl => by obtain ⟨_, _, rfl⟩ := SD.ln_2 hl; rfl) ln_law_take fun f cdv A outer s H E hr => ⟨_, (dss_cons (ds_asg (de_op od_add (de_ix (dv 0) de_int) de_int) (dg_sub (dv 0) de_int))
      (dss_cons (ds_if (dt_cmp (od_geX hr.units) (de_ix (dv 0) de_int) (de_op od_pow de_int de_int)) (dss_cons (ds_set 2 sc_law_take.nd (de_op od_sub (de_ix (dv 0) de_int) (de_op od_pow de_int de_int)))
      (dss_cons (ds_asg (de_op od_add (de_op od_pow de_int de_int) (de_op od_fd (dv 2) (dv 1))) (dg_sub (dv 0) de_int))
      (dss_one (ds_ret (de_op od_mod (dv 2) (dv 1)))))) dss_nil)
      (dss_cons (ds_set 3 sc_law_take.nd (de_op od_mod (de_op od_add (de_op od_add (de_op od_add (de_op od_mul (de_ix (dv 0) de_int) de_int) (de_op od_mul (de_op od_mul de_int (de_ix (dv 0) de_int)) (de_ix (dv 0) de_int))) (de_op od_mul de_int (de_ix (dv 0) de_int))) de_int) de_int))
      (dss_cons (ds_set 3 sc_law_take.nd (de_op od_mod (de_op od_add (de_op od_add (de_op od_mul (dv 3) (dv 3)) (de_op od_mul de_int (dv 3))) (de_ix (dv 0) de_int)) de_int))
      (dss_one (ds_ret (de_op od_mod (de_op od_fd (dv 3) de_int) (dv 1)))))))), fun ds M Q h => ?r⟩
  case r =>
    unfold sp_law_take at h
    split at h
    case h_2 => exact h.elim
    obtain ⟨r, b, x, c, rfl, rfl, hM, hc0, hc1, hb, hbd, q⟩ := h
    have hc64 : Bd 64 (c + 1) := by show (c + 1).natAbs < 2 ^ 64; omega
    have hb0 : b ≠ 0 := by omega
    have hm : ∀ n : Int, 0 ≤ n.fmod b ∧ n.fmod b < b := fun n => ⟨Int.fmod_nonneg_of_pos _ hb, Int.fmod_lt_of_pos _ hb⟩
    refine ⟨_, rfl, _, _, hM, rfl, ?_⟩
    refine ⟨_, rfl, _, _, hM, rfl, ?_⟩
    refine ⟨_, rfl, _, _, updM_same, rfl, ⟨by decide, by decide, by decide⟩, trivial, _, rfl, ?_⟩
    refine ite2 (fun h => ?_) (fun h => ?_)
    · refine ⟨_, rfl, _, _, updM_same, rfl, ⟨by decide, by decide, by decide⟩, trivial, ?_⟩
      refine ⟨⟨by decide, by decide, by decide⟩, _, rfl, _, rfl, ⟨hb0, hbd⟩, _, rfl, _, _, updM_same, rfl, ?_⟩
      refine ⟨_, rfl, _, rfl, hb0, ?_⟩
      rw [updM_updM]
      exact rtn (q _ _ (hm _).1 (hm _).2)
    · refine ⟨_, rfl, _, _, updM_same, rfl, mulOk_r (by decide), ?_⟩
      refine ⟨_, rfl, _, _, updM_same, rfl, mulOk_l (by decide), ?_⟩
      refine ⟨_, rfl, _, _, updM_same, rfl, mulOk_r hc64, ?_⟩
      refine ⟨_, rfl, _, _, updM_same, rfl, mulOk_l (by decide), (show (2147483399 : Int) ≠ 0 by decide), ?_⟩
      have hn : ∀ n : Int, Bd 64 (n.fmod 2147483399) := fun n => by
        have h1 := Int.fmod_nonneg_of_pos n (show (0 : Int) < 2147483399 by decide)
        have h2 := Int.fmod_lt_of_pos n (show (0 : Int) < 2147483399 by decide)
        show (n.fmod 2147483399).natAbs < 2 ^ 64
        omega
      refine ⟨_, rfl, _, rfl, mulOk_l (hn _), _, rfl, mulOk_l (by decide), _, rfl, _, _, updM_same, rfl, (show (2147483647 : Int) ≠ 0 by decide), ?_⟩
      refine ⟨_, rfl, ⟨by decide, bd64 (by decide)⟩, _, rfl, hb0, ?_⟩
      exact rtn (q _ _ (hm _).1 (hm _).2)
theorem sc_law_scale : FnScope ["_law_row", "_law_top", "_law_bottom", "_law_far"] ["_law_row"] (defScope s_law_scale) := ⟨rfl, rfl, rfl, by decide, rfl, by decide, by decide⟩
inductive Cn_law_scale (u : D) (M : MH) (Q : DK) : Prop
  | mk (r : Addr) (x c : Int) (hh0 : u = .ref r) (hh1 : M r = some (.lst [.int x, .int c])) (hh2 : 0 ≤ c) (hh3 : c < 900000) (hh4 : ∀ x' c' t b p q, Scl t b p q → 0 ≤ c' → c' ≤ c + 10 → Q (scl t b p q) (updM M r (.lst [.int x', .int c']))) : Cn_law_scale u M Q
noncomputable def sp_law_scale : SpD := fun ds M Q => match ds with
  | [u] => Cn_law_scale u M Q
  | _ => False
theorem ln_law_scale : ∀ ds M Q, sp_law_scale ds M Q → ds.length = 1 := fun ds M Q h => by
  unfold sp_law_scale at h
  split at h
  · rfl
  · exact h.elim
set_option maxHeartbeats 4000000 in
theorem c_law_scale {P : Program} {w : World} {K : PySem.W.Frag} {mg : Str → Option Value} {base : Heap} (T : Tx K mg) : Cal P w K mg base 2 "_law_scale" sp_law_scale := by
  refine calD (k := 1) (N := ["_law_row", "_law_top", "_law_bottom", "_law_far"]) (ps := ["_law_row"]) T.f_law_scale sc_law_scale (fun _ _ _ _ _ _ us hl => by obtain ⟨_, rfl⟩ := SD.ln_1 hl; rfl) ln_law_scale fun f cdv A outer s H E hr => ⟨_, (dss_cons (ds_par 1 2 rfl sc_law_scale.nd (da_cons (de_op od_add de_int (de_call ((c_law_take T).mono (by decide)) hr (da_cons (dv 0) (da_cons de_int da_nil)))) (da_cons (de_op od_add de_int (de_call ((c_law_take T).mono (by decide)) hr (da_cons (dv 0) (da_cons de_int da_nil)))) da_nil)))
      (dss_cons (ds_if (dt_cmp (od_eq hr.units) (de_call ((c_law_take T).mono (by decide)) hr (da_cons (dv 0) (da_cons de_int da_nil))) de_int) (dss_one (ds_par 1 2 rfl sc_law_scale.nd (da_cons (de_op od_add de_int (de_call ((c_law_take T).mono (by decide)) hr (da_cons (dv 0) (da_cons (de_op od_pow de_int de_int) da_nil)))) (da_cons (de_op od_add de_int (de_call ((c_law_take T).mono (by decide)) hr (da_cons (dv 0) (da_cons (de_op od_pow de_int de_int) da_nil)))) da_nil)))) dss_nil)
      (dss_cons (ds_set 3 sc_law_scale.nd (de_ix (de_lst (da_cons de_int (da_cons (de_op od_pow de_int de_int) da_nil))) (de_callTy cd_int rfl T.b_int bt_int (da_cons (de_cmp (od_eq hr.units) (de_call ((c_law_take T).mono (by decide)) hr (da_cons (dv 0) (da_cons de_int da_nil))) de_int) da_nil))))
      (dss_one (ds_ret (de_tup (da_cons (dv 1) (da_cons (dv 2) (da_cons (de_op od_mul (dv 3) (de_op od_sub (de_call ((c_law_take T).mono (by decide)) hr (da_cons (dv 0) (da_cons de_int da_nil))) de_int)) (da_cons (de_op od_mul (dv 3) (de_op od_sub (de_call ((c_law_take T).mono (by decide)) hr (da_cons (dv 0) (da_cons de_int da_nil))) de_int)) da_nil)))))))))), fun ds M Q h => ?r⟩
  case r =>
    unfold sp_law_scale at h
    split at h
    case h_2 => exact h.elim
    obtain ⟨r, x, c, rfl, hM, hc0, hc1, k⟩ := h
    refine ⟨_, rfl, r, 6, x, c, rfl, rfl, hM, hc0, by omega, by decide, bd64 (by decide), fun x1 v1 h10 h11 => ?_⟩
    refine ⟨_, rfl, r, 6, x1, c + 1, rfl, rfl, updM_same, by omega, by omega, by decide, bd64 (by decide), fun x2 v2 h20 h21 => ?_⟩
    refine ⟨_, _, rfl, ?_⟩
    (try dsimp only [SD.gNameD])
    refine seq_cut (fun δ M' => ∃ x c' t b o3, 0 ≤ c' ∧ c' ≤ c + 5 ∧ (0 < t ∧ t ≤ 10 ^ 9 ∧ 0 < b ∧ b ≤ 10 ^ 9) ∧ M' = updM M r (.lst [.int x, .int c']) ∧ δ = [some (.ref r), some (.int t), some (.int b), o3]) ?_ (fun hu => ?_)
    rotate_left
    · refine ⟨_, rfl, r, 4, x2, c + 1 + 1, rfl, rfl, updM_same, by omega, by omega, by decide, bd64 (by decide), fun x3 v3 h30 h31 => ⟨_, rfl, ?_⟩⟩
      refine ite2 (fun _ => ?_) (fun _ => ?_)
      · refine ⟨_, rfl, ⟨by decide, by decide, by decide⟩, r, 10 ^ 9, x3, c + 1 + 1 + 1, rfl, rfl, updM_same, by omega, by omega, by decide, bd64 (by decide), fun x4 v4 h40 h41 => ?_⟩
        refine ⟨_, rfl, ⟨by decide, by decide, by decide⟩, r, 10 ^ 9, x4, c + 1 + 1 + 1 + 1, rfl, rfl, updM_same, by omega, by omega, by decide, bd64 (by decide), fun x5 v5 h50 h51 => ?_⟩
        refine ⟨_, _, rfl, hu _ _ ⟨x5, c + 1 + 1 + 1 + 1 + 1, 1 + v4, 1 + v5, none, by omega, by omega, by omega, ?_, rfl⟩⟩
        simp only [updM_updM]
      · refine hu _ _ ⟨x3, c + 1 + 1 + 1, 1 + v1, 1 + v2, none, by omega, by omega, by omega, ?_, rfl⟩
        simp only [updM_updM]
    rintro δ M' ⟨x, c', t, b, o3, hc0', hc1', hb, rfl, rfl⟩
    refine ⟨⟨by decide, by decide, by decide⟩, Nat.le_of_ble_eq_true rfl, fun p hp => ?_⟩
    have npr : r ≠ p := ne_fresh updM_same hp
    refine ⟨_, rfl, r, 6, x, c', rfl, rfl, (by rw [updM_ne npr, updM_same]), by omega, by omega, by decide, bd64 (by decide), fun x6 v6 h60 h61 => ?_⟩
    have hf : ∃ f : Int, atI [D.int 1, D.int (10 ^ 15)] (if decide (v6 = 0) = true then 1 else 0) = some (.int f) ∧ 1 ≤ f ∧ f ≤ 10 ^ 15 := by
      by_cases z : v6 = 0
      · exact ⟨10 ^ 15, by rw [if_pos (by simpa using z)]; rfl, by decide, by decide⟩
      · exact ⟨1, by rw [if_neg (by simpa using z)]; rfl, by decide, by decide⟩
    obtain ⟨f, ef, hf0, hf1⟩ := hf
    refine ⟨_, _, (by rw [updM_ne npr.symm, updM_same]; rfl), ef, ?_⟩
    have bf : Bd 64 f := by show f.natAbs < 2 ^ 64; omega
    refine ⟨_, rfl, _, rfl, _, rfl, _, rfl, r, 41, x6, c' + 1, rfl, rfl, updM_same, by omega, by omega, by decide, bd64 (by decide), fun x7 v7 h70 h71 => ⟨trivial, mulOk_l bf, ?_⟩⟩
    refine ⟨_, rfl, _, rfl, r, 41, x7, c' + 1 + 1, rfl, rfl, updM_same, by omega, by omega, by decide, bd64 (by decide), fun x8 v8 h80 h81 => ⟨trivial, mulOk_l bf, Nat.le_of_ble_eq_true rfl, ?_⟩⟩
    have bnd : ∀ v : Int, 0 ≤ v → v < 41 → -(10 ^ 17) ≤ f * (v - 20) ∧ f * (v - 20) ≤ 10 ^ 17 := fun v a b => by
      have h1 : f * (v - 20) ≤ f * 20 := Int.mul_le_mul_of_nonneg_left (by omega) (by omega)
      have h2 : f * (-20) ≤ f * (v - 20) := Int.mul_le_mul_of_nonneg_left (by omega) (by omega)
      omega
    have q7 := bnd v7 h70 h71
    have q8 := bnd v8 h80 h81
    refine ⟨updM M r (.lst [.int x8, .int (c' + 1 + 1 + 1)]), ?_, k _ _ _ _ _ _ ⟨hb.1, hb.2.1, hb.2.2.1, hb.2.2.2, q7.1, q7.2, q8.1, q8.2⟩ (by omega) (by omega)⟩
    simp only [updM_updM]
    refine .updR ?_
    intro a o ne e
    have : a ≠ p := fun z => by subst z; rw [updM_ne ne] at hp; rw [hp] at e; cases e
    rw [updM_ne this, updM_ne ne]
    exact e
theorem sc_law_low : FnScope ["_law_top", "_law_bottom", "_law_one", "_law_other"] ["_law_top", "_law_bottom"] (defScope s_law_low) := ⟨rfl, rfl, rfl, by decide, rfl, by decide, by decide⟩
inductive Cn_law_low (x y : D) (M : MH) (Q : DK) : Prop
  | mk (t : _) (b : _) (hh0 : x = .int t) (hh1 : y = .int b) (hh2 : b ≠ 0) (hh3 : Bd 8000 t) (hh4 : Bd 8000 b) (hh5 : Q (Ma.fr (Rat.divInt t b)) M) : Cn_law_low x y M Q
noncomputable def sp_law_low : SpD := fun ds M Q => match ds with
  | [x, y] => Cn_law_low x y M Q
  | _ => False
theorem ln_law_low : ∀ ds M Q, sp_law_low ds M Q → ds.length = 2 := fun ds M Q h => by
  unfold sp_law_low at h
  split at h
  · rfl
  · exact h.elim
set_option maxHeartbeats 4000000 in
theorem c_law_low {P : Program} {w : World} {K : PySem.W.Frag} {mg : Str → Option Value} {base : Heap} (T : Tx K mg) : Cal P w K mg base 1 "_law_low" sp_law_low := by
  refine calD (k := 0) (N := ["_law_top", "_law_bottom", "_law_one", "_law_other"]) (ps := ["_law_top", "_law_bottom"]) T.f_law_low sc_law_low (fun _ _ _ _ _ _ us hl => by obtain ⟨_, _, rfl⟩ := SD.ln_2 hl; rfl) ln_law_low fun f cdv A outer s H E hr => ⟨_, (dss_cons (ds_set 2 sc_law_low.nd (de_callB cd_abs rfl T.b_abs bt_abs (da_cons (dv 0) da_nil)))
      (dss_cons (ds_set 3 sc_law_low.nd (de_callB cd_abs rfl T.b_abs bt_abs (da_cons (dv 1) da_nil)))
      (dss_cons (ds_while PassesOwn.never (dt_cmp (od_ne hr.units) (dv 3) de_int) (dss_one (ds_par 2 3 rfl sc_law_low.nd (da_cons (dv 3) (da_cons (de_op od_mod (dv 2) (dv 3)) da_nil)))))
      (dss_cons (ds_if (dt_cmp (od_ltX hr.units) (dv 1) de_int) (dss_one (ds_set 2 sc_law_low.nd (de_un un_negD (dv 2)))) dss_nil)
      (dss_one (ds_ret (de_tup (da_cons (de_op od_fd (dv 0) (dv 2)) (da_cons (de_op od_fd (dv 1) (dv 2)) da_nil))))))))), fun ds M Q h => ?r⟩
  case r =>
    unfold sp_law_low at h
    split at h
    case h_2 => exact h.elim
    obtain ⟨t, b, rfl, rfl, hb, ht, hbb, q⟩ := h
    refine ⟨_, rfl, _, rfl, ?_⟩
    have hg := Ma.g_pos (t := t) hb
    have hgd : Bd 8000 ((Nat.gcd t.natAbs b.natAbs : Nat) : Int) := hbb.of_le (by simpa using Nat.gcd_le_right t.natAbs (show 0 < b.natAbs by omega))
    refine ⟨fun m δ M' => M' = M ∧ ∃ x y : Nat, δ = [some (.int t), some (.int b), some (.int x), some (.int y)] ∧ Nat.gcd x y = Nat.gcd t.natAbs b.natAbs ∧ m = y, ⟨_, rfl, _, _, rfl, rfl, rfl⟩, ?_⟩
    rintro m δ M' ⟨rfl, x, y, rfl, hxy, hm⟩
    refine ⟨_, rfl, _, rfl, ?_⟩
    refine ite2 (fun h => ?_) (fun h => ?_)
    · have hy : (y : Int) ≠ 0 := by simpa using h
      refine ⟨_, rfl, _, rfl, _, rfl, hy, _, _, rfl, ?_⟩
      have hy' : 0 < y := by omega
      refine ⟨x % y, by rw [hm]; exact Nat.mod_lt _ hy', rfl, y, x % y, ?_, ?_, rfl⟩
      · rw [← Ma.mod_nat]
        rfl
      · rw [← hxy, Nat.gcd_comm x y, Nat.gcd_rec y x, Nat.gcd_comm]
    · have hy : y = 0 := by simpa using h
      subst hy
      rw [Nat.gcd_zero_right] at hxy
      subst hxy
      (repeat (first | refine ⟨_, rfl, ?_⟩ | refine ⟨trivial, ?_⟩ | refine ⟨_, _, rfl, ?_⟩ | refine ⟨rfl, ?_⟩ | refine ⟨Nat.le_of_ble_eq_true rfl, ?_⟩))
      refine ite2 (fun h => ?_) (fun h => ?_)
      · have hneg : b < 0 := by simpa using h
        obtain ⟨e1, e2⟩ := Ma.low_neg (t := t) hneg
        refine ⟨_, rfl, _, rfl, _, rfl, ⟨by omega, hgd.neg⟩, _, rfl, _, rfl, ⟨by omega, hgd.neg⟩, Nat.le_of_ble_eq_true rfl, ?_⟩
        dsimp only
        rw [e1, e2]
        exact rtn q
      · have hpos : 0 < b := by
          have : ¬ b < 0 := by simpa using h
          omega
        obtain ⟨e1, e2⟩ := Ma.low_pos (t := t) hpos
        refine ⟨_, rfl, _, rfl, ⟨by omega, hgd⟩, _, rfl, _, rfl, ⟨by omega, hgd⟩, Nat.le_of_ble_eq_true rfl, ?_⟩
        dsimp only
        rw [e1, e2]
        exact rtn q
theorem sc_law_spot : FnScope ["_law_scale_here", "_law_unit", "_law_top", "_law_bottom", "_law_x", "_law_y"] ["_law_scale_here", "_law_unit"] (defScope s_law_spot) := ⟨rfl, rfl, rfl, by decide, rfl, by decide, by decide⟩
inductive Cn_law_spot (s v : D) (M : MH) (Q : DK) : Prop
  | mk (t b x y p q : Int) (hh0 : s = scl t b x y) (hh1 : v = .tup [.int p, .int q]) (hh2 : Scl t b x y) (hh3 : (-(10 ^ 6) ≤ p ∧ p ≤ 10 ^ 6)) (hh4 : (-(10 ^ 6) ≤ q ∧ q ≤ 10 ^ 6)) (hh5 : Q (Ma.spt (Ma.ut t b x 1 p) (Ma.ut t b y 1 q)) M) : Cn_law_spot s v M Q
noncomputable def sp_law_spot : SpD := fun ds M Q => match ds with
  | [s, v] => Cn_law_spot s v M Q
  | _ => False
theorem ln_law_spot : ∀ ds M Q, sp_law_spot ds M Q → ds.length = 2 := fun ds M Q h => by
  unfold sp_law_spot at h
  split at h
  · rfl
  · exact h.elim
set_option maxHeartbeats 4000000 in
theorem c_law_spot {P : Program} {w : World} {K : PySem.W.Frag} {mg : Str → Option Value} {base : Heap} (T : Tx K mg) : Cal P w K mg base 2 "_law_spot" sp_law_spot := by
  refine calD (k := 1) (N := ["_law_scale_here", "_law_unit", "_law_top", "_law_bottom", "_law_x", "_law_y"]) (ps := ["_law_scale_here", "_law_unit"]) T.f_law_spot sc_law_spot (fun _ _ _ _ _ _ us hl => by obtain ⟨_, _, rfl⟩ := SD.ln_2 hl; rfl) ln_law_spot fun f cdv A outer s H E hr => ⟨_, (dss_cons (ds_asg (dv 0) (dg_tup rfl (dgs_cons (dg_name 2 sc_law_spot.nd) (dgs_cons (dg_name 3 sc_law_spot.nd) (dgs_cons (dg_name 4 sc_law_spot.nd) (dgs_cons (dg_name 5 sc_law_spot.nd) dgs_nil))))))
      (dss_one (ds_ret (de_tup (da_cons (de_call ((c_law_low T).mono (by decide)) hr (da_cons (de_op od_add (de_op od_mul (de_ix (dv 1) de_int) (dv 2)) (dv 4)) (da_cons (dv 3) da_nil))) (da_cons (de_call ((c_law_low T).mono (by decide)) hr (da_cons (de_op od_add (de_op od_mul (de_ix (dv 1) de_int) (dv 2)) (dv 5)) (da_cons (dv 3) da_nil))) da_nil)))))), fun ds M Q h => ?r⟩
  case r =>
    unfold sp_law_spot at h
    split at h
    case h_2 => exact h.elim
    obtain ⟨t, b, x, y, p, q, rfl, rfl, S, hp, hq, k⟩ := h
    have bt : Bd 64 t := by have := S.t0; have := S.t1; show t.natAbs < 2 ^ 64; omega
    have bp : ∀ {z : Int}, (-(10 ^ 6) ≤ z ∧ z ≤ 10 ^ 6) → Bd 64 z := fun {z} h => by show z.natAbs < 2 ^ 64; omega
    have bb : Bd 8000 b := by have := S.b0; have := S.b1; exact bd64 (by omega)
    have big : ∀ {z w : Int}, (-(10 ^ 6) ≤ z ∧ z ≤ 10 ^ 6) → (-(10 ^ 17) ≤ w ∧ w ≤ 10 ^ 17) → Bd 8000 (z * t + w) := fun {z w} h1 h2 => by
      have e1 : Bd 128 (z * t) := (bp h1).mul bt
      have e2 : Bd 128 w := bd64 (by omega)
      exact (e1.add e2).mono (by decide)
    have hb0 : b ≠ 0 := by have := S.b0; omega
    refine ⟨_, rfl, _, rfl, rfl, _, _, rfl, _, _, rfl, _, _, rfl, _, _, rfl, rfl, ?_⟩
    refine ⟨_, rfl, _, rfl, _, rfl, mulOk_r bt, _, rfl, _, rfl, p * t + x, b, rfl, rfl, hb0, big hp ⟨S.x0, S.x1⟩, bb, ?_⟩
    refine ⟨_, rfl, _, rfl, _, rfl, mulOk_r bt, _, rfl, _, rfl, q * t + y, b, rfl, rfl, hb0, big hq ⟨S.y0, S.y1⟩, bb, Nat.le_of_ble_eq_true rfl, ?_⟩
    rw [Ma.ut_one, Ma.ut_one]
    exact rtn k
theorem sc_law_made : FnScope ["_law_scale_here", "_law_shuts"] ["_law_scale_here", "_law_shuts"] (defScope s_law_made) := ⟨rfl, rfl, rfl, by decide, rfl, by decide, by decide⟩
inductive Cn_law_made (s v : D) (M : MH) (Q : DK) : Prop
  | mk (t b x y : Int) (l : Addr) (ws : List (Int × Int × Int × Int)) (hh0 : s = scl t b x y) (hh1 : v = .ref l) (hh2 : M l = some (.lst (ws.map uw))) (hh3 : Scl t b x y) (hh4 : ws.length ≤ 1000) (hh5 : (∀ w ∈ ws, Uok (10 ^ 6) w)) (hh6 : Q (.tup (ws.map (rwl t b x y))) M) : Cn_law_made s v M Q
noncomputable def sp_law_made : SpD := fun ds M Q => match ds with
  | [s, v] => Cn_law_made s v M Q
  | _ => False
theorem ln_law_made : ∀ ds M Q, sp_law_made ds M Q → ds.length = 2 := fun ds M Q h => by
  unfold sp_law_made at h
  split at h
  · rfl
  · exact h.elim
set_option maxHeartbeats 4000000 in
theorem c_law_made {P : Program} {w : World} {K : PySem.W.Frag} {mg : Str → Option Value} {base : Heap} (T : Tx K mg) : Cal P w K mg base 3 "_law_made" sp_law_made := by
  refine calD (k := 2) (N := ["_law_scale_here", "_law_shuts"]) (ps := ["_law_scale_here", "_law_shuts"]) T.f_law_made sc_law_made (fun _ _ _ _ _ _ us hl => by obtain ⟨_, _, rfl⟩ := SD.ln_2 hl; rfl) ln_law_made fun f cdv A outer s H E hr => ⟨_, (dss_one (ds_ret (de_callTy cd_tuple rfl T.b_tuple bt_tuple (da_cons (de_comp2 (CScope.of (xs := ["_law_first", "_law_second"]) (js := [0]) rfl) rfl (di_seq (dv 1)) (fun _ _ _ _ => dts_nil) (fun _ _ _ _ => (de_tup (da_cons (de_call ((c_law_spot T).mono (by decide)) hr (da_cons (dv 2) (da_cons (dv 0) da_nil))) (da_cons (de_call ((c_law_spot T).mono (by decide)) hr (da_cons (dv 2) (da_cons (dv 1) da_nil))) da_nil))))) da_nil)))), fun ds M Q h => ?r⟩
  case r =>
    unfold sp_law_made at h
    split at h
    case h_2 => exact h.elim
    obtain ⟨t, b, x, y, l, ws, rfl, rfl, hM, S, hl, hw, k⟩ := h
    refine ⟨_, rfl, ws.map uw, hM, comp_map (fun i => ((ws.map (rwl t b x y))[i]?).getD .non) (by simp; omega) (fun p ys hp => ?_) ?_ (fun p hp => ⟨_, updM_same, ?_⟩)⟩
    · show (updM M p _) l = _
      rw [updM_ne (ne_fresh hM hp)]; exact hM
    · intro i e M' hi he _
      have he : (ws.map uw)[i]? = some e := he
      rw [List.getElem?_map] at he
      cases ew : ws[i]? with
      | none => rw [ew] at he; cases he
      | some w =>
        rw [ew] at he
        cases he
        obtain ⟨u1, u2, u3, u4⟩ := hw w (List.mem_of_getElem? ew)
        refine ⟨_, ⟨_, rfl, rfl, rfl⟩, fun K hK => ?_⟩
        have hK' := hK M' .refl
        rw [getD_map ew] at hK'
        refine ⟨_, rfl, _, rfl, t, b, x, y, w.1, w.2.1, rfl, rfl, S, u1, u2, ?_⟩
        exact ⟨_, rfl, _, rfl, t, b, x, y, w.2.2.1, w.2.2.2, rfl, rfl, S, u3, u4, Nat.le_of_ble_eq_true rfl, hK'⟩
    · refine ⟨_, .new hp .refl, ?_⟩
      have e : (List.range (ws.map uw).length).map (fun i => ((ws.map (rwl t b x y))[i]?).getD .non) = ws.map (rwl t b x y) := by
        have := SD.range_getD (ws.map (rwl t b x y))
        rw [List.length_map] at this ⊢
        exact this
      dsimp only
      rw [e]
      exact k
theorem sc_law_turn : FnScope ["_law_one", "_law_two", "_law_three", "_law_far", "_law_beside", "_law_found"] ["_law_one", "_law_two", "_law_three"] (defScope s_law_turn) := ⟨rfl, rfl, rfl, by decide, rfl, by decide, by decide⟩
inductive Cn_law_turn (u v w : D) (M : MH) (Q : DK) : Prop
  | mk (a b c d e f : Int) (hh0 : u = .tup [.int a, .int b]) (hh1 : v = .tup [.int c, .int d]) (hh2 : w = .tup [.int e, .int f]) (hh3 : Bd 6 a) (hh4 : Bd 6 b) (hh5 : Bd 6 c) (hh6 : Bd 6 d) (hh7 : Q (.int (Int.sign (crs (c - a) (d - b) (e - a) (f - b)))) M) : Cn_law_turn u v w M Q
noncomputable def sp_law_turn : SpD := fun ds M Q => match ds with
  | [u, v, w] => Cn_law_turn u v w M Q
  | _ => False
theorem ln_law_turn : ∀ ds M Q, sp_law_turn ds M Q → ds.length = 3 := fun ds M Q h => by
  unfold sp_law_turn at h
  split at h
  · rfl
  · exact h.elim
set_option maxHeartbeats 4000000 in
theorem c_law_turn {P : Program} {w : World} {K : PySem.W.Frag} {mg : Str → Option Value} {base : Heap} (T : Tx K mg) : Cal P w K mg base 1 "_law_turn" sp_law_turn := by
  refine calD (k := 0) (N := ["_law_one", "_law_two", "_law_three", "_law_far", "_law_beside", "_law_found"]) (ps := ["_law_one", "_law_two", "_law_three"]) T.f_law_turn sc_law_turn (fun _ _ _ _ _ _ us hl => by obtain ⟨_, _, _, rfl⟩ := SD.ln_3 hl; rfl) ln_law_turn fun f cdv A outer s H E hr => ⟨_, (dss_cons (ds_set 3 sc_law_turn.nd (de_tup (da_cons (de_op od_sub (de_ix (dv 1) de_int) (de_ix (dv 0) de_int)) (da_cons (de_op od_sub (de_ix (dv 1) de_int) (de_ix (dv 0) de_int)) da_nil))))
      (dss_cons (ds_set 4 sc_law_turn.nd (de_tup (da_cons (de_op od_sub (de_ix (dv 2) de_int) (de_ix (dv 0) de_int)) (da_cons (de_op od_sub (de_ix (dv 2) de_int) (de_ix (dv 0) de_int)) da_nil))))
      (dss_cons (ds_set 5 sc_law_turn.nd (de_op od_sub (de_op od_mul (de_ix (dv 3) de_int) (de_ix (dv 4) de_int)) (de_op od_mul (de_ix (dv 3) de_int) (de_ix (dv 4) de_int))))
      (dss_one (ds_ret (de_op od_sub (de_callTy cd_int rfl T.b_int bt_int (da_cons (de_cmp (od_gtX hr.units) (dv 5) de_int) da_nil)) (de_callTy cd_int rfl T.b_int bt_int (da_cons (de_cmp (od_ltX hr.units) (dv 5) de_int) da_nil)))))))), fun ds M Q h => ?r⟩
  case r =>
    unfold sp_law_turn at h
    split at h
    case h_2 => exact h.elim
    obtain ⟨a, b, c, d, e, f, rfl, rfl, rfl, ha, hb, hc, hd, k⟩ := h
    refine ⟨_, rfl, _, rfl, _, rfl, _, rfl, trivial, _, rfl, _, rfl, _, rfl, _, rfl, trivial, Nat.le_of_ble_eq_true rfl, ?_⟩
    refine ⟨_, rfl, _, rfl, _, rfl, _, rfl, trivial, _, rfl, _, rfl, _, rfl, _, rfl, trivial, Nat.le_of_ble_eq_true rfl, ?_⟩
    refine ⟨_, rfl, _, rfl, _, rfl, _, rfl, mulOk_l ((hc.sub ha).mono (by decide)), _, rfl, _, rfl, _, rfl, _, rfl, mulOk_l ((hd.sub hb).mono (by decide)), trivial, ?_⟩
    refine ⟨_, rfl, trivial, _, rfl, trivial, trivial, ?_⟩
    have e1 : (if decide (0 < (c - a) * (f - b) - (d - b) * (e - a)) = true then (1 : Int) else 0) - (if decide ((c - a) * (f - b) - (d - b) * (e - a) < 0) = true then (1 : Int) else 0) = Int.sign (crs (c - a) (d - b) (e - a) (f - b)) := by
      unfold crs
      generalize (c - a) * (f - b) - (d - b) * (e - a) = z
      rcases Int.lt_trichotomy z 0 with h | h | h
      · rw [Int.sign_eq_neg_one_of_neg h, if_neg (by simp; omega), if_pos (by simpa using h)]; rfl
      · subst h; rfl
      · rw [Int.sign_eq_one_of_pos h, if_pos (by simpa using h), if_neg (by simp; omega)]; rfl
    dsimp only
    rw [e1]
    exact rtn k
theorem sc_law_on : FnScope ["_law_shut", "_law_spot_here"] ["_law_shut", "_law_spot_here"] (defScope s_law_on) := ⟨rfl, rfl, rfl, by decide, rfl, by decide, by decide⟩
inductive Cn_law_on (u v : D) (M : MH) (Q : DK) : Prop
  | mk (w : Wl) (x y : Int) (hh0 : u = uw w) (hh1 : v = .tup [.int x, .int y]) (hh2 : Un5 w) (hh3 : (0 ≤ x ∧ x ≤ 20)) (hh4 : (0 ≤ y ∧ y ≤ 20)) (hh5 : Q (.bl (decide (l1 w ≤ la x y) && decide (la x y ≤ l2 w) && decide (sd w x y = 0))) M) : Cn_law_on u v M Q
noncomputable def sp_law_on : SpD := fun ds M Q => match ds with
  | [u, v] => Cn_law_on u v M Q
  | _ => False
theorem ln_law_on : ∀ ds M Q, sp_law_on ds M Q → ds.length = 2 := fun ds M Q h => by
  unfold sp_law_on at h
  split at h
  · rfl
  · exact h.elim
set_option maxHeartbeats 4000000 in
theorem c_law_on {P : Program} {w : World} {K : PySem.W.Frag} {mg : Str → Option Value} {base : Heap} (T : Tx K mg) : Cal P w K mg base 2 "_law_on" sp_law_on := by
  refine calD (k := 1) (N := ["_law_shut", "_law_spot_here"]) (ps := ["_law_shut", "_law_spot_here"]) T.f_law_on sc_law_on (fun _ _ _ _ _ _ us hl => by obtain ⟨_, _, rfl⟩ := SD.ln_2 hl; rfl) ln_law_on fun f cdv A outer s H E hr => ⟨_, (dss_one (ds_ret (de_and (de_chain (od_leX hr.units) (od_leX hr.units) (de_ix (dv 0) de_int) (dv 1) (de_ix (dv 0) de_int)) (de_one (de_cmp (od_eq hr.units) (de_call ((c_law_turn T).mono (by decide)) hr (da_cons (de_ix (dv 0) de_int) (da_cons (de_ix (dv 0) de_int) (da_cons (dv 1) da_nil)))) de_int))))), fun ds M Q h => ?r⟩
  case r =>
    unfold sp_law_on at h
    split at h
    case h_2 => exact h.elim
    obtain ⟨w, x, y, rfl, rfl, W, hx, hy, k⟩ := h
    (try dsimp only [SD.tSeqD, SD.tAsgD, SD.gNameD, SD.tIfSD, SD.tRetD, SD.tNextD, SD.tDropD, SD.tBD, SD.tNotD])
    refine andV (decide (l1 w ≤ la x y) && decide (la x y ≤ l2 w)) (decide (sd w x y = 0)) (fun K hK => ?_) (fun _ K hK => ?_) (rtn k)
    · refine ⟨_, rfl, _, rfl, _, rfl, [w.1, w.2.1], [x, y], rfl, rfl, _, rfl, ?_⟩
      rw [le_la W.b hy]
      refine ite2 (fun h => ?_) (fun h => ?_)
      · refine ⟨_, rfl, _, rfl, [x, y], [w.2.2.1, w.2.2.2], rfl, rfl, ?_⟩
        rw [le_la hy W.d]
        have h' : decide (l1 w ≤ la x y) = true := h
        rw [h', Bool.true_and] at hK
        exact hK
      · have h' : decide (l1 w ≤ la x y) = false := eq_false_of_ne_true h
        rw [h', Bool.false_and] at hK
        exact hK
    · refine ⟨_, rfl, _, rfl, _, rfl, _, rfl, _, rfl, w.1, w.2.1, w.2.2.1, w.2.2.2, x, y, rfl, rfl, rfl, bd20 W.a, bd20 W.b, bd20 W.c, bd20 W.d, ?_⟩
      have e : decide (Int.sign (crs (w.2.2.1 - w.1) (w.2.2.2 - w.2.1) (x - w.1) (y - w.2.1)) = 0) = decide (sd w x y = 0) := by
        rw [decide_eq_decide]; exact Int.sign_eq_zero_iff_zero
      try dsimp only
      show K (.bl (decide _)) _
      rw [e]
      exact hK
theorem sc_law_fair : FnScope ["_law_one", "_law_other", "_law_shut", "_law_beside", "_law_spot_here", "_law_sides", "_law_others"] ["_law_one", "_law_other"] (defScope s_law_fair) := ⟨rfl, rfl, rfl, by decide, rfl, by decide, by decide⟩
inductive Cn_law_fair (u v : D) (M : MH) (Q : DK) : Prop
  | mk (U V : Wl) (hh0 : u = uw U) (hh1 : v = uw V) (hh2 : Un5 U) (hh3 : Un5 V) (hh4 : ∀ b : Bool, (b = true → Fair U V) → Q (.bl b) M) : Cn_law_fair u v M Q
noncomputable def sp_law_fair : SpD := fun ds M Q => match ds with
  | [u, v] => Cn_law_fair u v M Q
  | _ => False
theorem ln_law_fair : ∀ ds M Q, sp_law_fair ds M Q → ds.length = 2 := fun ds M Q h => by
  unfold sp_law_fair at h
  split at h
  · rfl
  · exact h.elim
set_option maxHeartbeats 4000000 in
theorem c_law_fair {P : Program} {w : World} {K : PySem.W.Frag} {mg : Str → Option Value} {base : Heap} (T : Tx K mg) : Cal P w K mg base 3 "_law_fair" sp_law_fair := by
  refine calD (k := 2) (N := ["_law_one", "_law_other", "_law_shut", "_law_beside", "_law_spot_here", "_law_sides", "_law_others"]) (ps := ["_law_one", "_law_other"]) T.f_law_fair sc_law_fair (fun _ _ _ _ _ _ us hl => by obtain ⟨_, _, rfl⟩ := SD.ln_2 hl; rfl) ln_law_fair fun f cdv A outer s H E hr => ⟨_, (dss_cons (ds_if (dt_cmp (od_eq hr.units) (dv 0) (dv 1)) (dss_one (ds_ret de_bl)) dss_nil)
      (dss_cons (ds_for PassesOwn.never rfl (di_seq (de_tup (da_cons (de_tup (da_cons (dv 0) (da_cons (dv 1) da_nil))) (da_cons (de_tup (da_cons (dv 1) (da_cons (dv 0) da_nil))) da_nil)))) (dg_tup rfl (dgs_cons (dg_name 2 sc_law_fair.nd) (dgs_cons (dg_name 3 sc_law_fair.nd) dgs_nil))) (dss_one (ds_for PassesOwn.never rfl (di_seq (dv 3)) (dg_name 4 sc_law_fair.nd) (dss_one (ds_if (dt_w (dw_and (dt_cmp (od_notin (ru66 hr)) (dv 4) (dv 2) (by with_unfolding_all rfl)) (dw_and1 (dt_val (de_call ((c_law_on T).mono (by decide)) hr (da_cons (dv 2) (da_cons (dv 4) da_nil))))))) (dss_one (ds_ret de_bl)) dss_nil)))))
      (dss_cons (ds_comp1 5 sc_law_fair.nd (CScope.of (xs := ["_law_spot_here"]) (js := [0]) rfl) rfl (di_seq (dv 1)) (fun _ _ _ _ => dts_nil) (fun _ _ _ _ => (de_call ((c_law_turn T).mono (by decide)) hr (da_cons (de_ix (dv 1) de_int) (da_cons (de_ix (dv 1) de_int) (da_cons (dv 0) da_nil))))))
      (dss_cons (ds_comp1 6 sc_law_fair.nd (CScope.of (xs := ["_law_spot_here"]) (js := [1]) rfl) rfl (di_seq (dv 0)) (fun _ _ _ _ => dts_nil) (fun _ _ _ _ => (de_call ((c_law_turn T).mono (by decide)) hr (da_cons (de_ix (dv 1) de_int) (da_cons (de_ix (dv 1) de_int) (da_cons (dv 0) da_nil))))))
      (dss_one (ds_ret (de_or (de_cmp (od_geX hr.units) (de_op od_mul (de_ix (dv 5) de_int) (de_ix (dv 5) de_int)) de_int) (de_one (de_cmp (od_geX hr.units) (de_op od_mul (de_ix (dv 6) de_int) (de_ix (dv 6) de_int)) de_int))))))))), fun ds M Q h => ?r⟩
  case r =>
    unfold sp_law_fair at h
    split at h
    case h_2 => exact h.elim
    obtain ⟨U, V, rfl, rfl, HU, HV, k⟩ := h
    refine ⟨_, rfl, _, rfl, _, _, Pd.of rfl, Pd.of rfl, rfl, rfl, _, rfl, ?_⟩
    refine ite2 (fun h => rtn (k false (fun z => absurd z Bool.false_ne_true))) (fun h => ?_)
    have hne : ¬ (l1 U = l1 V ∧ l2 U = l2 V) := fun ⟨z1, z2⟩ => by
      apply h
      obtain ⟨a1, a2⟩ := la_inj HU.b HV.b z1
      obtain ⟨a3, a4⟩ := la_inj HU.d HV.d z2
      simp only [PyData.eqv, PyData.eqvAll, beq_dec, a1, a2, a3, a4]
      simp
    dsimp only [SD.tNextD]
    refine seq_cut (fun δ M' => M' = M ∧ (∃ o2 o3 o4, δ = [some (uw U), some (uw V), o2, o3, o4, none, none]) ∧ (EndOk U (l1 V) (sd1 U V) ∧ EndOk U (l2 V) (sd2 U V)) ∧ (EndOk V (l1 U) (sd1 V U) ∧ EndOk V (l2 U) (sd2 V U))) ?_ (fun hu => ?_)
    rotate_left
    · refine ⟨_, rfl, _, rfl, Nat.le_of_ble_eq_true rfl, _, rfl, _, rfl, Nat.le_of_ble_eq_true rfl, Nat.le_of_ble_eq_true rfl, [.tup [uw U, uw V], .tup [uw V, uw U]], rfl, ?_⟩
      refine ⟨fun i δ M' => M' = M ∧ (∃ o2 o3 o4, δ = [some (uw U), some (uw V), o2, o3, o4, none, none]) ∧ (0 < i → EndOk U (l1 V) (sd1 U V) ∧ EndOk U (l2 V) (sd2 U V)) ∧ (1 < i → EndOk V (l1 U) (sd1 V U) ∧ EndOk V (l2 U) (sd2 V U)), ⟨rfl, ⟨_, _, _, rfl⟩, fun z => absurd z (by decide), fun z => absurd z (by decide)⟩, fun _ _ _ _ _ => rfl, ?_, ?_⟩
      · rintro i d δ M' hi hd ⟨rfl, ⟨o2, o3, o4, rfl⟩, p1, p2⟩
        have hi : i < 2 := hi
        have hd : [D.tup [uw U, uw V], .tup [uw V, uw U]][i]? = some d := hd
        have pick : ∃ A B, d = .tup [uw A, uw B] ∧ Un5 A ∧ Un5 B ∧ ((EndOk A (l1 B) (sd1 A B) ∧ EndOk A (l2 B) (sd2 A B)) → (0 < i + 1 → EndOk U (l1 V) (sd1 U V) ∧ EndOk U (l2 V) (sd2 U V)) ∧ (1 < i + 1 → EndOk V (l1 U) (sd1 V U) ∧ EndOk V (l2 U) (sd2 V U))) := by
          rcases (show i = 0 ∨ i = 1 by omega) with rfl | rfl
          · cases hd
            exact ⟨U, V, rfl, HU, HV, fun z => ⟨fun _ => z, fun y => absurd y (by decide)⟩⟩
          · cases hd
            exact ⟨V, U, rfl, HV, HU, fun z => ⟨fun _ => p1 (by decide), fun _ => z⟩⟩
        obtain ⟨A, B, rfl, HA, HB, nxt⟩ := pick
        refine ⟨_, rfl, rfl, _, _, rfl, _, _, rfl, rfl, ?_⟩
        refine ⟨_, rfl, [.tup [.int B.1, .int B.2.1], .tup [.int B.2.2.1, .int B.2.2.2]], rfl, ?_⟩
        refine ⟨fun j δ M'' => M'' = M' ∧ (∃ o4, δ = [some (uw U), some (uw V), some (uw A), some (uw B), o4, none, none]) ∧ (0 < j → EndOk A (l1 B) (sd1 A B)) ∧ (1 < j → EndOk A (l2 B) (sd2 A B)), ⟨rfl, ⟨_, rfl⟩, fun z => absurd z (by decide), fun z => absurd z (by decide)⟩, fun _ _ _ _ _ => rfl, ?_, ?_⟩
        · rintro j d δ M'' hj hd ⟨rfl, ⟨o4, rfl⟩, q1, q2⟩
          have hj : j < 2 := hj
          have hd : [D.tup [.int B.1, .int B.2.1], .tup [.int B.2.2.1, .int B.2.2.2]][j]? = some d := hd
          have pk : ∃ x y, d = .tup [.int x, .int y] ∧ (0 ≤ x ∧ x ≤ 20) ∧ (0 ≤ y ∧ y ≤ 20) ∧ (EndOk A (la x y) (sd A x y) → (0 < j + 1 → EndOk A (l1 B) (sd1 A B)) ∧ (1 < j + 1 → EndOk A (l2 B) (sd2 A B))) := by
            rcases (show j = 0 ∨ j = 1 by omega) with rfl | rfl
            · cases hd
              exact ⟨_, _, rfl, HB.a, HB.b, fun z => ⟨fun _ => z, fun y => absurd y (by decide)⟩⟩
            · cases hd
              exact ⟨_, _, rfl, HB.c, HB.d, fun z => ⟨fun _ => q1 (by decide), fun _ => z⟩⟩
          obtain ⟨x, y, rfl, hx, hy, nx2⟩ := pk
          (try dsimp only [SD.tSeqD, SD.tAsgD, SD.gNameD, SD.tIfSD, SD.tRetD, SD.tNextD, SD.tDropD, SD.tBD, SD.tNotD])
          refine andT (!(decide (A.1 = x ∧ A.2.1 = y) || decide (A.2.2.1 = x ∧ A.2.2.2 = y))) (decide (l1 A ≤ la x y) && decide (la x y ≤ l2 A) && decide (sd A x y = 0)) (fun K hK => ⟨_, rfl, _, rfl, in_two _ A x y _ _ ⟨_, rfl, hK⟩⟩) (fun _ K hK => ⟨_, rfl, _, rfl, A, x, y, rfl, rfl, HA, hx, hy, _, rfl, hK⟩) ?_
          refine ite2 (fun _ => rtn (k false (fun z => absurd z Bool.false_ne_true))) (fun h => ?_)
          exact ⟨rfl, ⟨_, rfl⟩, nx2 (endOk_of HA hy (eq_false_of_ne_true h))⟩
        · rintro δ M'' ⟨rfl, ⟨o4, rfl⟩, q1, q2⟩
          exact ⟨rfl, ⟨_, _, _, rfl⟩, nxt ⟨q1 (show 0 < 2 by decide), q2 (show 1 < 2 by decide)⟩⟩
      · rintro δ M' ⟨rfl, ⟨o2, o3, o4, rfl⟩, p1, p2⟩
        exact hu _ _ ⟨rfl, ⟨_, _, _, rfl⟩, p1 (show 0 < 2 by decide), p2 (show 1 < 2 by decide)⟩
    rintro δ M' ⟨rfl, ⟨o2, o3, o4, rfl⟩, ⟨e1, e2⟩, ⟨e3, e4⟩⟩
    refine ⟨_, rfl, [.tup [.int V.1, .int V.2.1], .tup [.int V.2.2.1, .int V.2.2.2]], rfl, comp_map (fun j => if j = 0 then .int (Int.sign (sd1 U V)) else .int (Int.sign (sd2 U V))) (Nat.le_of_ble_eq_true rfl) (fun _ _ _ => rfl) ?_ (fun p hp => ?_)⟩
    · intro j e' M2 hj he' _
      have hj : j < 2 := hj
      have he' : [D.tup [.int V.1, .int V.2.1], .tup [.int V.2.2.1, .int V.2.2.2]][j]? = some e' := he'
      rcases (show j = 0 ∨ j = 1 by omega) with rfl | rfl
      · cases he'
        exact ⟨_, rfl, fun K2 hK2 => ⟨_, rfl, _, rfl, _, rfl, _, rfl, _, rfl, U.1, U.2.1, U.2.2.1, U.2.2.2, _, _, rfl, rfl, rfl, bd20 HU.a, bd20 HU.b, bd20 HU.c, bd20 HU.d, hK2 _ .refl⟩⟩
      · cases he'
        exact ⟨_, rfl, fun K2 hK2 => ⟨_, rfl, _, rfl, _, rfl, _, rfl, _, rfl, U.1, U.2.1, U.2.2.1, U.2.2.2, _, _, rfl, rfl, rfl, bd20 HU.a, bd20 HU.b, bd20 HU.c, bd20 HU.d, hK2 _ .refl⟩⟩
    refine ⟨_, rfl, [.tup [.int U.1, .int U.2.1], .tup [.int U.2.2.1, .int U.2.2.2]], rfl, comp_map (fun j => if j = 0 then .int (Int.sign (sd1 V U)) else .int (Int.sign (sd2 V U))) (Nat.le_of_ble_eq_true rfl) (fun _ _ _ => rfl) ?_ (fun p2 hp2 => ?_)⟩
    · intro j e' M2 hj he' _
      have hj : j < 2 := hj
      have he' : [D.tup [.int U.1, .int U.2.1], .tup [.int U.2.2.1, .int U.2.2.2]][j]? = some e' := he'
      rcases (show j = 0 ∨ j = 1 by omega) with rfl | rfl
      · cases he'
        exact ⟨_, rfl, fun K2 hK2 => ⟨_, rfl, _, rfl, _, rfl, _, rfl, _, rfl, V.1, V.2.1, V.2.2.1, V.2.2.2, _, _, rfl, rfl, rfl, bd20 HV.a, bd20 HV.b, bd20 HV.c, bd20 HV.d, hK2 _ .refl⟩⟩
      · cases he'
        exact ⟨_, rfl, fun K2 hK2 => ⟨_, rfl, _, rfl, _, rfl, _, rfl, _, rfl, V.1, V.2.1, V.2.2.1, V.2.2.2, _, _, rfl, rfl, rfl, bd20 HV.a, bd20 HV.b, bd20 HV.c, bd20 HV.d, hK2 _ .refl⟩⟩
    have n12 : p ≠ p2 := ne_fresh updM_same hp2
    have c1 : (updM (updM M' p (.lst [.int (Int.sign (sd1 U V)), .int (Int.sign (sd2 U V))])) p2 (.lst [.int (Int.sign (sd1 V U)), .int (Int.sign (sd2 V U))])) p = some (.lst [.int (Int.sign (sd1 U V)), .int (Int.sign (sd2 U V))]) := by rw [updM_ne n12, updM_same]
    (try dsimp only [SD.tSeqD, SD.tAsgD, SD.gNameD, SD.tIfSD, SD.tRetD, SD.tNextD, SD.tDropD, SD.tBD, SD.tNotD])
    refine orV (decide (0 ≤ Int.sign (sd1 U V) * Int.sign (sd2 U V))) (decide (0 ≤ Int.sign (sd1 V U) * Int.sign (sd2 V U))) (fun K hK => ⟨_, rfl, _, _, c1, rfl, _, rfl, _, _, c1, rfl, mulOk_l (sg_bd _), trivial, hK⟩) (fun _ K hK => ⟨_, rfl, _, _, updM_same, rfl, _, rfl, _, _, updM_same, rfl, mulOk_l (sg_bd _), trivial, hK⟩) ?_
    refine ⟨M', .new hp2 (.new hp .refl), k _ fun z => ⟨hne, e1, e2, e3, e4, ?_⟩⟩
    rw [Bool.or_eq_true, decide_eq_true_eq, decide_eq_true_eq] at z
    exact z
theorem sc_law_shuts_here : FnScope ["_law_row", "_law_most", "_law_size", "_law_shuts", "_law_turn_here", "_law_one", "_law_other", "_law_shut"] ["_law_row", "_law_most", "_law_size"] (defScope s_law_shuts_here) := ⟨rfl, rfl, rfl, by decide, rfl, by decide, by decide⟩
inductive Cn_law_shuts_here (u m n : D) (M : MH) (Q : DK) : Prop
  | mk (r : Addr) (x c m' : Int) (hh0 : u = .ref r) (hh1 : m = .int m') (hh2 : (0 ≤ m' ∧ m' ≤ 12)) (hh3 : n = .int 5) (hh4 : M r = some (.lst [.int x, .int c])) (hh5 : 0 ≤ c) (hh6 : c < 1000) (hh7 : ∀ (M'' : MH) (x' c' : Int) (l : Addr) (ws : List Wl), r ≠ l → M'' r = some (.lst [.int x', .int c']) → M'' l = some (.lst (ws.map uw)) → 0 ≤ c' → c' ≤ c + 140 → ws.length ≤ 12 → (∀ w ∈ ws, Un5 w) → PF ws → Q (.ref l) M'') : Cn_law_shuts_here u m n M Q
noncomputable def sp_law_shuts_here : SpD := fun ds M Q => match ds with
  | [u, m, n] => Cn_law_shuts_here u m n M Q
  | _ => False
theorem ln_law_shuts_here : ∀ ds M Q, sp_law_shuts_here ds M Q → ds.length = 3 := fun ds M Q h => by
  unfold sp_law_shuts_here at h
  split at h
  · rfl
  · exact h.elim
set_option maxHeartbeats 4000000 in
theorem c_law_shuts_here {P : Program} {w : World} {K : PySem.W.Frag} {mg : Str → Option Value} {base : Heap} (T : Tx K mg) : Cal P w K mg base 4 "_law_shuts_here" sp_law_shuts_here := by
  refine calD (k := 3) (N := ["_law_row", "_law_most", "_law_size", "_law_shuts", "_law_turn_here", "_law_one", "_law_other", "_law_shut"]) (ps := ["_law_row", "_law_most", "_law_size"]) T.f_law_shuts_here sc_law_shuts_here (fun _ _ _ _ _ _ us hl => by obtain ⟨_, _, _, rfl⟩ := SD.ln_3 hl; rfl) ln_law_shuts_here fun f cdv A outer s H E hr => ⟨_, (dss_cons (ds_set 3 sc_law_shuts_here.nd (de_lst da_nil))
      (dss_cons (ds_forR PassesOwn.never rfl rfl T.b_range (da_cons (de_call ((c_law_take T).mono (by decide)) hr (da_cons (dv 0) (da_cons (de_op od_add (dv 1) de_int) da_nil))) da_nil) (dg_name 4 sc_law_shuts_here.nd) (dss_cons (ds_set 5 sc_law_shuts_here.nd (de_tup (da_cons (de_call ((c_law_take T).mono (by decide)) hr (da_cons (dv 0) (da_cons (dv 2) da_nil))) (da_cons (de_call ((c_law_take T).mono (by decide)) hr (da_cons (dv 0) (da_cons (dv 2) da_nil))) da_nil))))
      (dss_cons (ds_set 6 sc_law_shuts_here.nd (de_tup (da_cons (de_call ((c_law_take T).mono (by decide)) hr (da_cons (dv 0) (da_cons (dv 2) da_nil))) (da_cons (de_call ((c_law_take T).mono (by decide)) hr (da_cons (dv 0) (da_cons (dv 2) da_nil))) da_nil))))
      (dss_cons (ds_if (dt_w (dw_and (dt_cmp (od_ne hr.units) (dv 3) (de_lst da_nil)) (dw_and1 (dt_cmp (od_gtX hr.units) (de_call ((c_law_take T).mono (by decide)) hr (da_cons (dv 0) (da_cons de_int da_nil))) de_int)))) (dss_one (ds_set 5 sc_law_shuts_here.nd (de_ix (de_ix (dv 3) (de_call ((c_law_take T).mono (by decide)) hr (da_cons (dv 0) (da_cons (de_callB cd_len rfl T.b_len bt_len (da_cons (dv 3) da_nil)) da_nil)))) (de_call ((c_law_take T).mono (by decide)) hr (da_cons (dv 0) (da_cons de_int da_nil)))))) dss_nil)
      (dss_cons (ds_set 7 sc_law_shuts_here.nd (de_tup (da_cons (de_callB (cd_minX rfl hr.units) rfl T.b_min bt_min (da_cons (dv 5) (da_cons (dv 6) da_nil))) (da_cons (de_callB (cd_maxX rfl hr.units) rfl T.b_max bt_max (da_cons (dv 5) (da_cons (dv 6) da_nil))) da_nil))))
      (dss_one (ds_if (dt_w (dw_and (dt_cmp (od_ne hr.units) (dv 5) (dv 6)) (dw_and1 (dt_val (de_callB (cd_all rfl) rfl T.b_all bt_all (da_cons (de_comp1 (CScope.of (xs := ["_law_beside"]) (js := [7]) rfl) rfl (di_seq (dv 3)) (fun _ _ _ _ => dts_nil) (fun _ _ _ _ => (de_call ((c_law_fair T).mono (by decide)) hr (da_cons (dv 1) (da_cons (dv 0) da_nil))))) da_nil)))))) (dss_one (ds_expr (de_m_append (dv 3) (da_cons (dv 7) da_nil)))) dss_nil)))))))
      (dss_one (ds_ret (dv 3))))), fun ds M Q h => ?r⟩
  case r =>
    unfold sp_law_shuts_here at h
    split at h
    case h_2 => exact h.elim
    obtain ⟨r, x0, c0, m, rfl, rfl, hm, rfl, hM, hc0, hc1, k⟩ := h
    refine ⟨Nat.le_of_ble_eq_true rfl, fun l hl => ?_⟩
    have nrl : r ≠ l := ne_fresh hM hl
    refine ⟨_, rfl, _, rfl, r, m + 1, x0, c0, rfl, rfl, (by rw [updM_ne nrl]; exact hM), hc0, by omega, by omega, bd64 (by omega), fun x1 v h0 h1 => ?_⟩
    refine ⟨v.toNat, ?_, by omega, fun i δ M' => ∃ (x c : Int) (ws : List Wl) (o4 o5 o6 o7 : Option D), δ = [some (.ref r), some (.int m), some (.int 5), some (.ref l), o4, o5, o6, o7] ∧ M' r = some (.lst [.int x, .int c]) ∧ M' l = some (.lst (ws.map uw)) ∧ 0 ≤ c ∧ c ≤ c0 + 1 + 10 * i ∧ ws.length ≤ i ∧ (∀ w ∈ ws, Un5 w) ∧ PF ws, ?_, ?_, ?_⟩
    · rw [Int.toNat_of_nonneg h0]
    · refine ⟨x1, c0 + 1, [], _, _, _, _, rfl, updM_same, (by rw [updM_ne nrl.symm, updM_same]; rfl), by omega, by omega, by decide, fun w hw => absurd hw (by simp), pf_nil⟩
    rotate_left
    · rintro δ M' ⟨x, c, ws, o4, o5, o6, o7, rfl, hr', hl', g0, g1, g2, g3, g4⟩
      exact ⟨_, rfl, rtn (k M' x c l ws nrl hr' hl' g0 (by omega) (by omega) g3 g4)⟩
    rintro i δ M' hi ⟨x, c, ws, o4, o5, o6, o7, rfl, hr', hl', g0, g1, g2, g3, g4⟩
    have hi8 : i ≤ 12 := by omega
    refine ⟨_, rfl, _, rfl, r, 5, x, c, rfl, rfl, hr', g0, by omega, by decide, bd64 (by decide), fun x1 p hp0 hp1 => ?_⟩
    refine ⟨_, rfl, _, rfl, r, 5, x1, c + 1, rfl, rfl, updM_same, by omega, by omega, by decide, bd64 (by decide), fun x2 q hq0 hq1 => ⟨Nat.le_of_ble_eq_true rfl, ?_⟩⟩
    refine ⟨_, rfl, _, rfl, r, 5, x2, c + 1 + 1, rfl, rfl, updM_same, by omega, by omega, by decide, bd64 (by decide), fun x3 e he0 he1 => ?_⟩
    refine ⟨_, rfl, _, rfl, r, 5, x3, c + 1 + 1 + 1, rfl, rfl, updM_same, by omega, by omega, by decide, bd64 (by decide), fun x4 f hf0 hf1 => ⟨Nat.le_of_ble_eq_true rfl, ?_⟩⟩
    have hl4 : (updM (updM (updM (updM M' r (.lst [.int x1, .int (c + 1)])) r (.lst [.int x2, .int (c + 1 + 1)])) r (.lst [.int x3, .int (c + 1 + 1 + 1)])) r (.lst [.int x4, .int (c + 1 + 1 + 1 + 1)])) l = some (.lst (ws.map uw)) := by rw [updM_ne nrl.symm, updM_ne nrl.symm, updM_ne nrl.symm, updM_ne nrl.symm]; exact hl'
    have hr4 : (updM (updM (updM (updM M' r (.lst [.int x1, .int (c + 1)])) r (.lst [.int x2, .int (c + 1 + 1)])) r (.lst [.int x3, .int (c + 1 + 1 + 1)])) r (.lst [.int x4, .int (c + 1 + 1 + 1 + 1)])) r = some (.lst [.int x4, .int (c + 1 + 1 + 1 + 1)]) := updM_same
    generalize updM (updM (updM (updM M' r (.lst [.int x1, .int (c + 1)])) r (.lst [.int x2, .int (c + 1 + 1)])) r (.lst [.int x3, .int (c + 1 + 1 + 1)])) r (.lst [.int x4, .int (c + 1 + 1 + 1 + 1)]) = M4 at hl4 hr4 ⊢
    (try dsimp only [SD.gNameD])
    refine seq_cut (fun δ M' => ∃ (x c' p q : Int) (o7 : Option D), δ = [some (.ref r), some (.int m), some (.int 5), some (.ref l), some (.int (i : Int)), some (.tup [.int p, .int q]), some (.tup [.int e, .int f]), o7] ∧ M' r = some (.lst [.int x, .int c']) ∧ M' l = some (.lst (ws.map uw)) ∧ 0 ≤ c' ∧ c' ≤ c + 10 ∧ (0 ≤ p ∧ p ≤ 20) ∧ (0 ≤ q ∧ q ≤ 20)) ?_ (fun hu => ?_)
    rotate_left
    · refine ⟨_, rfl, Nat.le_of_ble_eq_true rfl, fun z hz => ?_⟩
      have nrz : r ≠ z := ne_fresh hr4 hz
      have nlz : l ≠ z := ne_fresh hl4 hz
      have hl5 : (updM M4 z (.lst [])) l = some (.lst (ws.map uw)) := by rw [updM_ne nlz]; exact hl4
      have hr5 : (updM M4 z (.lst [])) r = some (.lst [.int x4, .int (c + 1 + 1 + 1 + 1)]) := by rw [updM_ne nrz]; exact hr4
      refine ⟨_, _, .lst hl5 (pds_ws ws), .lst updM_same .nil, shaped_ws ws, rfl, _, rfl, ?_⟩
      rw [eqv_ws_nil]
      refine ite2 (fun hne => ?_) (fun hnil => ?_)
      · have hpos : 0 < ws.length := by
          cases ws with
          | nil => simp at hne
          | cons w ws => simp
        refine ⟨_, rfl, r, 3, x4, c + 1 + 1 + 1 + 1, rfl, rfl, hr5, by omega, by omega, by decide, bd64 (by decide), fun x5 v5 h50 h51 => ⟨trivial, _, rfl, ?_⟩⟩
        have hl6 : (updM (updM M4 z (.lst [])) r (.lst [.int x5, .int (c + 1 + 1 + 1 + 1 + 1)])) l = some (.lst (ws.map uw)) := by rw [updM_ne nrl.symm]; exact hl5
        refine ite2 (fun _ => ?_) (fun _ => ?_)
        · refine ⟨_, rfl, _, rfl, _, rfl, _, hl6, r, ((ws.map uw).length : Int), x5, c + 1 + 1 + 1 + 1 + 1, rfl, rfl, updM_same, by omega, by omega, by simpa using hpos, bd64 (by simp; omega), fun x6 v6 h60 h61 => ?_⟩
          obtain ⟨w, hw, ew⟩ := ws_pick (ws := ws) h60 (by simpa using h61)
          have hw5 := g3 w hw
          refine ⟨_, _, (by rw [updM_ne nrl.symm]; exact hl6), ew, ?_⟩
          refine ⟨_, rfl, r, 2, x6, c + 1 + 1 + 1 + 1 + 1 + 1, rfl, rfl, updM_same, by omega, by omega, by decide, bd64 (by decide), fun x7 v7 h70 h71 => ?_⟩
          obtain ⟨a, b, ea, ha, hb⟩ := end_pick hw5 h70 h71
          refine ⟨_, ea, hu _ _ ⟨x7, _, a, b, _, rfl, updM_same, (by rw [updM_ne nrl.symm, updM_ne nrl.symm]; exact hl6), by omega, by omega, ha, hb⟩⟩
        · exact hu _ _ ⟨x5, _, p, q, _, rfl, updM_same, hl6, by omega, by omega, by omega, by omega⟩
      · refine iteB rfl ?_
        exact hu _ _ ⟨x4, _, p, q, _, rfl, hr5, hl5, by omega, by omega, by omega, by omega⟩
    rintro δ M5 ⟨x5, c5, p, q, o7, rfl, hr5, hl5, k0, k1, hp, hq⟩
    have he : 0 ≤ e ∧ e ≤ 20 := by omega
    have hf : 0 ≤ f ∧ f ≤ 20 := by omega
    refine ⟨_, rfl, _, rfl, [p, q], [e, f], rfl, rfl, ?_⟩
    refine ⟨_, rfl, _, rfl, [p, q], [e, f], rfl, rfl, Nat.le_of_ble_eq_true rfl, ?_⟩
    refine ⟨_, rfl, _, rfl, _, _, Pd.of rfl, Pd.of rfl, rfl, rfl, _, rfl, ?_⟩
    rw [eqv_two]
    refine ite2 (fun hne => ?_) (fun _ => ?_)
    rotate_left
    · refine iteB rfl ?_
      exact ⟨x5, c5, ws, _, _, _, _, rfl, hr5, hl5, k0, by omega, by omega, g3, g4⟩
    obtain ⟨w, e1, e2, hw⟩ := order_two hp hq he hf (fun ⟨a, b⟩ => by simp [a, b] at hne)
    rw [e1, e2]
    refine ⟨_, rfl, ws.map uw, hl5, ?_⟩
    refine ⟨by simp; omega, fun z hz => ?_⟩
    have nrz : r ≠ z := ne_fresh hr5 hz
    have nlz : l ≠ z := ne_fresh hl5 hz
    refine ⟨fun j ys M' => ∃ bs : List Bool, ys = bs.map D.bl ∧ bs.length = j ∧ (∀ (t : Nat) (v : Wl), bs[t]? = some true → ws[t]? = some v → Fair w v) ∧ M' = updM M5 z (.lst ys), ⟨[], rfl, rfl, fun t v h => by simp at h, rfl⟩, ?_, ?_, ?_⟩
    · rintro j ys M' _ ⟨bs, _, _, _, rfl⟩
      show (updM M5 z _) l = _
      rw [updM_ne nlz]; exact hl5
    · rintro j ys d M' hj hd ⟨bs, rfl, hlen, hf, rfl⟩
      have hd : (ws.map uw)[j]? = some d := hd
      rw [List.getElem?_map] at hd
      cases ev : ws[j]? with
      | none => rw [ev] at hd; cases hd
      | some v =>
        rw [ev] at hd
        cases hd
        refine ⟨_, rfl, ?_⟩
        dsimp only [SD.tTrueD]
        refine iteT ?_
        refine ⟨_, rfl, _, rfl, w, v, rfl, rfl, hw, g3 v (List.mem_of_getElem? ev), fun b hb => ?_⟩
        refine ⟨_, .refl, updM_same, bs ++ [b], by simp, by simp [hlen], fun t v' ht hv' => ?_, by rw [updM_updM]⟩
        rcases Nat.lt_trichotomy t bs.length with y | y | y
        · rw [List.getElem?_append_left y] at ht
          exact hf t v' ht hv'
        · subst y
          rw [List.getElem?_append_right (Nat.le_refl _)] at ht
          have hb' : b = true := by simpa using ht
          rw [hlen, ev] at hv'
          cases hv'
          exact hb hb'
        · rw [List.getElem?_eq_none (by simp; omega)] at ht; cases ht
    rintro ys M' ⟨bs, rfl, hlen, hf, rfl⟩
    have hlen' : bs.length = ws.length := by rw [hlen]; simp
    have hl6 : (updM M5 z (.lst (bs.map D.bl))) l = some (.lst (ws.map uw)) := by rw [updM_ne nlz]; exact hl5
    have hr6 : (updM M5 z (.lst (bs.map D.bl))) r = some (.lst [.int x5, .int c5]) := by rw [updM_ne nrz]; exact hr5
    refine ⟨bs, updM_same, _, rfl, ?_⟩
    refine ite2 (fun hall => ?_) (fun _ => ?_)
    · refine ⟨_, rfl, l, _, rfl, hl6, _, rfl, ws.map uw, _, rfl, hl6, by simp; omega, ?_⟩
      refine ⟨x5, c5, ws ++ [w], _, _, _, _, rfl, by rw [updM_ne nrl]; exact hr6, by rw [updM_same, List.map_append]; rfl, k0, by omega, by simp; omega, fun v hv => ?_, pf_append g4 fun t v hv => hf t v ?_ hv⟩
      · rcases List.mem_append.mp hv with y | y
        · exact g3 v y
        · rw [List.mem_singleton.mp y]; exact hw
      · have ht : t < bs.length := by
          rw [hlen']
          exact (List.getElem?_eq_some_iff.mp hv).1
        rw [List.getElem?_eq_getElem ht]
        have := List.all_eq_true.mp hall _ (List.getElem_mem ht)
        exact congrArg some this
    · exact ⟨x5, c5, ws, _, _, _, _, rfl, hr6, hl6, k0, by omega, by omega, g3, g4⟩
theorem sc_law_number : FnScope ["_law_row", "_law_kind", "_law_most", "_law_bottom", "_law_top"] ["_law_row"] (defScope s_law_number) := ⟨rfl, rfl, rfl, by decide, rfl, by decide, by decide⟩
inductive Cn_law_number (y : D) (M : MH) (Q : DK) : Prop
  | mk (r : _) (x : _) (c : _) (hh0 : y = .ref r) (hh1 : M r = some (.lst [.int x, .int c])) (hh2 : 0 ≤ c) (hh3 : c < 900000) (hh4 : ∀ x' q, N30 q → Q (Ma.fr q) (updM M r (.lst [.int x', .int (c + 3)]))) : Cn_law_number y M Q
noncomputable def sp_law_number : SpD := fun ds M Q => match ds with
  | [y] => Cn_law_number y M Q
  | _ => False
theorem ln_law_number : ∀ ds M Q, sp_law_number ds M Q → ds.length = 1 := fun ds M Q h => by
  unfold sp_law_number at h
  split at h
  · rfl
  · exact h.elim
set_option maxHeartbeats 4000000 in
theorem c_law_number {P : Program} {w : World} {K : PySem.W.Frag} {mg : Str → Option Value} {base : Heap} (T : Tx K mg) : Cal P w K mg base 2 "_law_number" sp_law_number := by
  refine calD (k := 1) (N := ["_law_row", "_law_kind", "_law_most", "_law_bottom", "_law_top"]) (ps := ["_law_row"]) T.f_law_number sc_law_number (fun _ _ _ _ _ _ us hl => by obtain ⟨_, rfl⟩ := SD.ln_1 hl; rfl) ln_law_number fun f cdv A outer s H E hr => ⟨_, (dss_cons (ds_set 1 sc_law_number.nd (de_call ((c_law_take T).mono (by decide)) hr (da_cons (dv 0) (da_cons de_int da_nil))))
      (dss_cons (ds_set 2 sc_law_number.nd (de_ix (de_lst (da_cons de_int (da_cons de_int (da_cons de_int (da_cons (de_op od_pow de_int de_int) (da_cons (de_op od_pow de_int de_int) (da_cons de_int da_nil))))))) (dv 1)))
      (dss_cons (ds_set 3 sc_law_number.nd (de_op od_add de_int (de_call ((c_law_take T).mono (by decide)) hr (da_cons (dv 0) (da_cons (de_ix (de_lst (da_cons de_int (da_cons de_int (da_cons de_int (da_cons (de_op od_pow de_int de_int) (da_cons (de_op od_sub (de_op od_pow de_int de_int) de_int) (da_cons de_int da_nil))))))) (dv 1)) da_nil)))))
      (dss_cons (ds_set 4 sc_law_number.nd (de_op od_add (de_op od_sub (de_call ((c_law_take T).mono (by decide)) hr (da_cons (dv 0) (da_cons (de_op od_sub (de_op od_mul de_int (dv 2)) de_int) da_nil))) (dv 2)) de_int))
      (dss_one (ds_ret (de_call ((c_law_low T).mono (by decide)) hr (da_cons (dv 4) (da_cons (dv 3) da_nil))))))))), fun ds M Q h => ?r⟩
  case r =>
    unfold sp_law_number at h
    split at h
    case h_2 => exact h.elim
    obtain ⟨r, x, c, rfl, hM, hc0, hc1, k⟩ := h
    refine ⟨_, rfl, r, 6, x, c, rfl, rfl, hM, hc0, by omega, by decide, bd64 (by decide), fun x1 v hv0 hv1 => ?_⟩
    refine ⟨⟨by decide, by decide, by decide⟩, ⟨by decide, by decide, by decide⟩, Nat.le_of_ble_eq_true rfl, fun p hp => ⟨_, rfl, ?_⟩⟩
    obtain ⟨m, em, hm⟩ := Ma.pick (xs := [9, 9, 1000, 10 ^ 9, 10 ^ 30, 30]) (P := fun m => 1 ≤ m ∧ m ≤ 10 ^ 30) hv0 (by simpa using hv1) (by decide)
    have npr : r ≠ p := fun e => by subst e; rw [updM_same] at hp; cases hp
    refine ⟨_, _, updM_same, em, ?_⟩
    refine ⟨_, rfl, ⟨by decide, by decide, by decide⟩, ⟨by decide, by decide, by decide⟩, trivial, Nat.le_of_ble_eq_true rfl, fun p2 hp2 => ⟨_, rfl, ?_⟩⟩
    obtain ⟨b, eb, hb⟩ := Ma.pick (xs := [6, 12, 1000, 10 ^ 9, 10 ^ 30 - 1, 1]) (P := fun m => 1 ≤ m ∧ m ≤ 10 ^ 30 - 1) hv0 (by simpa using hv1) (by decide)
    have npr2 : r ≠ p2 := fun e => by subst e; rw [updM_ne npr, updM_same] at hp2; cases hp2
    refine ⟨_, _, updM_same, eb, r, b, x1, c + 1, rfl, rfl, by rw [updM_ne npr2, updM_ne npr, updM_same], by omega, by omega, by omega, (Ma.bd110 (by omega) (by omega)).mono (by decide), fun x2 v2 hv20 hv21 => ?_⟩
    refine ⟨_, rfl, _, rfl, mulOk_l (by decide), trivial, r, 2 * m - 1, x2, c + 1 + 1, rfl, rfl, updM_same, by omega, by omega, by omega, (Ma.bd110 (by omega) (by omega)).mono (by decide), fun x3 v3 hv30 hv31 => ?_⟩
    refine ⟨_, rfl, trivial, _, rfl, _, rfl, v3 - m + 1, 1 + v2, rfl, rfl, by omega, (Ma.bd110 (by omega) (by omega)).mono (by decide), (Ma.bd110 (by omega) (by omega)).mono (by decide), ?_⟩
    refine ⟨_, .updR (.same (.new hp2 (.new hp (.same .refl)))), ?_⟩
    rw [show c + 1 + 1 + 1 = c + 3 from by omega]
    obtain ⟨d1, d2⟩ := Ma.divInt_len (t := v3 - m + 1) (b := 1 + v2) (by omega)
    exact k _ _ ⟨by omega, by omega⟩
theorem sc_law_shown : FnScope ["_law_one"] ["_law_one"] (defScope s_law_shown) := ⟨rfl, rfl, rfl, by decide, rfl, by decide, by decide⟩
inductive Cn_law_shown (x : D) (M : MH) (Q : DK) : Prop
  | mk (a b : Int) (hh0 : x = .tup [.int a, .int b]) (hh1 : Bd 900 a) (hh2 : Bd 900 b) (hh3 : Q (.str (sF a b)) M) : Cn_law_shown x M Q
noncomputable def sp_law_shown : SpD := fun ds M Q => match ds with
  | [x] => Cn_law_shown x M Q
  | _ => False
theorem ln_law_shown : ∀ ds M Q, sp_law_shown ds M Q → ds.length = 1 := fun ds M Q h => by
  unfold sp_law_shown at h
  split at h
  · rfl
  · exact h.elim
set_option maxHeartbeats 4000000 in
theorem c_law_shown {P : Program} {w : World} {K : PySem.W.Frag} {mg : Str → Option Value} {base : Heap} (T : Tx K mg) : Cal P w K mg base 1 "_law_shown" sp_law_shown := by
  refine calD (k := 0) (N := ["_law_one"]) (ps := ["_law_one"]) T.f_law_shown sc_law_shown (fun _ _ _ _ _ _ us hl => by obtain ⟨_, rfl⟩ := SD.ln_1 hl; rfl) ln_law_shown fun f cdv A outer s H E hr => ⟨_, (dss_one (ds_ret (de_op od_addT (de_callTy cd_strI rfl T.b_str bt_str (da_cons (de_ixT (dv 0) de_int) da_nil)) (de_ixT (de_lst (da_cons (de_op od_addT de_str (de_callTy cd_strI rfl T.b_str bt_str (da_cons (de_ixT (dv 0) de_int) da_nil))) (da_cons de_str da_nil))) (de_callTy cd_intT rfl T.b_int bt_int (da_cons (de_cmp (od_eqT hr.units) (de_ixT (dv 0) de_int) de_int) da_nil)))))), fun ds M Q h => ?r⟩
  case r =>
    unfold sp_law_shown at h
    split at h
    case h_2 => exact h.elim
    obtain ⟨a, b, rfl, ha, hb, k⟩ := h
    have h1 := iT_len (k := 899) (bd_ten ha)
    have h2 := iT_len (k := 899) (bd_ten hb)
    have b1 : Bd 1900 a := ha.mono (by decide)
    have b2 : Bd 1900 b := hb.mono (by decide)
    have sz : 100000 ≤ sizeLine := Nat.le_of_ble_eq_true rfl
    have l1 : (⟨#[47]⟩ : Str).length = 1 := rfl
    refine ⟨_, rfl, _, rfl, b1, _, rfl, _, rfl, b2, (by rw [t_slash, l1]; omega), Nat.le_of_ble_eq_true rfl, fun p hp => ⟨_, rfl, _, rfl, ?_⟩⟩
    rw [t_slash, t_none]
    by_cases e : b = 1
    · have k : Q (.str (iT a)) M := by unfold sF at k; rw [if_pos e] at k; exact k
      refine ⟨_, .str Str.empty, updM_same, (by rw [decide_eq_true e]; rfl), (by show (iT a).length + 0 ≤ sizeLine; omega), M, .new hp .refl, ?_⟩
      rw [show iT a ++ Str.empty = iT a from str_ext (by rw [app_cps]; exact List.append_nil _)]
      exact k
    · have k : Q (.str (iT a ++ ⟨#[47]⟩ ++ iT b)) M := by unfold sF at k; rw [if_neg e] at k; exact k
      refine ⟨_, .str (⟨#[47]⟩ ++ iT b), updM_same, (by rw [decide_eq_false e]; rfl), (by rw [len_app, l1]; omega), M, .new hp .refl, ?_⟩
      rw [show iT a ++ (⟨#[47]⟩ ++ iT b) = iT a ++ ⟨#[47]⟩ ++ iT b from str_ext (by rw [app_cps, app_cps, app_cps, app_cps, List.append_assoc])]
      exact k
theorem sc_show_fraction : FnScope ["one", "top", "bottom"] ["one"] (defScope s_show_fraction) := ⟨rfl, rfl, rfl, by decide, rfl, by decide, by decide⟩
inductive Cn_show_fraction (x : D) (M : MH) (Q : DK) : Prop
  | mk (a b : Int) (hh0 : x = .tup [.int a, .int b]) (hh1 : Bd 900 a) (hh2 : Bd 900 b) (hh3 : Q (.str (sF a b)) M) : Cn_show_fraction x M Q
noncomputable def sp_show_fraction : SpD := fun ds M Q => match ds with
  | [x] => Cn_show_fraction x M Q
  | _ => False
theorem ln_show_fraction : ∀ ds M Q, sp_show_fraction ds M Q → ds.length = 1 := fun ds M Q h => by
  unfold sp_show_fraction at h
  split at h
  · rfl
  · exact h.elim
set_option maxHeartbeats 4000000 in
theorem c_show_fraction {P : Program} {w : World} {K : PySem.W.Frag} {mg : Str → Option Value} {base : Heap} (T : Tx K mg) : Cal P w K mg base 1 "show_fraction" sp_show_fraction := by
  refine calD (k := 0) (N := ["one", "top", "bottom"]) (ps := ["one"]) T.f_show_fraction sc_show_fraction (fun _ _ _ _ _ _ us hl => by obtain ⟨_, rfl⟩ := SD.ln_1 hl; rfl) ln_show_fraction fun f cdv A outer s H E hr => ⟨_, (dss_cons (ds_asg (dv 0) (dg_tup rfl (dgs_cons (dg_name 1 sc_show_fraction.nd) (dgs_cons (dg_name 2 sc_show_fraction.nd) dgs_nil))))
      (dss_one (ds_ret (de_ife (dt_cmp (od_eqT hr.units) (dv 2) de_int) (de_j1 (de_fmt (dv 1))) (de_j3 (de_fmt (dv 1)) de_str (de_fmt (dv 2))))))), fun ds M Q h => ?r⟩
  case r =>
    unfold sp_show_fraction at h
    split at h
    case h_2 => exact h.elim
    obtain ⟨a, b, rfl, ha, hb, k⟩ := h
    have h1 := iT_len (k := 899) (bd_ten ha)
    have h2 := iT_len (k := 899) (bd_ten hb)
    have b1 : Bd 1900 a := ha.mono (by decide)
    have b2 : Bd 1900 b := hb.mono (by decide)
    refine ⟨_, rfl, _, rfl, rfl, _, _, rfl, _, _, rfl, rfl, ?_⟩
    refine ⟨_, rfl, _, rfl, ite2 (fun h => ?_) (fun h => ?_)⟩
    · have e : b = 1 := by simpa using h
      have k : Q (.str (iT a)) M := by unfold sF at k; rw [if_pos e] at k; exact k
      exact ⟨_, rfl, _, rfl, b1, rtn k⟩
    · have e : ¬ b = 1 := by simpa using h
      have k : Q (.str (iT a ++ ⟨#[47]⟩ ++ iT b)) M := by unfold sF at k; rw [if_neg e] at k; exact k
      refine ⟨_, rfl, _, rfl, b1, _, rfl, by omega, _, rfl, (by rw [t_slash]; exact Nat.le_of_ble_eq_true rfl), _, rfl, _, rfl, b2, _, rfl, by omega, ?_⟩
      rw [t_slash]
      exact rtn k
theorem sc_show_row : FnScope ["word", "spots"] ["word", "spots"] (defScope s_show_row) := ⟨rfl, rfl, rfl, by decide, rfl, by decide, by decide⟩
inductive Cn_show_row (w v : D) (M : MH) (Q : DK) : Prop
  | mk (word : Str) (l : List (Rat × Rat)) (hh0 : w = .str word) (hh1 : seqD M v (l.map spq)) (hh2 : l.length ≤ 2) (hh3 : word.length ≤ 1000) (hh4 : (∀ s ∈ l, Ma.Bq 900 s.1 ∧ Ma.Bq 900 s.2)) (hh5 : Q (.str (rowS word l)) M) : Cn_show_row w v M Q
noncomputable def sp_show_row : SpD := fun ds M Q => match ds with
  | [w, v] => Cn_show_row w v M Q
  | _ => False
theorem ln_show_row : ∀ ds M Q, sp_show_row ds M Q → ds.length = 2 := fun ds M Q h => by
  unfold sp_show_row at h
  split at h
  · rfl
  · exact h.elim
set_option maxHeartbeats 4000000 in
theorem c_show_row {P : Program} {w : World} {K : PySem.W.Frag} {mg : Str → Option Value} {base : Heap} (T : Tx K mg) : Cal P w K mg base 2 "show_row" sp_show_row := by
  refine calD (k := 1) (N := ["word", "spots"]) (ps := ["word", "spots"]) T.f_show_row sc_show_row (fun _ _ _ _ _ _ us hl => by obtain ⟨_, _, rfl⟩ := SD.ln_2 hl; rfl) ln_show_row fun f cdv A outer s H E hr => ⟨_, (dss_one (ds_ret (de_m_join de_str (da_cons (de_op od_addT (de_lst (da_cons (dv 0) da_nil)) (de_two (CScope.of (xs := ["spot", "part"]) (js := []) rfl) rfl (di_seq (dv 1)) (fun _ _ _ _ => (di_seq (dv 0))) (fun _ _ _ _ => (de_call ((c_show_fraction T).mono (by decide)) hr (da_cons (dv 1) da_nil))))) da_nil)))), fun ds M Q h => ?r⟩
  case r =>
    unfold sp_show_row at h
    split at h
    case h_2 => exact h.elim
    obtain ⟨word, l, rfl, hv, hl, hw, hb, k⟩ := h
    refine ⟨_, rfl, _, rfl, Nat.le_of_ble_eq_true rfl, fun p0 hp0 => ?_⟩
    have n0 : ∀ {p : Addr}, updM M p0 (.lst [.str word]) p = none → p0 ≠ p := fun {p} h z => by subst z; rw [updM_same] at h; cases h
    refine ⟨_, rfl, l.map spq, seqD_mono (.new hp0 .refl) hv, (by show (l.map spq).length ≤ 1000; rw [List.length_map]; omega), fun p hp => ?_⟩
    have np := n0 hp
    refine ⟨fun i ys M' => ys = ((flat (l.take i)).map sQ).map D.str ∧ M' p = some (.lst ys) ∧ M' p0 = some (.lst [.str word]) ∧ SD.Sub M M', ⟨by rw [List.take_zero]; rfl, updM_same, by rw [updM_ne np, updM_same], .new hp (.new hp0 .refl)⟩, fun _ _ _ _ z => seqD_mono z.2.2.2 hv, ?_, ?_⟩
    · rintro i ys e M' hi he ⟨rfl, hy, h0, sb⟩
      have he : (l.map spq)[i]? = some e := he
      rw [List.getElem?_map] at he
      cases es : l[i]? with
      | none => rw [es] at he; cases he
      | some s =>
        rw [es] at he
        cases he
        obtain ⟨b1, b2⟩ := hb s (List.mem_of_getElem? es)
        have et : flat (l.take (i + 1)) = flat (l.take i) ++ [s.1, s.2] := by rw [List.take_succ, es, flat_app]; rfl
        have fin : ∀ (q : Rat) (zs : List D) (qs : List Rat) (M2 : MH), Ma.Bq 900 q → M2 p = some (.lst zs) → M2 p0 = some (.lst [.str word]) → SD.Sub M M2 → zs = (qs.map sQ).map D.str → sp_show_fraction [Ma.fr q] M2 fun v M' => ∃ M3, SD.Sub M3 M' ∧ M3 p = some (.lst zs) ∧ (zs ++ [v] = ((qs ++ [q]).map sQ).map D.str ∧ (updM M3 p (.lst (zs ++ [v]))) p = some (.lst (zs ++ [v])) ∧ (updM M3 p (.lst (zs ++ [v]))) p0 = some (.lst [.str word]) ∧ SD.Sub M (updM M3 p (.lst (zs ++ [v])))) := fun q zs qs M2 hq h1 h2 h3 h4 => by
          refine ⟨_, _, rfl, hq.1, hq.2, M2, .refl, h1, ?_, updM_same, by rw [updM_ne np]; exact h2, fun u o e => ?_⟩
          · rw [h4, List.map_append, List.map_append]; rfl
          · have : u ≠ p := fun z => by subst z; rw [updM_ne (n0 hp).symm] at hp; rw [hp] at e; cases e
            rw [updM_ne this]; exact h3 _ _ e
        refine ⟨_, rfl, [Ma.fr s.1, Ma.fr s.2], rfl, Nat.le_of_ble_eq_true rfl, fun j zs M' => zs = ((flat (l.take i) ++ [s.1, s.2].take j).map sQ).map D.str ∧ M' p = some (.lst zs) ∧ M' p0 = some (.lst [.str word]) ∧ SD.Sub M M', ⟨by rw [List.take_zero, List.append_nil], hy, h0, sb⟩, fun _ _ _ _ _ => rfl, ?_, fun zs M2 z => ?_⟩
        · rintro j zs e M2 hj he ⟨hz, h1, h2, h3⟩
          have hj : j < 2 := hj
          rcases (show j = 0 ∨ j = 1 by omega) with rfl | rfl
          · cases he; exact ⟨_, rfl, fin s.1 zs _ M2 b1 h1 h2 h3 (by rw [hz, List.take_zero, List.append_nil])⟩
          · cases he
            have f := fin s.2 zs (flat (l.take i) ++ [s.1]) M2 b2 h1 h2 h3 hz
            rw [List.append_assoc] at f
            exact ⟨_, rfl, f⟩
        · obtain ⟨z1, z2⟩ := z
          refine ⟨?_, z2⟩
          rw [z1, et]; rfl
    · rintro ys M' ⟨rfl, hy, h0, sb⟩
      have e : l.take (l.map spq).length = l := List.take_of_length_le (by simp)
      have hy : M' p = some (.lst (((flat l).map sQ).map D.str)) := by have h := hy; dsimp only at h; rw [e] at h; exact h
      refine ⟨_, _, h0, hy, (by have := flat_len l; have : 100 ≤ sizeLine := Nat.le_of_ble_eq_true rfl; simp; omega), fun q hq => ⟨q, word :: (flat l).map sQ, rfl, updM_same, ?_, M, fun u o e => ?_, ?_⟩⟩
      · rw [t_spc]; exact rowS_fit hw hl hb
      · rw [updM_ne (ne_fresh (sb _ _ e) hq)]; exact sb _ _ e
      · rw [t_spc]; exact k
theorem sc_wall_rows : FnScope ["plot"] ["plot"] (defScope s_wall_rows) := ⟨rfl, rfl, rfl, by decide, rfl, by decide, by decide⟩
inductive Cn_wall_rows (v : D) (M : MH) (Q : DK) : Prop
  | mk (t b X Y : Int) (ws : List Wl) (hh0 : v = .tup (ws.map (rwl t b X Y))) (hh1 : ws.length ≤ 1000) (hh2 : (∀ w ∈ ws, ∀ q ∈ wQ t b X Y w, Ma.Bq 900 q)) (hh3 : ∀ p, M p = none → Q (.ref p) (updM M p (.lst ((ws.map (rowW t b X Y)).map D.str)))) : Cn_wall_rows v M Q
noncomputable def sp_wall_rows : SpD := fun ds M Q => match ds with
  | [v] => Cn_wall_rows v M Q
  | _ => False
theorem ln_wall_rows : ∀ ds M Q, sp_wall_rows ds M Q → ds.length = 1 := fun ds M Q h => by
  unfold sp_wall_rows at h
  split at h
  · rfl
  · exact h.elim
set_option maxHeartbeats 4000000 in
theorem c_wall_rows {P : Program} {w : World} {K : PySem.W.Frag} {mg : Str → Option Value} {base : Heap} (T : Tx K mg) : Cal P w K mg base 3 "wall_rows" sp_wall_rows := by
  refine calD (k := 2) (N := ["plot"]) (ps := ["plot"]) T.f_wall_rows sc_wall_rows (fun _ _ _ _ _ _ us hl => by obtain ⟨_, rfl⟩ := SD.ln_1 hl; rfl) ln_wall_rows fun f cdv A outer s H E hr => ⟨_, (dss_one (ds_ret (de_comp1 (CScope.of (xs := ["wall"]) (js := []) rfl) rfl (di_seq (dv 0)) (fun _ _ _ _ => dts_nil) (fun _ _ _ _ => (de_call ((c_show_row T).mono (by decide)) hr (da_cons de_str (da_cons (dv 0) da_nil))))))), fun ds M Q h => ?r⟩
  case r =>
    unfold sp_wall_rows at h
    split at h
    case h_2 => exact h.elim
    obtain ⟨t, b, X, Y, ws, rfl, hl, hq, k⟩ := h
    refine ⟨_, rfl, _, rfl, comp_map (fun i => (((ws.map (rowW t b X Y)).map D.str)[i]?).getD .non) (by show (ws.map (rwl t b X Y)).length ≤ 1000000; simp; omega) (fun _ _ _ => rfl) ?_ (fun p hp => ?_)⟩
    · intro i d M2 hi hd sb
      have hd : (ws.map (rwl t b X Y))[i]? = some d := hd
      rw [List.getElem?_map] at hd
      cases ew : ws[i]? with
      | none => rw [ew] at hd; cases hd
      | some w =>
        rw [ew] at hd
        cases hd
        have hw := hq w (List.mem_of_getElem? ew)
        refine ⟨_, rfl, fun K hK => ?_⟩
        have hK' := hK M2 .refl
        rw [List.map_map, getD_map ew] at hK'
        refine ⟨_, rfl, _, [(Ma.ut t b X 1 w.1, Ma.ut t b Y 1 w.2.1), (Ma.ut t b X 1 w.2.2.1, Ma.ut t b Y 1 w.2.2.2)], rfl, rfl, Nat.le_of_ble_eq_true rfl, (by rw [len_cps, t_wall]; decide), (fun s hs => ?_), hK'⟩
        simp only [List.mem_cons, List.not_mem_nil, or_false] at hs
        rcases hs with rfl | rfl
        · exact ⟨hw _ (by simp [wQ]), hw _ (by simp [wQ])⟩
        · exact ⟨hw _ (by simp [wQ]), hw _ (by simp [wQ])⟩
    · have e := SD.range_getD ((ws.map (rowW t b X Y)).map D.str)
      rw [List.length_map, List.length_map] at e
      dsimp only
      rw [List.length_map, e]
      exact rtn (k p hp)
theorem sc_show_questions : FnScope ["plot", "spots"] ["plot", "spots"] (defScope s_show_questions) := ⟨rfl, rfl, rfl, by decide, rfl, by decide, by decide⟩
inductive Cn_show_questions (v y : D) (M : MH) (Q : DK) : Prop
  | mk (t b X Y : Int) (ws : List Wl) (a : Addr) (l : List (Rat × Rat)) (hh0 : v = .tup (ws.map (rwl t b X Y))) (hh1 : y = .ref a) (hh2 : M a = some (.lst (l.map spq))) (hh3 : ws.length ≤ 100) (hh4 : l.length ≤ 100) (hh5 : (∀ w ∈ ws, ∀ q ∈ wQ t b X Y w, Ma.Bq 900 q)) (hh6 : (∀ s ∈ l, Ma.Bq 900 s.1 ∧ Ma.Bq 900 s.2)) (hh7 : Q (.str (Str.join ⟨#[10]⟩ (ws.map (rowW t b X Y) ++ l.map askR))) M) : Cn_show_questions v y M Q
noncomputable def sp_show_questions : SpD := fun ds M Q => match ds with
  | [v, y] => Cn_show_questions v y M Q
  | _ => False
theorem ln_show_questions : ∀ ds M Q, sp_show_questions ds M Q → ds.length = 2 := fun ds M Q h => by
  unfold sp_show_questions at h
  split at h
  · rfl
  · exact h.elim
set_option maxHeartbeats 4000000 in
theorem c_show_questions {P : Program} {w : World} {K : PySem.W.Frag} {mg : Str → Option Value} {base : Heap} (T : Tx K mg) : Cal P w K mg base 4 "show_questions" sp_show_questions := by
  refine calD (k := 3) (N := ["plot", "spots"]) (ps := ["plot", "spots"]) T.f_show_questions sc_show_questions (fun _ _ _ _ _ _ us hl => by obtain ⟨_, _, rfl⟩ := SD.ln_2 hl; rfl) ln_show_questions fun f cdv A outer s H E hr => ⟨_, (dss_one (ds_ret (de_m_join de_str (da_cons (de_op od_addT (de_call ((c_wall_rows T).mono (by decide)) hr (da_cons (dv 0) da_nil)) (de_comp1 (CScope.of (xs := ["spot"]) (js := []) rfl) rfl (di_seq (dv 1)) (fun _ _ _ _ => dts_nil) (fun _ _ _ _ => (de_call ((c_show_row T).mono (by decide)) hr (da_cons de_str (da_cons (de_lst (da_cons (dv 0) da_nil)) da_nil)))))) da_nil)))), fun ds M Q h => ?r⟩
  case r =>
    unfold sp_show_questions at h
    split at h
    case h_2 => exact h.elim
    obtain ⟨t, b, X, Y, ws, a, l, rfl, rfl, ha, h1, h2, hq, hs, k⟩ := h
    refine ⟨_, rfl, _, rfl, t, b, X, Y, ws, rfl, by omega, hq, fun p0 hp0 => ?_⟩
    have na : a ≠ p0 := ne_fresh ha hp0
    have ha0 : ∀ {G}, (updM M p0 G) a = some (.lst (l.map spq)) := fun {G} => by rw [updM_ne na]; exact ha
    refine ⟨_, rfl, _, ha0, comp_map (fun i => (((l.map askR).map D.str)[i]?).getD .non) (by show (l.map spq).length ≤ 1000000; rw [List.length_map]; omega) (fun p ys hp => ?_) ?_ (fun p1 hp1 => ?_)⟩
    · show (updM _ p _) a = _
      rw [updM_ne (ne_fresh ha0 hp)]; exact ha0
    · intro i d M2 hi hd sb
      have hd : (l.map spq)[i]? = some d := hd
      rw [List.getElem?_map] at hd
      cases es : l[i]? with
      | none => rw [es] at hd; cases hd
      | some s =>
        rw [es] at hd
        cases hd
        have hb := hs s (List.mem_of_getElem? es)
        refine ⟨_, rfl, fun K hK => ?_⟩
        have hK' : ∀ M', SD.Sub M2 M' → K (.str (askR s)) M' := fun M' s' => by
          have z := hK M' s'
          rw [List.map_map, getD_map es] at z
          exact z
        exact ⟨_, rfl, Nat.le_of_ble_eq_true rfl, fun p2 hp2 => ⟨_, [s], rfl, updM_same, Nat.le_of_ble_eq_true rfl, (by rw [len_cps, t_ask]; decide), (fun z hz => by rw [List.mem_singleton.mp hz]; exact hb), hK' _ (.new hp2 .refl)⟩⟩
    · have e := SD.range_getD ((l.map askR).map D.str)
      rw [List.length_map, List.length_map] at e
      have np : p0 ≠ p1 := fun z => by subst z; rw [updM_same] at hp1; cases hp1
      dsimp only
      rw [List.length_map, e]
      refine ⟨_, _, (by rw [updM_ne np, updM_same]), updM_same, (by have : 1000 ≤ sizeLine := Nat.le_of_ble_eq_true rfl; simp; omega), fun p2 hp2 => ⟨p2, ws.map (rowW t b X Y) ++ l.map askR, rfl, (by rw [updM_same, List.map_append]), ?_, M, .new hp2 (.new hp1 (.new hp0 .refl)), ?_⟩⟩
      · unfold JoinOk
        rw [StrLaws.joinFits (B := 10005) (fun y hy => ?_) (by rw [t_nl, List.length_append, List.length_map, List.length_map]; show _ + _ * 1 ≤ _; omega)]
        · rfl
        · rcases List.mem_append.mp hy with hy | hy
          · obtain ⟨w, hw, rfl⟩ := List.mem_map.mp hy
            exact rowW_len (hq w hw)
          · obtain ⟨s, hm, rfl⟩ := List.mem_map.mp hy
            exact rowS_len (by rw [len_cps, t_ask]; decide) (by simp) fun z hz => by rw [List.mem_singleton.mp hz]; exact hs s hm
      · rw [t_nl]; exact k
theorem sc_law_rows : FnScope ["_law_plot"] ["_law_plot"] (defScope s_law_rows) := ⟨rfl, rfl, rfl, by decide, rfl, by decide, by decide⟩
inductive Cn_law_rows (v : D) (M : MH) (Q : DK) : Prop
  | mk (t b X Y : Int) (ws : List Wl) (hh0 : v = .tup (ws.map (rwl t b X Y))) (hh1 : ws.length ≤ 1000) (hh2 : (∀ w ∈ ws, ∀ q ∈ wQ t b X Y w, Ma.Bq 900 q)) (hh3 : ∀ p, M p = none → Q (.ref p) (updM M p (.lst ((ws.map (rowW t b X Y)).map D.str)))) : Cn_law_rows v M Q
noncomputable def sp_law_rows : SpD := fun ds M Q => match ds with
  | [v] => Cn_law_rows v M Q
  | _ => False
theorem ln_law_rows : ∀ ds M Q, sp_law_rows ds M Q → ds.length = 1 := fun ds M Q h => by
  unfold sp_law_rows at h
  split at h
  · rfl
  · exact h.elim
set_option maxHeartbeats 4000000 in
theorem c_law_rows {P : Program} {w : World} {K : PySem.W.Frag} {mg : Str → Option Value} {base : Heap} (T : Tx K mg) : Cal P w K mg base 2 "_law_rows" sp_law_rows := by
  refine calD (k := 1) (N := ["_law_plot"]) (ps := ["_law_plot"]) T.f_law_rows sc_law_rows (fun _ _ _ _ _ _ us hl => by obtain ⟨_, rfl⟩ := SD.ln_1 hl; rfl) ln_law_rows fun f cdv A outer s H E hr => ⟨_, (dss_one (ds_ret (de_comp2 (CScope.of (xs := ["_law_first", "_law_second"]) (js := []) rfl) rfl (di_seq (dv 0)) (fun _ _ _ _ => dts_nil) (fun _ _ _ _ => (de_m_join de_str (da_cons (de_op od_addT (de_lst (da_cons de_str da_nil)) (de_comp1 (CScope.of (xs := ["_law_one"]) (js := []) rfl) rfl (di_seq (de_op od_addT (dv 0) (dv 1))) (fun _ _ _ _ => dts_nil) (fun _ _ _ _ => (de_call ((c_law_shown T).mono (by decide)) hr (da_cons (dv 0) da_nil))))) da_nil)))))), fun ds M Q h => ?r⟩
  case r =>
    unfold sp_law_rows at h
    split at h
    case h_2 => exact h.elim
    obtain ⟨t, b, X, Y, ws, rfl, hl, hq, k⟩ := h
    refine ⟨_, rfl, _, rfl, comp_map (fun i => (((ws.map (rowW t b X Y)).map D.str)[i]?).getD .non) (by show (ws.map (rwl t b X Y)).length ≤ 1000000; simp; omega) (fun _ _ _ => rfl) ?_ (fun p hp => ?_)⟩
    · intro i d M2 hi hd sb
      have hd : (ws.map (rwl t b X Y))[i]? = some d := hd
      rw [List.getElem?_map] at hd
      cases ew : ws[i]? with
      | none => rw [ew] at hd; cases hd
      | some w =>
        rw [ew] at hd
        cases hd
        have hw := hq w (List.mem_of_getElem? ew)
        have h1 := hw _ (show Ma.ut t b X 1 w.1 ∈ wQ t b X Y w by simp [wQ])
        have h2 := hw _ (show Ma.ut t b Y 1 w.2.1 ∈ wQ t b X Y w by simp [wQ])
        have h3 := hw _ (show Ma.ut t b X 1 w.2.2.1 ∈ wQ t b X Y w by simp [wQ])
        have h4 := hw _ (show Ma.ut t b Y 1 w.2.2.2 ∈ wQ t b X Y w by simp [wQ])
        refine ⟨_, ⟨_, rfl, rfl, rfl⟩, fun K hK => ?_⟩
        have hK' : ∀ M', SD.Sub M2 M' → K (.str (rowW t b X Y w)) M' := fun M' s => by
          have z := hK M' s
          rw [List.map_map, getD_map ew] at z
          exact z
        refine ⟨_, rfl, Nat.le_of_ble_eq_true rfl, fun p0 hp0 => ?_⟩
        refine ⟨_, rfl, _, rfl, (by simp), Nat.le_of_ble_eq_true rfl, _, rfl, comp_map (fun j => ((((wQ t b X Y w).map sQ).map D.str)[j]?).getD .non) (Nat.le_of_ble_eq_true rfl) (fun _ _ _ => rfl) ?_ (fun p1 hp1 => ?_)⟩
        · intro j e M3 hj he sb3
          have hj : j < 4 := hj
          refine ⟨_, rfl, fun K2 hK2 => ?_⟩
          have z := hK2 M3 .refl
          rcases (show j = 0 ∨ j = 1 ∨ j = 2 ∨ j = 3 by omega) with rfl | rfl | rfl | rfl
          · cases he; exact ⟨_, rfl, _, _, rfl, h1.1, h1.2, z⟩
          · cases he; exact ⟨_, rfl, _, _, rfl, h2.1, h2.2, z⟩
          · cases he; exact ⟨_, rfl, _, _, rfl, h3.1, h3.2, z⟩
          · cases he; exact ⟨_, rfl, _, _, rfl, h4.1, h4.2, z⟩
        · have np : p0 ≠ p1 := fun z => by subst z; rw [updM_same] at hp1; cases hp1
          refine ⟨_, _, (by rw [updM_ne np, updM_same]), updM_same, Nat.le_of_ble_eq_true rfl, fun q hq2 => ⟨q, Str.ofString "wall" :: (wQ t b X Y w).map sQ, rfl, updM_same, ?_, ?_⟩⟩
          · unfold JoinOk
            rw [StrLaws.joinFits (B := 2000) (fun y hy => ?_) (Nat.le_of_ble_eq_true rfl)]
            · rfl
            · rcases List.mem_cons.mp hy with rfl | hy
              · rw [len_cps, t_wall]; decide
              · obtain ⟨r, hr, rfl⟩ := List.mem_map.mp hy
                exact sF_len (hw r hr).1 (hw r hr).2
          · rw [t_spc]
            exact hK' _ (.new hq2 (.new hp1 (.new hp0 .refl)))
    · have e := SD.range_getD ((ws.map (rowW t b X Y)).map D.str)
      rw [List.length_map, List.length_map] at e
      dsimp only
      rw [List.length_map, e]
      exact rtn (k p hp)
theorem sc_rows_of : FnScope ["text"] ["text"] (defScope s_rows_of) := ⟨rfl, rfl, rfl, by decide, rfl, by decide, by decide⟩
inductive Cn_rows_of (v : D) (M : MH) (Q : DK) : Prop
  | mk (rs : List Str) (hh0 : v = .str (Str.join ⟨#[10]⟩ rs)) (hh1 : (Str.join ⟨#[10]⟩ rs).length ≤ 1000000) (hh2 : (∀ r ∈ rs, 10 ∉ r.cps.toList ∧ r.cps.toList ≠ [])) (hh3 : ∀ p, M p = none → Q (.ref p) (updM M p (.lst (rs.map D.str)))) : Cn_rows_of v M Q
noncomputable def sp_rows_of : SpD := fun ds M Q => match ds with
  | [v] => Cn_rows_of v M Q
  | _ => False
theorem ln_rows_of : ∀ ds M Q, sp_rows_of ds M Q → ds.length = 1 := fun ds M Q h => by
  unfold sp_rows_of at h
  split at h
  · rfl
  · exact h.elim
set_option maxHeartbeats 4000000 in
theorem c_rows_of {P : Program} {w : World} {K : PySem.W.Frag} {mg : Str → Option Value} {base : Heap} (T : Tx K mg) : Cal P w K mg base 1 "rows_of" sp_rows_of := by
  refine calD (k := 0) (N := ["text"]) (ps := ["text"]) T.f_rows_of sc_rows_of (fun _ _ _ _ _ _ us hl => by obtain ⟨_, rfl⟩ := SD.ln_1 hl; rfl) ln_rows_of fun f cdv A outer s H E hr => ⟨_, (dss_one (ds_ret (de_ife (dt_cmp (od_eqT hr.units) (dv 0) de_str) (de_lst da_nil) (de_m_split (dv 0) (da_cons de_str da_nil))))), fun ds M Q h => ?r⟩
  case r =>
    unfold sp_rows_of at h
    split at h
    case h_2 => exact h.elim
    obtain ⟨rs, rfl, hl, hr, k⟩ := h
    refine ⟨_, rfl, _, rfl, ite2 (fun h => ?_) (fun h => ?_)⟩
    · have e : Str.join ⟨#[10]⟩ rs = Str.empty := by rw [t_none] at h; simpa using h
      have e0 : rs = [] := by
        cases rs with
        | nil => rfl
        | cons r rs =>
          exfalso
          have hh := hr r List.mem_cons_self
          cases rs with
          | nil => exact hh.2 (by rw [show r = Str.empty from e]; rfl)
          | cons r2 rs =>
            have z := join_cons 10 r r2 rs
            rw [e] at z
            exact absurd (congrArg List.length z) (by simp [Str.empty])
      subst e0
      exact ⟨Nat.le_of_ble_eq_true rfl, fun p hp => rtn (k p hp)⟩
    · have e : rs ≠ [] := fun e => by
        subst e
        exact h (by rw [t_none]; exact decide_eq_true rfl)
      refine ⟨_, rfl, _, rfl, hl, _, rfl, (by rw [t_nl]; rfl), fun p hp => ?_⟩
      rw [t_nl, split_join 10 rs e fun r h => (hr r h).1]
      exact rtn (k p hp)
theorem sc_read_number : FnScope ["text"] ["text"] (defScope s_read_number) := ⟨rfl, rfl, rfl, by decide, rfl, by decide, by decide⟩
inductive Cn_read_number (x : D) (M : MH) (Q : DK) : Prop
  | mk (z : Str) (n : Nat) (hh0 : x = .str z) (hh1 : z.cps.toList = dgs n) (hh2 : n < 10 ^ 30) (hh3 : Q (.int (n : Int)) M) : Cn_read_number x M Q
noncomputable def sp_read_number : SpD := fun ds M Q => match ds with
  | [x] => Cn_read_number x M Q
  | _ => False
theorem ln_read_number : ∀ ds M Q, sp_read_number ds M Q → ds.length = 1 := fun ds M Q h => by
  unfold sp_read_number at h
  split at h
  · rfl
  · exact h.elim
set_option maxHeartbeats 4000000 in
theorem c_read_number {P : Program} {w : World} {K : PySem.W.Frag} {mg : Str → Option Value} {base : Heap} (T : Tx K mg) : Cal P w K mg base 1 "read_number" sp_read_number := by
  refine calD (k := 0) (N := ["text"]) (ps := ["text"]) T.f_read_number sc_read_number (fun _ _ _ _ _ _ us hl => by obtain ⟨_, rfl⟩ := SD.ln_1 hl; rfl) ln_read_number fun f cdv A outer s H E hr => ⟨_, (dss_cons (ds_if (dt_w (dw_or (dt_not (dt_chain (od_leX hr.units) (od_leX hr.units) de_int (de_callB cd_lenT rfl T.b_len bt_len (da_cons (dv 0) da_nil)) (de_globI rfl T.g_MOST_FIGURES))) (dw_or1 (dt_val (de_callB (cd_any rfl) rfl T.b_any bt_any (da_cons (de_comp1 (CScope.of (xs := ["sign"]) (js := []) rfl) rfl (di_str (dv 0)) (fun _ _ _ _ => dts_nil) (fun _ _ _ _ => (de_cmp (od_notinT (ru66 hr)) (dv 0) de_str (by with_unfolding_all rfl)))) da_nil)))))) (dss_one (ds_ret de_non)) dss_nil)
      (dss_cons (ds_if (dt_w (dw_and (dt_cmp (od_eqT hr.units) (de_ixT (dv 0) de_int) de_str) (dw_and1 (dt_cmp (od_neT hr.units) (dv 0) de_str)))) (dss_one (ds_ret de_non)) dss_nil)
      (dss_one (ds_ret (de_callTy cd_intT rfl T.b_int bt_int (da_cons (dv 0) da_nil)))))), fun ds M Q h => ?r⟩
  case r =>
    unfold sp_read_number at h
    split at h
    case h_2 => exact h.elim
    obtain ⟨z, n, rfl, hz, hn, k⟩ := h
    have l1 : z.length ≤ 30 := by rw [len_cps, hz]; exact dgs_len 29 n hn
    have l0 : 1 ≤ z.length := by
      rw [len_cps, hz]
      cases e : dgs n with
      | nil => exact absurd e (dgs_ne n)
      | cons _ _ => simp
    have sz : 1000000 ≤ sizeLine := Nat.le_of_ble_eq_true rfl
    have asc : z.cps.all (· < 128) = true := by
      rw [Array.all_eq_true_iff_forall_mem]
      intro c hc
      have := dgs_dig (show c ∈ dgs n by rw [← hz]; simpa using hc)
      exact decide_eq_true (by omega)
    refine ⟨_, rfl, by omega, trivial, _, rfl, iteA (decide_eq_true (by omega)) ⟨trivial, _, rfl, iteB (by dsimp only; rw [decide_eq_true (show (z.length : Int) ≤ 30 by omega)]; rfl) ?_⟩⟩
    refine ⟨_, rfl, z, rfl, asc, comp_map (fun _ => .bl false) (by show z.cps.size ≤ 1000000; have : z.cps.size = z.length := rfl; omega) (fun _ _ _ => trivial) ?_ (fun p hp => ?_)⟩
    · intro i d M2 hi hd sb
      have hd : (z.cps[i]?).map (fun c => D.str ⟨#[c]⟩) = some d := hd
      cases ec : z.cps[i]? with
      | none => rw [ec] at hd; cases hd
      | some c =>
        rw [ec] at hd
        cases hd
        have hc := dgs_dig (show c ∈ dgs n by rw [← hz]; exact List.mem_of_getElem? (by simpa using ec))
        refine ⟨_, rfl, fun K2 hK2 => ⟨_, rfl, c, rfl, ?_⟩⟩
        rw [decide_eq_true (show c ∈ (Str.ofString "0123456789").cps.toList by rw [t_figs]; exact List.mem_range'_1.mpr (show 48 ≤ c ∧ c < 48 + 10 by omega))]
        exact hK2 _ .refl
    refine ⟨List.replicate z.cps.size false, (by rw [updM_same, List.map_replicate, List.map_const', List.length_range]), _, rfl, iteB (by rw [List.any_replicate]; simp) ?_⟩
    have hat : atI z.cps.toList ((0 : Nat) : Int) = (dgs n)[0]? := by rw [hz]; exact atI_zero _
    cases ed : dgs n with
    | nil => exact absurd ed (dgs_ne n)
    | cons c0 r =>
      rw [ed] at hat hz
      have fin : ∀ {M'}, SD.Sub M M' → Ret Q (.int (n : Int)) M' := fun {M'} sb => ⟨M, sb, k⟩
      (try dsimp only [SD.tSeqD, SD.tAsgD, SD.gNameD, SD.tIfSD, SD.tRetD, SD.tNextD, SD.tDropD, SD.tBD, SD.tNotD])
      by_cases h0 : c0 = 48
      · subst h0
        have n0 := dgs_head n r ed
        have hr : r = [] := by subst n0; have : dgs 0 = [48] := dgs_one (by decide); rw [this] at ed; exact ((List.cons.inj ed).2).symm
        refine andT true false (fun K hK => ⟨_, rfl, by omega, _, hat, _, rfl, ?_⟩) (fun _ K hK => ⟨_, rfl, _, rfl, ?_⟩) ?_
        · rw [t_zero, decide_eq_true rfl]; exact hK
        · rw [t_zero, decide_eq_true (show z = ⟨#[48]⟩ from str_ext (by rw [hz, hr]))]; exact hK
        · exact iteB rfl ⟨_, rfl, _, dgs_read (n := n) (by rw [hz, ed]) (by omega), by omega, fin (.new hp .refl)⟩
      · refine andT false false (fun K hK => ⟨_, rfl, by omega, _, hat, _, rfl, ?_⟩) (fun h => nomatch h) ?_
        · rw [t_zero, decide_eq_false (fun z => h0 (by have := congrArg (fun x : Str => x.cps.toList) z; simpa using this))]; exact hK
        · exact iteB rfl ⟨_, rfl, _, dgs_read (n := n) (by rw [hz, ed]) (by omega), by omega, fin (.new hp .refl)⟩
theorem sc_read_top : FnScope ["text", "number"] ["text"] (defScope s_read_top) := ⟨rfl, rfl, rfl, by decide, rfl, by decide, by decide⟩
inductive Cn_read_top (x : D) (M : MH) (Q : DK) : Prop
  | mk (a : Int) (hh0 : x = .str (iT a)) (hh1 : a.natAbs < 10 ^ 30) (hh2 : Q (.int a) M) : Cn_read_top x M Q
noncomputable def sp_read_top : SpD := fun ds M Q => match ds with
  | [x] => Cn_read_top x M Q
  | _ => False
theorem ln_read_top : ∀ ds M Q, sp_read_top ds M Q → ds.length = 1 := fun ds M Q h => by
  unfold sp_read_top at h
  split at h
  · rfl
  · exact h.elim
set_option maxHeartbeats 4000000 in
theorem c_read_top {P : Program} {w : World} {K : PySem.W.Frag} {mg : Str → Option Value} {base : Heap} (T : Tx K mg) : Cal P w K mg base 2 "read_top" sp_read_top := by
  refine calD (k := 1) (N := ["text", "number"]) (ps := ["text"]) T.f_read_top sc_read_top (fun _ _ _ _ _ _ us hl => by obtain ⟨_, rfl⟩ := SD.ln_1 hl; rfl) ln_read_top fun f cdv A outer s H E hr => ⟨_, (dss_cons (ds_if (dt_not (dt_val (de_m_start (dv 0) (da_cons de_str da_nil)))) (dss_one (ds_ret (de_call ((c_read_number T).mono (by decide)) hr (da_cons (dv 0) da_nil)))) dss_nil)
      (dss_cons (ds_set 1 sc_read_top.nd (de_call ((c_read_number T).mono (by decide)) hr (da_cons (de_sliceT (dv 0) de_int) da_nil)))
      (dss_one (ds_ret (de_ife (dt_w (dw_or (dt_cmp od_is (dv 1) de_non) (dw_or1 (dt_cmp (od_eqT hr.units) (dv 1) de_int)))) de_non (de_un un_negD (dv 1))))))), fun ds M Q h => ?r⟩
  case r =>
    unfold sp_read_top at h
    split at h
    case h_2 => exact h.elim
    obtain ⟨a, rfl, ha, k⟩ := h
    have hl := iT_len (k := 29) ha
    have sz : 1000000 ≤ sizeLine := Nat.le_of_ble_eq_true rfl
    obtain ⟨n, ⟨e1, e2⟩ | ⟨e1, n0, e2⟩⟩ := iT_cases a
    · have hs : Txt.startswith (iT a) ⟨#[45]⟩ = false := start_no (by
        rw [e2]
        intro z
        have := dgs_dig (List.mem_of_getElem? z)
        omega)
      refine ⟨_, rfl, _, rfl, _, rfl, _, rfl, iteA (by rw [t_minus, hs]; rfl) ?_⟩
      exact ⟨_, rfl, _, n, rfl, e2, by omega, rtn (by rw [← e1]; exact k)⟩
    · have hs : Txt.startswith (iT a) ⟨#[45]⟩ = true := start_yes e2
      have hd : (Str.mk (dgs n).toArray).cps.toList = dgs n := by simp
      refine ⟨_, rfl, _, rfl, _, rfl, _, rfl, iteB (by rw [t_minus, hs]; rfl) ?_⟩
      refine ⟨_, rfl, _, rfl, by omega, _, rfl, _, n, rfl, (by rw [slice_tail (y := Str.mk (dgs n).toArray) (by rw [e2, hd])]), by omega, ?_⟩
      (try dsimp only [SD.tSeqD, SD.tAsgD, SD.gNameD, SD.tIfSD, SD.tRetD, SD.tNextD, SD.tDropD, SD.tBD, SD.tNotD])
      refine orT false false (fun K hK => ⟨_, rfl, _, rfl, _, rfl, hK⟩) (fun _ K hK => ⟨_, rfl, _, rfl, ?_⟩) ?_
      · rw [decide_eq_false (by omega)]; exact hK
      · refine iteB rfl ⟨_, rfl, rtn ?_⟩
        rw [← e1]; exact k
theorem sc_greatest_divisor : FnScope ["one", "other"] ["one", "other"] (defScope s_greatest_divisor) := ⟨rfl, rfl, rfl, by decide, rfl, by decide, by decide⟩
inductive Cn_greatest_divisor (x y : D) (M : MH) (Q : DK) : Prop
  | mk (a b : Nat) (hh0 : x = .int (a : Int)) (hh1 : y = .int (b : Int)) (hh2 : Q (.int ((Nat.gcd a b : Nat) : Int)) M) : Cn_greatest_divisor x y M Q
noncomputable def sp_greatest_divisor : SpD := fun ds M Q => match ds with
  | [x, y] => Cn_greatest_divisor x y M Q
  | _ => False
theorem ln_greatest_divisor : ∀ ds M Q, sp_greatest_divisor ds M Q → ds.length = 2 := fun ds M Q h => by
  unfold sp_greatest_divisor at h
  split at h
  · rfl
  · exact h.elim
set_option maxHeartbeats 4000000 in
theorem c_greatest_divisor {P : Program} {w : World} {K : PySem.W.Frag} {mg : Str → Option Value} {base : Heap} (T : Tx K mg) : Cal P w K mg base 1 "greatest_divisor" sp_greatest_divisor := by
  refine calD (k := 0) (N := ["one", "other"]) (ps := ["one", "other"]) T.f_greatest_divisor sc_greatest_divisor (fun _ _ _ _ _ _ us hl => by obtain ⟨_, _, rfl⟩ := SD.ln_2 hl; rfl) ln_greatest_divisor fun f cdv A outer s H E hr => ⟨_, (dss_cons (ds_while PassesOwn.never (dt_cmp (od_ne hr.units) (dv 1) de_int) (dss_one (ds_par 0 1 rfl sc_greatest_divisor.nd (da_cons (dv 1) (da_cons (de_op od_mod (dv 0) (dv 1)) da_nil)))))
      (dss_one (ds_ret (dv 0)))), fun ds M Q h => ?r⟩
  case r =>
    unfold sp_greatest_divisor at h
    split at h
    case h_2 => exact h.elim
    obtain ⟨a, b, rfl, rfl, q⟩ := h
    refine ⟨fun m δ M' => M' = M ∧ ∃ x y : Nat, δ = [some (.int x), some (.int y)] ∧ Nat.gcd x y = Nat.gcd a b ∧ m = y, ⟨_, rfl, _, _, rfl, rfl, rfl⟩, ?_⟩
    rintro m δ M' ⟨rfl, x, y, rfl, hxy, hm⟩
    refine ⟨_, rfl, _, rfl, ?_⟩
    refine ite2 (fun h => ?_) (fun h => ?_)
    · have hy : (y : Int) ≠ 0 := by simpa using h
      refine ⟨_, rfl, _, rfl, _, rfl, hy, _, _, rfl, ?_⟩
      have hy' : 0 < y := by omega
      refine ⟨x % y, by rw [hm]; exact Nat.mod_lt _ hy', rfl, y, x % y, ?_, ?_, rfl⟩
      · rw [← Ma.mod_nat]
        rfl
      · rw [← hxy, Nat.gcd_comm x y, Nat.gcd_rec y x, Nat.gcd_comm]
    · have hy : y = 0 := by simpa using h
      subst hy
      rw [Nat.gcd_zero_right] at hxy
      subst hxy
      exact ⟨_, rfl, rtn q⟩
theorem sc_fraction : FnScope ["top", "bottom", "divisor"] ["top", "bottom"] (defScope s_fraction) := ⟨rfl, rfl, rfl, by decide, rfl, by decide, by decide⟩
inductive Cn_fraction (x y : D) (M : MH) (Q : DK) : Prop
  | mk (t : _) (b : _) (hh0 : x = .int t) (hh1 : y = .int b) (hh2 : b ≠ 0) (hh3 : Bd 8000 t) (hh4 : Bd 8000 b) (hh5 : Q (Ma.fr (Rat.divInt t b)) M) : Cn_fraction x y M Q
noncomputable def sp_fraction : SpD := fun ds M Q => match ds with
  | [x, y] => Cn_fraction x y M Q
  | _ => False
theorem ln_fraction : ∀ ds M Q, sp_fraction ds M Q → ds.length = 2 := fun ds M Q h => by
  unfold sp_fraction at h
  split at h
  · rfl
  · exact h.elim
set_option maxHeartbeats 4000000 in
theorem c_fraction {P : Program} {w : World} {K : PySem.W.Frag} {mg : Str → Option Value} {base : Heap} (T : Tx K mg) : Cal P w K mg base 2 "fraction" sp_fraction := by
  refine calD (k := 1) (N := ["top", "bottom", "divisor"]) (ps := ["top", "bottom"]) T.f_fraction sc_fraction (fun _ _ _ _ _ _ us hl => by obtain ⟨_, _, rfl⟩ := SD.ln_2 hl; rfl) ln_fraction fun f cdv A outer s H E hr => ⟨_, (dss_cons (ds_if (dt_cmp (od_eq hr.units) (dv 1) de_int) (dss_one ds_never) dss_nil)
      (dss_cons (ds_set 2 sc_fraction.nd (de_call ((c_greatest_divisor T).mono (by decide)) hr (da_cons (de_callB cd_abs rfl T.b_abs bt_abs (da_cons (dv 0) da_nil)) (da_cons (de_callB cd_abs rfl T.b_abs bt_abs (da_cons (dv 1) da_nil)) da_nil))))
      (dss_cons (ds_if (dt_cmp (od_ltX hr.units) (dv 1) de_int) (dss_one (ds_set 2 sc_fraction.nd (de_un un_negD (dv 2)))) dss_nil)
      (dss_one (ds_ret (de_tup (da_cons (de_op od_fd (dv 0) (dv 2)) (da_cons (de_op od_fd (dv 1) (dv 2)) da_nil)))))))), fun ds M Q h => ?r⟩
  case r =>
    unfold sp_fraction at h
    split at h
    case h_2 => exact h.elim
    obtain ⟨t, b, rfl, rfl, hb, ht, hbb, q⟩ := h
    have hg := Ma.g_pos (t := t) hb
    have hgd : Bd 8000 ((Nat.gcd t.natAbs b.natAbs : Nat) : Int) := hbb.of_le (by simpa using Nat.gcd_le_right t.natAbs (show 0 < b.natAbs by omega))
    refine ⟨_, rfl, _, rfl, iteB (decide_eq_false hb) ?_⟩
    refine ⟨_, rfl, _, rfl, t.natAbs, b.natAbs, rfl, rfl, ?_⟩
    refine ⟨_, rfl, trivial, _, rfl, ?_⟩
    refine ite2 (fun h => ?_) (fun h => ?_)
    · have hneg : b < 0 := by simpa using h
      obtain ⟨e1, e2⟩ := Ma.low_neg (t := t) hneg
      refine ⟨_, rfl, _, rfl, _, rfl, ⟨by omega, hgd.neg⟩, _, rfl, _, rfl, ⟨by omega, hgd.neg⟩, Nat.le_of_ble_eq_true rfl, ?_⟩
      dsimp only
      rw [e1, e2]
      exact rtn q
    · have hpos : 0 < b := by
        have : ¬ b < 0 := by simpa using h
        omega
      obtain ⟨e1, e2⟩ := Ma.low_pos (t := t) hpos
      refine ⟨_, rfl, _, rfl, ⟨by omega, hgd⟩, _, rfl, _, rfl, ⟨by omega, hgd⟩, Nat.le_of_ble_eq_true rfl, ?_⟩
      dsimp only
      rw [e1, e2]
      exact rtn q
theorem sc_read_fraction : FnScope ["text", "top_text", "stroke", "bottom_text", "top", "bottom"] ["text"] (defScope s_read_fraction) := ⟨rfl, rfl, rfl, by decide, rfl, by decide, by decide⟩
inductive Cn_read_fraction (x : D) (M : MH) (Q : DK) : Prop
  | mk (q : Rat) (hh0 : x = .str (sQ q)) (hh1 : q.num.natAbs < 10 ^ 30) (hh2 : q.den < 10 ^ 30) (hh3 : Q (Ma.fr q) M) : Cn_read_fraction x M Q
noncomputable def sp_read_fraction : SpD := fun ds M Q => match ds with
  | [x] => Cn_read_fraction x M Q
  | _ => False
theorem ln_read_fraction : ∀ ds M Q, sp_read_fraction ds M Q → ds.length = 1 := fun ds M Q h => by
  unfold sp_read_fraction at h
  split at h
  · rfl
  · exact h.elim
set_option maxHeartbeats 4000000 in
theorem c_read_fraction {P : Program} {w : World} {K : PySem.W.Frag} {mg : Str → Option Value} {base : Heap} (T : Tx K mg) : Cal P w K mg base 3 "read_fraction" sp_read_fraction := by
  refine calD (k := 2) (N := ["text", "top_text", "stroke", "bottom_text", "top", "bottom"]) (ps := ["text"]) T.f_read_fraction sc_read_fraction (fun _ _ _ _ _ _ us hl => by obtain ⟨_, rfl⟩ := SD.ln_1 hl; rfl) ln_read_fraction fun f cdv A outer s H E hr => ⟨_, (dss_cons (ds_asg (de_m_part (dv 0) (da_cons de_str da_nil)) (dg_tup rfl (dgs_cons (dg_name 1 sc_read_fraction.nd) (dgs_cons (dg_name 2 sc_read_fraction.nd) (dgs_cons (dg_name 3 sc_read_fraction.nd) dgs_nil)))))
      (dss_cons (ds_set 4 sc_read_fraction.nd (de_call ((c_read_top T).mono (by decide)) hr (da_cons (dv 1) da_nil)))
      (dss_cons (ds_if (dt_w (dw_or (dt_cmp od_is (dv 4) de_non) (dw_or1 (dt_cmp (od_eqT hr.units) (dv 2) de_str)))) (dss_one (ds_ret (de_ife (dt_cmp od_is (dv 4) de_non) de_non (de_tup (da_cons (dv 4) (da_cons de_int da_nil)))))) dss_nil)
      (dss_cons (ds_set 5 sc_read_fraction.nd (de_call ((c_read_number T).mono (by decide)) hr (da_cons (dv 3) da_nil)))
      (dss_cons (ds_if (dt_w (dw_or (dt_cmp od_is (dv 5) de_non) (dw_or (dt_cmp (od_ltX hr.units) (dv 5) de_int) (dw_or1 (dt_cmp (od_neT hr.units) (de_call ((c_fraction T).mono (by decide)) hr (da_cons (dv 4) (da_cons (dv 5) da_nil))) (de_tup (da_cons (dv 4) (da_cons (dv 5) da_nil)))))))) (dss_one (ds_ret de_non)) dss_nil)
      (dss_one (ds_ret (de_tup (da_cons (dv 4) (da_cons (dv 5) da_nil)))))))))), fun ds M Q h => ?r⟩
  case r =>
    unfold sp_read_fraction at h
    split at h
    case h_2 => exact h.elim
    obtain ⟨q, rfl, h1, h2, k⟩ := h
    have b30 : ∀ {z : Int}, z.natAbs < 10 ^ 30 → Bd 900 z := fun {z} h => Nat.lt_of_lt_of_le h (by show 10 ^ 30 ≤ 2 ^ 900; exact Nat.le_trans (show 10 ^ 30 ≤ 2 ^ 100 by decide) (Nat.pow_le_pow_right (by decide) (by decide)))
    have hl : (sQ q).length ≤ 2000 := sF_len (b30 h1) (b30 (show ((q.den : Nat) : Int).natAbs < 10 ^ 30 by simpa using h2))
    have sz : 1000000 ≤ sizeLine := Nat.le_of_ble_eq_true rfl
    have no : ∀ (a : Int), 47 ∉ (iT a).cps.toList := fun a h => by have := iT_sign h; omega
    by_cases hd : (q.den : Int) = 1
    · have e : sQ q = iT q.num := by show sF q.num (q.den : Int) = _; unfold sF; rw [if_pos hd]
      have k : Q (.tup [.int q.num, .int 1]) M := by have k := k; unfold Ma.fr at k; rw [hd] at k; exact k
      rw [e] at hl ⊢
      refine ⟨_, rfl, _, rfl, by omega, _, rfl, (by rw [t_slash]; rfl), ?_⟩
      rw [t_slash, part_none (no _)]
      refine ⟨_, rfl, rfl, _, _, rfl, _, _, rfl, _, _, rfl, rfl, ?_⟩
      refine ⟨_, rfl, q.num, rfl, h1, ?_⟩
      (try dsimp only [SD.tSeqD, SD.tAsgD, SD.gNameD, SD.tIfSD, SD.tRetD, SD.tNextD, SD.tDropD, SD.tBD, SD.tNotD])
      refine orT false true (fun K hK => ⟨_, rfl, _, rfl, _, rfl, hK⟩) (fun _ K hK => ⟨_, rfl, _, rfl, ?_⟩) ?_
      · rw [t_none, decide_eq_true rfl]; exact hK
      · exact iteA rfl ⟨_, rfl, _, rfl, _, rfl, iteB rfl ⟨_, rfl, Nat.le_of_ble_eq_true rfl, rtn k⟩⟩
    · have e : sQ q = iT q.num ++ ⟨#[47]⟩ ++ iT (q.den : Int) := by show sF q.num (q.den : Int) = _; unfold sF; rw [if_neg hd]
      have ep : Txt.partition (iT q.num ++ ⟨#[47]⟩ ++ iT (q.den : Int)) ⟨#[47]⟩ = (iT q.num, ⟨#[47]⟩, iT (q.den : Int)) := part_some (no _) (by rw [app_cps, app_cps]; simp)
      have hp := q.den_pos
      rw [e] at hl ⊢
      refine ⟨_, rfl, _, rfl, by omega, _, rfl, (by rw [t_slash]; rfl), ?_⟩
      rw [t_slash, ep]
      refine ⟨_, rfl, rfl, _, _, rfl, _, _, rfl, _, _, rfl, rfl, ?_⟩
      refine ⟨_, rfl, q.num, rfl, h1, ?_⟩
      (try dsimp only [SD.gNameD])
      refine seq_cut (fun δ M' => M' = M ∧ δ = [some (.str (iT q.num ++ ⟨#[47]⟩ ++ iT (q.den : Int))), some (.str (iT q.num)), some (.str ⟨#[47]⟩), some (.str (iT (q.den : Int))), some (.int q.num), none]) ?_ (fun hu => ?_)
      rotate_left
      · (try dsimp only [SD.tSeqD, SD.tAsgD, SD.gNameD, SD.tIfSD, SD.tRetD, SD.tNextD, SD.tDropD, SD.tBD, SD.tNotD])
        refine orT false false (fun K hK => ⟨_, rfl, _, rfl, _, rfl, hK⟩) (fun _ K hK => ⟨_, rfl, _, rfl, ?_⟩) ?_
        · rw [t_none, decide_eq_false (by intro z; have := congrArg (fun x : Str => x.cps.toList) z; simp [Str.empty] at this)]; exact hK
        · exact iteB rfl (hu _ _ ⟨rfl, rfl⟩)
      rintro δ M' ⟨rfl, rfl⟩
      refine ⟨_, rfl, _, q.den, rfl, iT_nat q.den, h2, ?_⟩
      (try dsimp only [SD.tSeqD, SD.tAsgD, SD.gNameD, SD.tIfSD, SD.tRetD, SD.tNextD, SD.tDropD, SD.tBD, SD.tNotD])
      refine orT false false (fun K hK => ⟨_, rfl, _, rfl, _, rfl, hK⟩) (fun _ K hK => ?_) ?_
      · refine orT false false (fun K' hK' => ⟨_, rfl, trivial, _, rfl, ?_⟩) (fun _ K' hK' => ?_) hK
        · dsimp only
          rw [decide_eq_false (by omega)]; exact hK'
        · refine ⟨_, rfl, _, rfl, _, _, rfl, rfl, by omega, (b30 h1).mono (by decide), (b30 (show ((q.den : Nat) : Int).natAbs < 10 ^ 30 by simpa using h2)).mono (by decide), ?_⟩
          rw [Rat.num_divInt_den]
          refine ⟨_, rfl, _, rfl, Nat.le_of_ble_eq_true rfl, _, _, Pd.of rfl, Pd.of rfl, rfl, rfl, _, rfl, ?_⟩
          rw [Ma.eqv_fr, decide_eq_true rfl]
          exact hK'
      · exact iteB rfl ⟨_, rfl, _, rfl, Nat.le_of_ble_eq_true rfl, rtn k⟩
theorem sc_read_spots : FnScope ["word", "many", "row", "first", "words", "parts"] ["word", "many", "row"] (defScope s_read_spots) := ⟨rfl, rfl, rfl, by decide, rfl, by decide, by decide⟩
inductive Cn_read_spots (w m r : D) (M : MH) (Q : DK) : Prop
  | mk (word w0 : Str) (n : Nat) (l : List (Rat × Rat)) (hh0 : w = .str word) (hh1 : m = .int (n : Int)) (hh2 : r = .str (rowS w0 l)) (hh3 : 32 ∉ w0.cps.toList) (hh4 : w0.length ≤ 1000) (hh5 : 1 ≤ n) (hh6 : n ≤ 2) (hh7 : l.length ≤ 2) (hh8 : (∀ s ∈ l, N30 s.1 ∧ N30 s.2)) (hh9 : ((w0 ≠ word ∨ l.length ≠ n) → ∀ M', SD.Sub M M' → Q .non M')) (hh10 : (w0 = word → l.length = n → ∀ M' p, SD.Sub M M' → M p = none → M' p = some (.lst (l.map spq)) → Q (.ref p) M')) : Cn_read_spots w m r M Q
noncomputable def sp_read_spots : SpD := fun ds M Q => match ds with
  | [w, m, r] => Cn_read_spots w m r M Q
  | _ => False
theorem ln_read_spots : ∀ ds M Q, sp_read_spots ds M Q → ds.length = 3 := fun ds M Q h => by
  unfold sp_read_spots at h
  split at h
  · rfl
  · exact h.elim
set_option maxHeartbeats 4000000 in
theorem c_read_spots {P : Program} {w : World} {K : PySem.W.Frag} {mg : Str → Option Value} {base : Heap} (T : Tx K mg) : Cal P w K mg base 4 "read_spots" sp_read_spots := by
  refine calD (k := 3) (N := ["word", "many", "row", "first", "words", "parts"]) (ps := ["word", "many", "row"]) T.f_read_spots sc_read_spots (fun _ _ _ _ _ _ us hl => by obtain ⟨_, _, _, rfl⟩ := SD.ln_3 hl; rfl) ln_read_spots fun f cdv A outer s H E hr => ⟨_, (dss_cons (ds_asg (de_m_split (dv 2) (da_cons de_str da_nil)) (dg_star rfl (dgs_cons (dg_name 3 sc_read_spots.nd) (dgs_star (dg_name 4 sc_read_spots.nd)))))
      (dss_cons (ds_set 5 sc_read_spots.nd (de_comp1 (CScope.of (xs := ["part"]) (js := []) rfl) rfl (di_seq (dv 4)) (fun _ _ _ _ => dts_nil) (fun _ _ _ _ => (de_call ((c_read_fraction T).mono (by decide)) hr (da_cons (dv 0) da_nil)))))
      (dss_cons (ds_if (dt_w (dw_or (dt_cmp (od_neT hr.units) (dv 3) (dv 0)) (dw_or (dt_cmp (od_neT hr.units) (de_callB cd_lenT rfl T.b_len bt_len (da_cons (dv 5) da_nil)) (de_op od_mul de_int (dv 1))) (dw_or1 (dt_cmp (od_in (ru66 hr)) de_non (dv 5) (by with_unfolding_all rfl)))))) (dss_one (ds_ret de_non)) dss_nil)
      (dss_one (ds_ret (de_comp1 (CScope.of (xs := ["at"]) (js := [5]) rfl) rfl (di_range1 rfl T.b_range (da_cons (dv 1) da_nil)) (fun _ _ _ _ => dts_nil) (fun _ _ _ _ => (de_tup (da_cons (de_ixT (dv 1) (de_op od_mul de_int (dv 0))) (da_cons (de_ixT (dv 1) (de_op od_addT (de_op od_mul de_int (dv 0)) de_int)) da_nil)))))))))), fun ds M Q h => ?r⟩
  case r =>
    unfold sp_read_spots at h
    split at h
    case h_2 => exact h.elim
    obtain ⟨word, w0, n, l, rfl, rfl, rfl, h32, hw, n1, n2, hl2, hs, k1, k2⟩ := h
    have fl := flat_len l
    have hq : ∀ q ∈ flat l, N30 q := fun q hq => by
      obtain ⟨s, hm, e⟩ := flat_mem hq
      rcases e with rfl | rfl
      · exact (hs s hm).1
      · exact (hs s hm).2
    have hlen := rowS_len hw hl2 fun s hm => ⟨(hs s hm).1.bq, (hs s hm).2.bq⟩
    refine ⟨_, rfl, _, rfl, by omega, _, rfl, (by rw [t_spc]; rfl), fun p0 hp0 => ?_⟩
    rw [t_spc, rowS_split l h32]
    refine ⟨p0, _, _, rfl, updM_same, (by rw [List.length_map, List.length_map]; omega), fun p1 hp1 => ⟨_, _, rfl, _, _, rfl, rfl, ?_⟩⟩
    refine ⟨_, rfl, _, updM_same, comp_map (fun i => (((flat l).map Ma.fr)[i]?).getD .non) (by show (((flat l).map sQ).map D.str).length ≤ 1000000; rw [List.length_map, List.length_map]; omega) (fun p ys hp => ?_) ?_ (fun p2 hp2 => ?_)⟩
    · show (updM _ p _) p1 = _
      rw [updM_ne (ne_fresh updM_same hp)]; exact updM_same
    · intro j e M3 hj he sb3
      have he : (((flat l).map sQ).map D.str)[j]? = some e := he
      rw [List.map_map, List.getElem?_map] at he
      cases es : (flat l)[j]? with
      | none => rw [es] at he; cases he
      | some q =>
        rw [es] at he
        cases he
        have z := hq q (List.mem_of_getElem? es)
        refine ⟨_, rfl, fun K2 hK2 => ?_⟩
        have zz := hK2 M3 .refl
        rw [getD_map es] at zz
        exact ⟨_, rfl, q, rfl, z.1, z.2, zz⟩
    have er := SD.range_getD ((flat l).map Ma.fr)
    rw [List.length_map] at er
    dsimp only
    rw [List.length_map, List.length_map, er]
    have h2 : ∀ {G}, (updM G p2 (.lst ((flat l).map Ma.fr))) p2 = some (.lst ((flat l).map Ma.fr)) := updM_same
    have sb : SD.Sub M (updM (updM (updM M p0 (.lst (List.map D.str (w0 :: (flat l).map sQ)))) p1 (.lst (List.map D.str ((flat l).map sQ)))) p2 (.lst ((flat l).map Ma.fr))) := .new hp2 (.new hp1 (.new hp0 .refl))
    have h2 : (updM (updM (updM M p0 (.lst (List.map D.str (w0 :: (flat l).map sQ)))) p1 (.lst (List.map D.str ((flat l).map sQ)))) p2 (.lst ((flat l).map Ma.fr))) p2 = some (.lst ((flat l).map Ma.fr)) := updM_same
    generalize updM (updM (updM M p0 (.lst (List.map D.str (w0 :: (flat l).map sQ)))) p1 (.lst (List.map D.str ((flat l).map sQ)))) p2 (.lst ((flat l).map Ma.fr)) = M2 at sb h2 ⊢
    (try dsimp only [SD.tSeqD, SD.tAsgD, SD.gNameD, SD.tIfSD, SD.tRetD, SD.tNextD, SD.tDropD, SD.tBD, SD.tNotD])
    refine orT (!decide (w0 = word)) (!decide (l.length = n) || false) (fun K hK => ⟨_, rfl, _, rfl, _, rfl, hK⟩) (fun _ K hK => orT (!decide (l.length = n)) false (fun K' hK' => ⟨_, rfl, _, h2, _, rfl, mulOk_l (bd64 (by decide)), _, rfl, ?_⟩) (fun _ K' hK' => ⟨_, rfl, _, _, .non, .inl (.lst h2 (pds_frs _)), rfl, lay_frs _, _, rfl, ?_⟩) hK) ?_
    · rw [show decide ((((flat l).map Ma.fr).length : Int) = 2 * (n : Int)) = decide (l.length = n) from decide_eq_decide.mpr (by rw [List.length_map, fl]; omega)]
      exact hK'
    · rw [any_frs]; exact hK'
    by_cases c : w0 = word ∧ l.length = n
    · obtain ⟨c1, c2⟩ := c
      refine iteB (by rw [decide_eq_true c1, decide_eq_true c2]; rfl) ?_
      refine ⟨_, rfl, n, rfl, by omega, comp_map (fun i => ((l.map spq)[i]?).getD .non) (by show n ≤ 1000000; omega) (fun _ _ _ => trivial) ?_ (fun p3 hp3 => ?_)⟩
      · intro j e M3 hj he sb3
        have hj : j < n := hj
        have hm := sb3 _ _ h2
        obtain ⟨f1, f2⟩ := flat_get l j
        cases es : l[j]? with
        | none => rw [List.getElem?_eq_none_iff] at es; omega
        | some s =>
          rw [es] at f1 f2
          cases he
          refine ⟨_, rfl, fun K2 hK2 => ?_⟩
          have z := hK2 M3 .refl
          rw [getD_map es] at z
          have a1 : atI ((flat l).map Ma.fr) ((2 : Int) * (j : Int)) = some (Ma.fr s.1) := by
            rw [show (2 : Int) * (j : Int) = ((2 * j : Nat) : Int) by omega]
            exact atI_nat (by rw [List.getElem?_map, f1]; rfl)
          have a2 : atI ((flat l).map Ma.fr) ((2 : Int) * (j : Int) + 1) = some (Ma.fr s.2) := by
            rw [show (2 : Int) * (j : Int) + 1 = ((2 * j + 1 : Nat) : Int) by omega]
            exact atI_nat (by rw [List.getElem?_map, f2]; rfl)
          exact ⟨_, rfl, _, rfl, mulOk_l (bd64 (by decide)), _, _, hm, a1, _, rfl, _, rfl, mulOk_l (bd64 (by decide)), _, _, hm, a2, Nat.le_of_ble_eq_true rfl, z⟩
      · have e := SD.range_getD (l.map spq)
        rw [List.length_map, c2] at e
        dsimp only
        rw [e]
        exact rtn (k2 c1 c2 _ p3 (fun u o z => by rw [updM_ne (ne_fresh (sb _ _ z) hp3)]; exact sb _ _ z) (none_sub hp3 sb) updM_same)
    · refine iteA ?_ (rtn (k1 ?_ _ sb))
      · by_cases c1 : w0 = word
        · by_cases c2 : l.length = n
          · exact absurd ⟨c1, c2⟩ c
          · rw [decide_eq_false c2]; simp
        · rw [decide_eq_false c1]; rfl
      · by_cases c1 : w0 = word
        · by_cases c2 : l.length = n
          · exact absurd ⟨c1, c2⟩ c
          · exact .inr c2
        · exact .inl c1
theorem sc_is_less : FnScope ["one", "other"] ["one", "other"] (defScope s_is_less) := ⟨rfl, rfl, rfl, by decide, rfl, by decide, by decide⟩
inductive Cn_is_less (x y : D) (M : MH) (Q : DK) : Prop
  | mk (q r : Rat) (hh0 : x = Ma.fr q) (hh1 : y = Ma.fr r) (hh2 : Ma.Bq 100000 q) (hh3 : Ma.Bq 100000 r) (hh4 : Q (.bl (decide (q < r))) M) : Cn_is_less x y M Q
noncomputable def sp_is_less : SpD := fun ds M Q => match ds with
  | [x, y] => Cn_is_less x y M Q
  | _ => False
theorem ln_is_less : ∀ ds M Q, sp_is_less ds M Q → ds.length = 2 := fun ds M Q h => by
  unfold sp_is_less at h
  split at h
  · rfl
  · exact h.elim
set_option maxHeartbeats 4000000 in
theorem c_is_less {P : Program} {w : World} {K : PySem.W.Frag} {mg : Str → Option Value} {base : Heap} (T : Tx K mg) : Cal P w K mg base 1 "is_less" sp_is_less := by
  refine calD (k := 0) (N := ["one", "other"]) (ps := ["one", "other"]) T.f_is_less sc_is_less (fun _ _ _ _ _ _ us hl => by obtain ⟨_, _, rfl⟩ := SD.ln_2 hl; rfl) ln_is_less fun f cdv A outer s H E hr => ⟨_, (dss_one (ds_ret (de_cmp (od_ltX hr.units) (de_op od_mul (de_ix (dv 0) de_int) (de_ix (dv 1) de_int)) (de_op od_mul (de_ix (dv 1) de_int) (de_ix (dv 0) de_int))))), fun ds M Q h => ?r⟩
  case r =>
    unfold sp_is_less at h
    split at h
    case h_2 => exact h.elim
    obtain ⟨q, r, rfl, rfl, h1, h2, k⟩ := h
    refine ⟨_, rfl, _, rfl, _, rfl, _, rfl, mulOk (h1.1.mono (by decide)) (h2.2.mono (by decide)), ?_⟩
    refine ⟨_, rfl, _, rfl, _, rfl, _, rfl, mulOk (h2.1.mono (by decide)) (h1.2.mono (by decide)), trivial, ?_⟩
    dsimp only
    rw [Ma.lt_fr]
    exact rtn k
theorem sc_is_ahead : FnScope ["one", "other"] ["one", "other"] (defScope s_is_ahead) := ⟨rfl, rfl, rfl, by decide, rfl, by decide, by decide⟩
inductive Cn_is_ahead (x y : D) (M : MH) (Q : DK) : Prop
  | mk (a b c d : Rat) (hh0 : x = Ma.spt a b) (hh1 : y = Ma.spt c d) (hh2 : Ma.Bq 100000 a) (hh3 : Ma.Bq 100000 b) (hh4 : Ma.Bq 100000 c) (hh5 : Ma.Bq 100000 d) (hh6 : Q (.bl (decide (a < c ∨ a = c ∧ b < d))) M) : Cn_is_ahead x y M Q
noncomputable def sp_is_ahead : SpD := fun ds M Q => match ds with
  | [x, y] => Cn_is_ahead x y M Q
  | _ => False
theorem ln_is_ahead : ∀ ds M Q, sp_is_ahead ds M Q → ds.length = 2 := fun ds M Q h => by
  unfold sp_is_ahead at h
  split at h
  · rfl
  · exact h.elim
set_option maxHeartbeats 4000000 in
theorem c_is_ahead {P : Program} {w : World} {K : PySem.W.Frag} {mg : Str → Option Value} {base : Heap} (T : Tx K mg) : Cal P w K mg base 2 "is_ahead" sp_is_ahead := by
  refine calD (k := 1) (N := ["one", "other"]) (ps := ["one", "other"]) T.f_is_ahead sc_is_ahead (fun _ _ _ _ _ _ us hl => by obtain ⟨_, _, rfl⟩ := SD.ln_2 hl; rfl) ln_is_ahead fun f cdv A outer s H E hr => ⟨_, (dss_cons (ds_if (dt_cmp (od_eq hr.units) (de_ix (dv 0) de_int) (de_ix (dv 1) de_int)) (dss_one (ds_ret (de_call ((c_is_less T).mono (by decide)) hr (da_cons (de_ix (dv 0) de_int) (da_cons (de_ix (dv 1) de_int) da_nil))))) dss_nil)
      (dss_one (ds_ret (de_call ((c_is_less T).mono (by decide)) hr (da_cons (de_ix (dv 0) de_int) (da_cons (de_ix (dv 1) de_int) da_nil)))))), fun ds M Q h => ?r⟩
  case r =>
    unfold sp_is_ahead at h
    split at h
    case h_2 => exact h.elim
    obtain ⟨a, b, c, d, rfl, rfl, h1, h2, h3, h4, k⟩ := h
    refine ⟨_, rfl, _, rfl, _, rfl, _, rfl, _, _, Pd.of rfl, Pd.of rfl, rfl, rfl, ?_⟩
    rw [Ma.eqv_fr]
    refine ⟨_, rfl, ?_⟩
    refine ite2 (fun h => ?_) (fun h => ?_)
    · have e : a = c := by simpa using h
      subst e
      refine ⟨_, rfl, _, rfl, _, rfl, _, rfl, b, d, rfl, rfl, h2, h4, ?_⟩
      have z : (a < a ∨ a = a ∧ b < d) ↔ b < d := by
        have := Rat.lt_irrefl (a := a)
        simp [this]
      rw [decide_eq_decide.mpr z] at k
      exact rtn k
    · have e : ¬ a = c := by simpa using h
      refine ⟨_, rfl, _, rfl, _, rfl, _, rfl, a, c, rfl, rfl, h1, h3, ?_⟩
      have z : (a < c ∨ a = c ∧ b < d) ↔ a < c := by simp [e]
      rw [decide_eq_decide.mpr z] at k
      exact rtn k
theorem sc_gap : FnScope ["one", "other"] ["one", "other"] (defScope s_gap) := ⟨rfl, rfl, rfl, by decide, rfl, by decide, by decide⟩
inductive Cn_gap (x y : D) (M : MH) (Q : DK) : Prop
  | mk (t1 b1 t2 b2 : Int) (hh0 : x = .tup [.int t1, .int b1]) (hh1 : y = .tup [.int t2, .int b2]) (hh2 : Bd 1000000 t1) (hh3 : Bd 1000000 b1) (hh4 : Bd 1000000 t2) (hh5 : Bd 1000000 b2) (hh6 : Q (.tup [.int (t1 * b2 - t2 * b1), .int (b1 * b2)]) M) : Cn_gap x y M Q
noncomputable def sp_gap : SpD := fun ds M Q => match ds with
  | [x, y] => Cn_gap x y M Q
  | _ => False
theorem ln_gap : ∀ ds M Q, sp_gap ds M Q → ds.length = 2 := fun ds M Q h => by
  unfold sp_gap at h
  split at h
  · rfl
  · exact h.elim
set_option maxHeartbeats 4000000 in
theorem c_gap {P : Program} {w : World} {K : PySem.W.Frag} {mg : Str → Option Value} {base : Heap} (T : Tx K mg) : Cal P w K mg base 1 "gap" sp_gap := by
  refine calD (k := 0) (N := ["one", "other"]) (ps := ["one", "other"]) T.f_gap sc_gap (fun _ _ _ _ _ _ us hl => by obtain ⟨_, _, rfl⟩ := SD.ln_2 hl; rfl) ln_gap fun f cdv A outer s H E hr => ⟨_, (dss_one (ds_ret (de_tup (da_cons (de_op od_sub (de_op od_mul (de_ix (dv 0) de_int) (de_ix (dv 1) de_int)) (de_op od_mul (de_ix (dv 1) de_int) (de_ix (dv 0) de_int))) (da_cons (de_op od_mul (de_ix (dv 0) de_int) (de_ix (dv 1) de_int)) da_nil))))), fun ds M Q h => ?r⟩
  case r =>
    unfold sp_gap at h
    split at h
    case h_2 => exact h.elim
    obtain ⟨t1, b1, t2, b2, rfl, rfl, h1, h2, h3, h4, k⟩ := h
    refine ⟨_, rfl, _, rfl, _, rfl, _, rfl, mulOk h1 h4, _, rfl, _, rfl, _, rfl, _, rfl, mulOk h3 h2, trivial, ?_⟩
    exact ⟨_, rfl, _, rfl, _, rfl, _, rfl, mulOk h2 h4, Nat.le_of_ble_eq_true rfl, rtn k⟩
theorem sc_lean : FnScope ["wall", "spot", "a", "b", "c", "d", "x", "y", "across", "up", "along", "high"] ["wall", "spot"] (defScope s_lean) := ⟨rfl, rfl, rfl, by decide, rfl, by decide, by decide⟩
inductive Cn_lean (u v : D) (M : MH) (Q : DK) : Prop
  | mk (n : Nat) (a b c d x y : Rat) (hh0 : u = Ma.wll a b c d) (hh1 : v = Ma.spt x y) (hh2 : Ma.Bq n a) (hh3 : Ma.Bq n b) (hh4 : Ma.Bq n c) (hh5 : Ma.Bq n d) (hh6 : Ma.Bq n x) (hh7 : Ma.Bq n y) (hh8 : n ≤ 20000) (hh9 : ∀ t e : Int, 0 < e → Rat.divInt t e = Ma.cr a b c d x y → Bd (8 * n + 3) t → Bd (8 * n + 3) e → Q (.tup [.int t, .int e]) M) : Cn_lean u v M Q
noncomputable def sp_lean : SpD := fun ds M Q => match ds with
  | [u, v] => Cn_lean u v M Q
  | _ => False
theorem ln_lean : ∀ ds M Q, sp_lean ds M Q → ds.length = 2 := fun ds M Q h => by
  unfold sp_lean at h
  split at h
  · rfl
  · exact h.elim
set_option maxHeartbeats 4000000 in
theorem c_lean {P : Program} {w : World} {K : PySem.W.Frag} {mg : Str → Option Value} {base : Heap} (T : Tx K mg) : Cal P w K mg base 2 "lean" sp_lean := by
  refine calD (k := 1) (N := ["wall", "spot", "a", "b", "c", "d", "x", "y", "across", "up", "along", "high"]) (ps := ["wall", "spot"]) T.f_lean sc_lean (fun _ _ _ _ _ _ us hl => by obtain ⟨_, _, rfl⟩ := SD.ln_2 hl; rfl) ln_lean fun f cdv A outer s H E hr => ⟨_, (dss_cons (ds_asg (dv 0) (dg_tup rfl (dgs_cons (dg_tup rfl (dgs_cons (dg_name 2 sc_lean.nd) (dgs_cons (dg_name 3 sc_lean.nd) dgs_nil))) (dgs_cons (dg_tup rfl (dgs_cons (dg_name 4 sc_lean.nd) (dgs_cons (dg_name 5 sc_lean.nd) dgs_nil))) dgs_nil))))
      (dss_cons (ds_asg (dv 1) (dg_tup rfl (dgs_cons (dg_name 6 sc_lean.nd) (dgs_cons (dg_name 7 sc_lean.nd) dgs_nil))))
      (dss_cons (ds_par 8 9 rfl sc_lean.nd (da_cons (de_call ((c_gap T).mono (by decide)) hr (da_cons (dv 4) (da_cons (dv 2) da_nil))) (da_cons (de_call ((c_gap T).mono (by decide)) hr (da_cons (dv 5) (da_cons (dv 3) da_nil))) da_nil)))
      (dss_cons (ds_par 10 11 rfl sc_lean.nd (da_cons (de_call ((c_gap T).mono (by decide)) hr (da_cons (dv 6) (da_cons (dv 2) da_nil))) (da_cons (de_call ((c_gap T).mono (by decide)) hr (da_cons (dv 7) (da_cons (dv 3) da_nil))) da_nil)))
      (dss_one (ds_ret (de_call ((c_gap T).mono (by decide)) hr (da_cons (de_tup (da_cons (de_op od_mul (de_ix (dv 8) de_int) (de_ix (dv 11) de_int)) (da_cons (de_op od_mul (de_ix (dv 8) de_int) (de_ix (dv 11) de_int)) da_nil))) (da_cons (de_tup (da_cons (de_op od_mul (de_ix (dv 9) de_int) (de_ix (dv 10) de_int)) (da_cons (de_op od_mul (de_ix (dv 9) de_int) (de_ix (dv 10) de_int)) da_nil))) da_nil))))))))), fun ds M Q h => ?r⟩
  case r =>
    unfold sp_lean at h
    split at h
    case h_2 => exact h.elim
    obtain ⟨n, a, b, c, d, x, y, rfl, rfl, ha, hb, hc, hd, hx, hy, hn, k⟩ := h
    have mo : ∀ {m : Nat} {i : Int}, Bd m i → m ≤ 1000000 → Bd 1000000 i := fun z l => z.mono l
    have q1 := hc.t_sub ha
    have q2 := hd.t_sub hb
    have q3 := hx.t_sub ha
    have q4 := hy.t_sub hb
    have e1 := hc.2.mul ha.2
    have e2 := hd.2.mul hb.2
    have e3 := hx.2.mul ha.2
    have e4 := hy.2.mul hb.2
    refine ⟨_, rfl, _, rfl, rfl, _, _, rfl, ⟨_, rfl, rfl, _, _, rfl, _, _, rfl, rfl, ?_⟩⟩
    refine ⟨_, _, rfl, ⟨_, rfl, rfl, _, _, rfl, _, _, rfl, rfl, ?_⟩⟩
    refine ⟨rfl, _, rfl, _, rfl, rfl, _, _, rfl, _, _, rfl, rfl, ?_⟩
    refine ⟨_, rfl, _, rfl, _, _, _, _, rfl, rfl, mo hc.1 (by omega), mo hc.2 (by omega), mo ha.1 (by omega), mo ha.2 (by omega), ?_⟩
    refine ⟨_, rfl, _, rfl, _, _, _, _, rfl, rfl, mo hd.1 (by omega), mo hd.2 (by omega), mo hb.1 (by omega), mo hb.2 (by omega), ?_⟩
    refine ⟨_, _, rfl, ?_⟩
    refine ⟨_, rfl, _, rfl, _, _, _, _, rfl, rfl, mo hx.1 (by omega), mo hx.2 (by omega), mo ha.1 (by omega), mo ha.2 (by omega), ?_⟩
    refine ⟨_, rfl, _, rfl, _, _, _, _, rfl, rfl, mo hy.1 (by omega), mo hy.2 (by omega), mo hb.1 (by omega), mo hb.2 (by omega), ?_⟩
    refine ⟨_, _, rfl, ?_⟩
    refine ⟨_, rfl, _, rfl, _, rfl, _, rfl, mulOk (mo q1 (by omega)) (mo q4 (by omega)), ?_⟩
    refine ⟨_, rfl, _, rfl, _, rfl, _, rfl, mulOk (mo e1 (by omega)) (mo e4 (by omega)), Nat.le_of_ble_eq_true rfl, ?_⟩
    refine ⟨_, rfl, _, rfl, _, rfl, _, rfl, mulOk (mo q2 (by omega)) (mo q3 (by omega)), ?_⟩
    refine ⟨_, rfl, _, rfl, _, rfl, _, rfl, mulOk (mo e2 (by omega)) (mo e3 (by omega)), Nat.le_of_ble_eq_true rfl, ?_⟩
    refine ⟨_, _, _, _, rfl, rfl, mo (q1.mul q4) (by omega), mo (e1.mul e4) (by omega), mo (q2.mul q3) (by omega), mo (e2.mul e3) (by omega), ?_⟩
    have pe : ∀ q r : Rat, 0 < (q.den : Int) * (r.den : Int) := fun q r => Int.mul_pos (Ma.den_pos q) (Ma.den_pos r)
    refine rtn (k _ _ (Int.mul_pos (Int.mul_pos (pe c a) (pe y b)) (Int.mul_pos (pe d b) (pe x a))) (Ma.lean_eq a b c d x y) ?_ ?_)
    · exact ((((q1.mul q4).mul (e2.mul e3)).mono (show _ ≤ 8 * n + 2 by omega)).sub (((q2.mul q3).mul (e1.mul e4)).mono (show _ ≤ 8 * n + 2 by omega)))
    · exact ((e1.mul e4).mul (e2.mul e3)).mono (by omega)
theorem sc_side_of : FnScope ["wall", "spot", "top"] ["wall", "spot"] (defScope s_side_of) := ⟨rfl, rfl, rfl, by decide, rfl, by decide, by decide⟩
inductive Cn_side_of (u v : D) (M : MH) (Q : DK) : Prop
  | mk (n : Nat) (a b c d x y : Rat) (hh0 : u = Ma.wll a b c d) (hh1 : v = Ma.spt x y) (hh2 : Ma.Bq n a) (hh3 : Ma.Bq n b) (hh4 : Ma.Bq n c) (hh5 : Ma.Bq n d) (hh6 : Ma.Bq n x) (hh7 : Ma.Bq n y) (hh8 : n ≤ 1900) (hh9 : Q (.int (Ma.sgn (Ma.cr a b c d x y))) M) : Cn_side_of u v M Q
noncomputable def sp_side_of : SpD := fun ds M Q => match ds with
  | [u, v] => Cn_side_of u v M Q
  | _ => False
theorem ln_side_of : ∀ ds M Q, sp_side_of ds M Q → ds.length = 2 := fun ds M Q h => by
  unfold sp_side_of at h
  split at h
  · rfl
  · exact h.elim
set_option maxHeartbeats 4000000 in
theorem c_side_of {P : Program} {w : World} {K : PySem.W.Frag} {mg : Str → Option Value} {base : Heap} (T : Tx K mg) : Cal P w K mg base 3 "side_of" sp_side_of := by
  refine calD (k := 2) (N := ["wall", "spot", "top"]) (ps := ["wall", "spot"]) T.f_side_of sc_side_of (fun _ _ _ _ _ _ us hl => by obtain ⟨_, _, rfl⟩ := SD.ln_2 hl; rfl) ln_side_of fun f cdv A outer s H E hr => ⟨_, (dss_cons (ds_set 2 sc_side_of.nd (de_ix (de_call ((c_lean T).mono (by decide)) hr (da_cons (dv 0) (da_cons (dv 1) da_nil))) de_int))
      (dss_cons (ds_if (dt_cmp (od_gtX hr.units) (dv 2) de_int) (dss_one (ds_ret de_int)) dss_nil)
      (dss_cons (ds_if (dt_cmp (od_ltX hr.units) (dv 2) de_int) (dss_one (ds_ret (de_un un_negD de_int))) dss_nil)
      (dss_one (ds_ret de_int))))), fun ds M Q h => ?r⟩
  case r =>
    unfold sp_side_of at h
    split at h
    case h_2 => exact h.elim
    obtain ⟨n, a, b, c, d, x, y, rfl, rfl, ha, hb, hc, hd, hx, hy, hn, k⟩ := h
    refine ⟨_, rfl, _, rfl, n, a, b, c, d, x, y, rfl, rfl, ha, hb, hc, hd, hx, hy, by omega, fun t e he hte _ _ => ⟨_, rfl, ?_⟩⟩
    rw [← hte, Ma.sgn_top he] at k
    refine ⟨_, rfl, trivial, _, rfl, ?_⟩
    refine ite2 (fun h => ?_) (fun h => ?_)
    · rw [if_pos (by simpa using h)] at k
      exact rtn k
    rw [if_neg (by simpa using h)] at k
    refine ⟨_, rfl, trivial, _, rfl, ?_⟩
    refine ite2 (fun h => ?_) (fun h => ?_)
    · rw [if_pos (by simpa using h)] at k
      exact rtn k
    · rw [if_neg (by simpa using h)] at k
      exact rtn k
theorem sc_later_of : FnScope ["one", "other"] ["one", "other"] (defScope s_later_of) := ⟨rfl, rfl, rfl, by decide, rfl, by decide, by decide⟩
inductive Cn_later_of (x y : D) (M : MH) (Q : DK) : Prop
  | mk (a b e f : Rat) (hh0 : x = Ma.spt a b) (hh1 : y = Ma.spt e f) (hh2 : Ma.Bq 100000 a) (hh3 : Ma.Bq 100000 b) (hh4 : Ma.Bq 100000 e) (hh5 : Ma.Bq 100000 f) (hh6 : ∀ s : Rat × Rat, s = (if Ma.ah e f a b then (a, b) else (e, f)) → Q (Ma.spt s.1 s.2) M) : Cn_later_of x y M Q
noncomputable def sp_later_of : SpD := fun ds M Q => match ds with
  | [x, y] => Cn_later_of x y M Q
  | _ => False
theorem ln_later_of : ∀ ds M Q, sp_later_of ds M Q → ds.length = 2 := fun ds M Q h => by
  unfold sp_later_of at h
  split at h
  · rfl
  · exact h.elim
set_option maxHeartbeats 4000000 in
theorem c_later_of {P : Program} {w : World} {K : PySem.W.Frag} {mg : Str → Option Value} {base : Heap} (T : Tx K mg) : Cal P w K mg base 3 "later_of" sp_later_of := by
  refine calD (k := 2) (N := ["one", "other"]) (ps := ["one", "other"]) T.f_later_of sc_later_of (fun _ _ _ _ _ _ us hl => by obtain ⟨_, _, rfl⟩ := SD.ln_2 hl; rfl) ln_later_of fun f cdv A outer s H E hr => ⟨_, (dss_one (ds_ret (de_ife (dt_val (de_call ((c_is_ahead T).mono (by decide)) hr (da_cons (dv 1) (da_cons (dv 0) da_nil)))) (dv 0) (dv 1)))), fun ds M Q h => ?r⟩
  case r =>
    unfold sp_later_of at h
    split at h
    case h_2 => exact h.elim
    obtain ⟨a, b, e, f, rfl, rfl, h1, h2, h3, h4, k⟩ := h
    refine ⟨_, rfl, _, rfl, e, f, a, b, rfl, rfl, h3, h4, h1, h2, _, rfl, ?_⟩
    refine ite2 (fun h => ?_) (fun h => ?_)
    · have z : Ma.ah e f a b := by simpa [Ma.ah] using h
      have := k (a, b) (by rw [if_pos z])
      exact ⟨_, rfl, rtn this⟩
    · have z : ¬ Ma.ah e f a b := by simpa [Ma.ah] using h
      have := k (e, f) (by rw [if_neg z])
      exact ⟨_, rfl, rtn this⟩
theorem sc_earlier_of : FnScope ["one", "other"] ["one", "other"] (defScope s_earlier_of) := ⟨rfl, rfl, rfl, by decide, rfl, by decide, by decide⟩
inductive Cn_earlier_of (x y : D) (M : MH) (Q : DK) : Prop
  | mk (c d g h : Rat) (hh0 : x = Ma.spt c d) (hh1 : y = Ma.spt g h) (hh2 : Ma.Bq 100000 c) (hh3 : Ma.Bq 100000 d) (hh4 : Ma.Bq 100000 g) (hh5 : Ma.Bq 100000 h) (hh6 : ∀ s : Rat × Rat, s = (if Ma.ah c d g h then (c, d) else (g, h)) → Q (Ma.spt s.1 s.2) M) : Cn_earlier_of x y M Q
noncomputable def sp_earlier_of : SpD := fun ds M Q => match ds with
  | [x, y] => Cn_earlier_of x y M Q
  | _ => False
theorem ln_earlier_of : ∀ ds M Q, sp_earlier_of ds M Q → ds.length = 2 := fun ds M Q h => by
  unfold sp_earlier_of at h
  split at h
  · rfl
  · exact h.elim
set_option maxHeartbeats 4000000 in
theorem c_earlier_of {P : Program} {w : World} {K : PySem.W.Frag} {mg : Str → Option Value} {base : Heap} (T : Tx K mg) : Cal P w K mg base 3 "earlier_of" sp_earlier_of := by
  refine calD (k := 2) (N := ["one", "other"]) (ps := ["one", "other"]) T.f_earlier_of sc_earlier_of (fun _ _ _ _ _ _ us hl => by obtain ⟨_, _, rfl⟩ := SD.ln_2 hl; rfl) ln_earlier_of fun f cdv A outer s H E hr => ⟨_, (dss_one (ds_ret (de_ife (dt_val (de_call ((c_is_ahead T).mono (by decide)) hr (da_cons (dv 0) (da_cons (dv 1) da_nil)))) (dv 0) (dv 1)))), fun ds M Q h => ?r⟩
  case r =>
    unfold sp_earlier_of at h
    split at h
    case h_2 => exact h.elim
    obtain ⟨c, d, g, h', rfl, rfl, h1, h2, h3, h4, k⟩ := h
    refine ⟨_, rfl, _, rfl, c, d, g, h', rfl, rfl, h1, h2, h3, h4, _, rfl, ?_⟩
    refine ite2 (fun h => ?_) (fun h => ?_)
    · have z : Ma.ah c d g h' := by simpa [Ma.ah] using h
      have := k (c, d) (by rw [if_pos z])
      exact ⟨_, rfl, rtn this⟩
    · have z : ¬ Ma.ah c d g h' := by simpa [Ma.ah] using h
      have := k (g, h') (by rw [if_neg z])
      exact ⟨_, rfl, rtn this⟩
theorem sc_own_spot : FnScope ["spot", "x", "y"] ["spot"] (defScope s_own_spot) := ⟨rfl, rfl, rfl, by decide, rfl, by decide, by decide⟩
inductive Cn_own_spot (x : D) (M : MH) (Q : DK) : Prop
  | mk (a b : Rat) (hh0 : x = Ma.spt a b) (hh1 : Ma.Bq 8000 a) (hh2 : Ma.Bq 8000 b) (hh3 : Q (Ma.spt a b) M) : Cn_own_spot x M Q
noncomputable def sp_own_spot : SpD := fun ds M Q => match ds with
  | [x] => Cn_own_spot x M Q
  | _ => False
theorem ln_own_spot : ∀ ds M Q, sp_own_spot ds M Q → ds.length = 1 := fun ds M Q h => by
  unfold sp_own_spot at h
  split at h
  · rfl
  · exact h.elim
set_option maxHeartbeats 4000000 in
theorem c_own_spot {P : Program} {w : World} {K : PySem.W.Frag} {mg : Str → Option Value} {base : Heap} (T : Tx K mg) : Cal P w K mg base 3 "own_spot" sp_own_spot := by
  refine calD (k := 2) (N := ["spot", "x", "y"]) (ps := ["spot"]) T.f_own_spot sc_own_spot (fun _ _ _ _ _ _ us hl => by obtain ⟨_, rfl⟩ := SD.ln_1 hl; rfl) ln_own_spot fun f cdv A outer s H E hr => ⟨_, (dss_cons (ds_asg (dv 0) (dg_tup rfl (dgs_cons (dg_name 1 sc_own_spot.nd) (dgs_cons (dg_name 2 sc_own_spot.nd) dgs_nil))))
      (dss_one (ds_ret (de_tup (da_cons (de_call ((c_fraction T).mono (by decide)) hr (da_cons (de_ix (dv 1) de_int) (da_cons (de_ix (dv 1) de_int) da_nil))) (da_cons (de_call ((c_fraction T).mono (by decide)) hr (da_cons (de_ix (dv 2) de_int) (da_cons (de_ix (dv 2) de_int) da_nil))) da_nil)))))), fun ds M Q h => ?r⟩
  case r =>
    unfold sp_own_spot at h
    split at h
    case h_2 => exact h.elim
    obtain ⟨a, b, rfl, h1, h2, k⟩ := h
    refine ⟨_, rfl, _, rfl, rfl, _, _, rfl, _, _, rfl, rfl, ?_⟩
    refine ⟨_, rfl, _, rfl, _, rfl, _, rfl, a.num, (a.den : Int), rfl, rfl, Ma.den_ne a, h1.1, h1.2, ?_⟩
    refine ⟨_, rfl, _, rfl, _, rfl, _, rfl, b.num, (b.den : Int), rfl, rfl, Ma.den_ne b, h2.1, h2.2, Nat.le_of_ble_eq_true rfl, ?_⟩
    rw [Rat.num_divInt_den, Rat.num_divInt_den]
    exact rtn k
theorem sc_own_wall : FnScope ["wall"] ["wall"] (defScope s_own_wall) := ⟨rfl, rfl, rfl, by decide, rfl, by decide, by decide⟩
inductive Cn_own_wall (x : D) (M : MH) (Q : DK) : Prop
  | mk (a b c d : Rat) (hh0 : x = Ma.wll a b c d) (hh1 : Ma.Bq 8000 a) (hh2 : Ma.Bq 8000 b) (hh3 : Ma.Bq 8000 c) (hh4 : Ma.Bq 8000 d) (hh5 : Q (Ma.wll a b c d) M) : Cn_own_wall x M Q
noncomputable def sp_own_wall : SpD := fun ds M Q => match ds with
  | [x] => Cn_own_wall x M Q
  | _ => False
theorem ln_own_wall : ∀ ds M Q, sp_own_wall ds M Q → ds.length = 1 := fun ds M Q h => by
  unfold sp_own_wall at h
  split at h
  · rfl
  · exact h.elim
set_option maxHeartbeats 4000000 in
theorem c_own_wall {P : Program} {w : World} {K : PySem.W.Frag} {mg : Str → Option Value} {base : Heap} (T : Tx K mg) : Cal P w K mg base 4 "own_wall" sp_own_wall := by
  refine calD (k := 3) (N := ["wall"]) (ps := ["wall"]) T.f_own_wall sc_own_wall (fun _ _ _ _ _ _ us hl => by obtain ⟨_, rfl⟩ := SD.ln_1 hl; rfl) ln_own_wall fun f cdv A outer s H E hr => ⟨_, (dss_one (ds_ret (de_tup (da_cons (de_call ((c_own_spot T).mono (by decide)) hr (da_cons (de_ix (dv 0) de_int) da_nil)) (da_cons (de_call ((c_own_spot T).mono (by decide)) hr (da_cons (de_ix (dv 0) de_int) da_nil)) da_nil))))), fun ds M Q h => ?r⟩
  case r =>
    unfold sp_own_wall at h
    split at h
    case h_2 => exact h.elim
    obtain ⟨a, b, c, d, rfl, h1, h2, h3, h4, k⟩ := h
    exact ⟨_, rfl, _, rfl, a, b, rfl, h1, h2, _, rfl, _, rfl, c, d, rfl, h3, h4, Nat.le_of_ble_eq_true rfl, rtn k⟩
theorem sc_meeting_in_line : FnScope ["one", "other", "start", "end"] ["one", "other"] (defScope s_meeting_in_line) := ⟨rfl, rfl, rfl, by decide, rfl, by decide, by decide⟩
inductive Cn_meeting_in_line (u v : D) (M : MH) (Q : DK) : Prop
  | mk (a b c d e f g h : Rat) (hh0 : u = Ma.wll a b c d) (hh1 : v = Ma.wll e f g h) (hh2 : Ma.Bq 60 a) (hh3 : Ma.Bq 60 b) (hh4 : Ma.Bq 60 c) (hh5 : Ma.Bq 60 d) (hh6 : Ma.Bq 60 e) (hh7 : Ma.Bq 60 f) (hh8 : Ma.Bq 60 g) (hh9 : Ma.Bq 60 h) (hh10 : Q (inlD a b c d e f g h) M) : Cn_meeting_in_line u v M Q
noncomputable def sp_meeting_in_line : SpD := fun ds M Q => match ds with
  | [u, v] => Cn_meeting_in_line u v M Q
  | _ => False
theorem ln_meeting_in_line : ∀ ds M Q, sp_meeting_in_line ds M Q → ds.length = 2 := fun ds M Q h => by
  unfold sp_meeting_in_line at h
  split at h
  · rfl
  · exact h.elim
set_option maxHeartbeats 4000000 in
theorem c_meeting_in_line {P : Program} {w : World} {K : PySem.W.Frag} {mg : Str → Option Value} {base : Heap} (T : Tx K mg) : Cal P w K mg base 5 "meeting_in_line" sp_meeting_in_line := by
  refine calD (k := 4) (N := ["one", "other", "start", "end"]) (ps := ["one", "other"]) T.f_meeting_in_line sc_meeting_in_line (fun _ _ _ _ _ _ us hl => by obtain ⟨_, _, rfl⟩ := SD.ln_2 hl; rfl) ln_meeting_in_line fun f cdv A outer s H E hr => ⟨_, (dss_cons (ds_set 2 sc_meeting_in_line.nd (de_call ((c_later_of T).mono (by decide)) hr (da_cons (de_ix (dv 0) de_int) (da_cons (de_ix (dv 1) de_int) da_nil))))
      (dss_cons (ds_set 3 sc_meeting_in_line.nd (de_call ((c_earlier_of T).mono (by decide)) hr (da_cons (de_ix (dv 0) de_int) (da_cons (de_ix (dv 1) de_int) da_nil))))
      (dss_cons (ds_if (dt_val (de_call ((c_is_ahead T).mono (by decide)) hr (da_cons (dv 2) (da_cons (dv 3) da_nil)))) (dss_one (ds_ret (de_tup (da_cons de_str (da_cons (de_call ((c_own_wall T).mono (by decide)) hr (da_cons (de_tup (da_cons (dv 2) (da_cons (dv 3) da_nil))) da_nil)) da_nil))))) dss_nil)
      (dss_cons (ds_if (dt_val (de_call ((c_is_ahead T).mono (by decide)) hr (da_cons (dv 3) (da_cons (dv 2) da_nil)))) (dss_one (ds_ret de_non)) dss_nil)
      (dss_one (ds_ret (de_tup (da_cons de_str (da_cons (de_call ((c_own_spot T).mono (by decide)) hr (da_cons (dv 2) da_nil)) da_nil))))))))), fun ds M Q h => ?r⟩
  case r =>
    unfold sp_meeting_in_line at h
    split at h
    case h_2 => exact h.elim
    obtain ⟨a, b, c, d, e, f, g, h', rfl, rfl, h1, h2, h3, h4, h5, h6, h7, h8, k⟩ := h
    have mo : ∀ {n : Nat} {q : Rat}, Ma.Bq 60 q → 60 ≤ n → Ma.Bq n q := fun z l => z.mono l
    refine ⟨_, rfl, _, rfl, _, rfl, _, rfl, a, b, e, f, rfl, rfl, mo h1 (by decide), mo h2 (by decide), mo h5 (by decide), mo h6 (by decide), fun s hs => ?_⟩
    refine ⟨_, rfl, _, rfl, _, rfl, _, rfl, c, d, g, h', rfl, rfl, mo h3 (by decide), mo h4 (by decide), mo h7 (by decide), mo h8 (by decide), fun n hn => ?_⟩
    have bs : Ma.Bq 60 s.1 ∧ Ma.Bq 60 s.2 := by
      rw [hs]
      split
      · exact ⟨h1, h2⟩
      · exact ⟨h5, h6⟩
    have bn : Ma.Bq 60 n.1 ∧ Ma.Bq 60 n.2 := by
      rw [hn]
      split
      · exact ⟨h3, h4⟩
      · exact ⟨h7, h8⟩
    unfold inlD at k
    rw [← hs, ← hn] at k
    dsimp only at k
    obtain ⟨s1, s2⟩ := s
    obtain ⟨n1, n2⟩ := n
    dsimp only at bs bn k
    refine ⟨_, rfl, _, rfl, s1, s2, n1, n2, rfl, rfl, mo bs.1 (by decide), mo bs.2 (by decide), mo bn.1 (by decide), mo bn.2 (by decide), _, rfl, ?_⟩
    refine ite2 (fun z => ?_) (fun z => ?_)
    · have z : Ma.ah s1 s2 n1 n2 := by simpa [Ma.ah] using z
      rw [if_pos z] at k
      exact ⟨_, rfl, _, rfl, Nat.le_of_ble_eq_true rfl, s1, s2, n1, n2, rfl, mo bs.1 (by decide), mo bs.2 (by decide), mo bn.1 (by decide), mo bn.2 (by decide), Nat.le_of_ble_eq_true rfl, rtn k⟩
    have z : ¬ Ma.ah s1 s2 n1 n2 := by simpa [Ma.ah] using z
    rw [if_neg z] at k
    refine ⟨_, rfl, _, rfl, n1, n2, s1, s2, rfl, rfl, mo bn.1 (by decide), mo bn.2 (by decide), mo bs.1 (by decide), mo bs.2 (by decide), _, rfl, ?_⟩
    refine ite2 (fun y => ?_) (fun y => ?_)
    · have y : Ma.ah n1 n2 s1 s2 := by simpa [Ma.ah] using y
      rw [if_pos y] at k
      exact rtn k
    · have y : ¬ Ma.ah n1 n2 s1 s2 := by simpa [Ma.ah] using y
      rw [if_neg y] at k
      exact ⟨_, rfl, s1, s2, rfl, mo bs.1 (by decide), mo bs.2 (by decide), Nat.le_of_ble_eq_true rfl, rtn k⟩
theorem sc_over : FnScope ["one", "other"] ["one", "other"] (defScope s_over) := ⟨rfl, rfl, rfl, by decide, rfl, by decide, by decide⟩
inductive Cn_over (x y : D) (M : MH) (Q : DK) : Prop
  | mk (n : Nat) (q r : Rat) (hh0 : x = Ma.fr q) (hh1 : y = Ma.fr r) (hh2 : Ma.Bq n q) (hh3 : Ma.Bq n r) (hh4 : 2 * n + 1 ≤ 8000) (hh5 : r ≠ 0) (hh6 : Q (Ma.fr (q / r)) M) : Cn_over x y M Q
noncomputable def sp_over : SpD := fun ds M Q => match ds with
  | [x, y] => Cn_over x y M Q
  | _ => False
theorem ln_over : ∀ ds M Q, sp_over ds M Q → ds.length = 2 := fun ds M Q h => by
  unfold sp_over at h
  split at h
  · rfl
  · exact h.elim
set_option maxHeartbeats 4000000 in
theorem c_over {P : Program} {w : World} {K : PySem.W.Frag} {mg : Str → Option Value} {base : Heap} (T : Tx K mg) : Cal P w K mg base 3 "over" sp_over := by
  refine calD (k := 2) (N := ["one", "other"]) (ps := ["one", "other"]) T.f_over sc_over (fun _ _ _ _ _ _ us hl => by obtain ⟨_, _, rfl⟩ := SD.ln_2 hl; rfl) ln_over fun f cdv A outer s H E hr => ⟨_, (dss_one (ds_ret (de_call ((c_fraction T).mono (by decide)) hr (da_cons (de_op od_mul (de_ix (dv 0) de_int) (de_ix (dv 1) de_int)) (da_cons (de_op od_mul (de_ix (dv 0) de_int) (de_ix (dv 1) de_int)) da_nil))))), fun ds M Q h => ?r⟩
  case r =>
    unfold sp_over at h
    split at h
    case h_2 => exact h.elim
    obtain ⟨n, q, r, rfl, rfl, h1, h2, hn, h0, k⟩ := h
    obtain ⟨m1, m2, m3, m4⟩ := h1.mOk h2 (by omega)
    have hr0 : r.num ≠ 0 := fun z => h0 (Rat.num_eq_zero.mp z)
    refine ⟨_, rfl, _, rfl, _, rfl, _, rfl, m2, _, rfl, _, rfl, _, rfl, _, rfl, mulOk (h1.2.mono (by omega)) (h2.1.mono (by omega)), ?_⟩
    refine ⟨_, _, rfl, rfl, Int.mul_ne_zero (Ma.den_ne q) hr0, ((h1.1.mul h2.2).mono (by omega)), ((h1.2.mul h2.1).mono (by omega)), ?_⟩
    rw [Ma.div_eq]
    exact rtn k
theorem sc_less : FnScope ["one", "other"] ["one", "other"] (defScope s_less) := ⟨rfl, rfl, rfl, by decide, rfl, by decide, by decide⟩
inductive Cn_less (x y : D) (M : MH) (Q : DK) : Prop
  | mk (n : Nat) (q r : Rat) (hh0 : x = Ma.fr q) (hh1 : y = Ma.fr r) (hh2 : Ma.Bq n q) (hh3 : Ma.Bq n r) (hh4 : 2 * n + 1 ≤ 8000) (hh5 : Q (Ma.fr (q - r)) M) : Cn_less x y M Q
noncomputable def sp_less : SpD := fun ds M Q => match ds with
  | [x, y] => Cn_less x y M Q
  | _ => False
theorem ln_less : ∀ ds M Q, sp_less ds M Q → ds.length = 2 := fun ds M Q h => by
  unfold sp_less at h
  split at h
  · rfl
  · exact h.elim
set_option maxHeartbeats 4000000 in
theorem c_less {P : Program} {w : World} {K : PySem.W.Frag} {mg : Str → Option Value} {base : Heap} (T : Tx K mg) : Cal P w K mg base 3 "less" sp_less := by
  refine calD (k := 2) (N := ["one", "other"]) (ps := ["one", "other"]) T.f_less sc_less (fun _ _ _ _ _ _ us hl => by obtain ⟨_, _, rfl⟩ := SD.ln_2 hl; rfl) ln_less fun f cdv A outer s H E hr => ⟨_, (dss_one (ds_ret (de_call ((c_fraction T).mono (by decide)) hr (da_cons (de_op od_sub (de_op od_mul (de_ix (dv 0) de_int) (de_ix (dv 1) de_int)) (de_op od_mul (de_ix (dv 1) de_int) (de_ix (dv 0) de_int))) (da_cons (de_op od_mul (de_ix (dv 0) de_int) (de_ix (dv 1) de_int)) da_nil))))), fun ds M Q h => ?r⟩
  case r =>
    unfold sp_less at h
    split at h
    case h_2 => exact h.elim
    obtain ⟨n, q, r, rfl, rfl, h1, h2, hn, k⟩ := h
    obtain ⟨m1, m2, m3, m4⟩ := h1.mOk h2 (by omega)
    refine ⟨_, rfl, _, rfl, _, rfl, _, rfl, m2, _, rfl, _, rfl, _, rfl, _, rfl, m3, trivial, _, rfl, _, rfl, _, rfl, _, rfl, m4, ?_⟩
    refine ⟨_, _, rfl, rfl, Ma.dd_ne q r, (h1.t_sub h2).mono hn, (h1.t_den h2).mono hn, ?_⟩
    rw [Ma.sub_eq]
    exact rtn k
theorem sc_plus : FnScope ["one", "other"] ["one", "other"] (defScope s_plus) := ⟨rfl, rfl, rfl, by decide, rfl, by decide, by decide⟩
inductive Cn_plus (x y : D) (M : MH) (Q : DK) : Prop
  | mk (n : Nat) (q r : Rat) (hh0 : x = Ma.fr q) (hh1 : y = Ma.fr r) (hh2 : Ma.Bq n q) (hh3 : Ma.Bq n r) (hh4 : 2 * n + 1 ≤ 8000) (hh5 : Q (Ma.fr (q + r)) M) : Cn_plus x y M Q
noncomputable def sp_plus : SpD := fun ds M Q => match ds with
  | [x, y] => Cn_plus x y M Q
  | _ => False
theorem ln_plus : ∀ ds M Q, sp_plus ds M Q → ds.length = 2 := fun ds M Q h => by
  unfold sp_plus at h
  split at h
  · rfl
  · exact h.elim
set_option maxHeartbeats 4000000 in
theorem c_plus {P : Program} {w : World} {K : PySem.W.Frag} {mg : Str → Option Value} {base : Heap} (T : Tx K mg) : Cal P w K mg base 3 "plus" sp_plus := by
  refine calD (k := 2) (N := ["one", "other"]) (ps := ["one", "other"]) T.f_plus sc_plus (fun _ _ _ _ _ _ us hl => by obtain ⟨_, _, rfl⟩ := SD.ln_2 hl; rfl) ln_plus fun f cdv A outer s H E hr => ⟨_, (dss_one (ds_ret (de_call ((c_fraction T).mono (by decide)) hr (da_cons (de_op od_add (de_op od_mul (de_ix (dv 0) de_int) (de_ix (dv 1) de_int)) (de_op od_mul (de_ix (dv 1) de_int) (de_ix (dv 0) de_int))) (da_cons (de_op od_mul (de_ix (dv 0) de_int) (de_ix (dv 1) de_int)) da_nil))))), fun ds M Q h => ?r⟩
  case r =>
    unfold sp_plus at h
    split at h
    case h_2 => exact h.elim
    obtain ⟨n, q, r, rfl, rfl, h1, h2, hn, k⟩ := h
    obtain ⟨m1, m2, m3, m4⟩ := h1.mOk h2 (by omega)
    refine ⟨_, rfl, _, rfl, _, rfl, _, rfl, m2, _, rfl, _, rfl, _, rfl, _, rfl, m3, _, rfl, _, rfl, _, rfl, _, rfl, m4, ?_⟩
    refine ⟨_, _, rfl, rfl, Ma.dd_ne q r, (h1.t_add h2).mono hn, (h1.t_den h2).mono hn, ?_⟩
    rw [Ma.add_eq]
    exact rtn k
theorem sc_times : FnScope ["one", "other"] ["one", "other"] (defScope s_times) := ⟨rfl, rfl, rfl, by decide, rfl, by decide, by decide⟩
inductive Cn_times (x y : D) (M : MH) (Q : DK) : Prop
  | mk (n : Nat) (q r : Rat) (hh0 : x = Ma.fr q) (hh1 : y = Ma.fr r) (hh2 : Ma.Bq n q) (hh3 : Ma.Bq n r) (hh4 : 2 * n + 1 ≤ 8000) (hh5 : Q (Ma.fr (q * r)) M) : Cn_times x y M Q
noncomputable def sp_times : SpD := fun ds M Q => match ds with
  | [x, y] => Cn_times x y M Q
  | _ => False
theorem ln_times : ∀ ds M Q, sp_times ds M Q → ds.length = 2 := fun ds M Q h => by
  unfold sp_times at h
  split at h
  · rfl
  · exact h.elim
set_option maxHeartbeats 4000000 in
theorem c_times {P : Program} {w : World} {K : PySem.W.Frag} {mg : Str → Option Value} {base : Heap} (T : Tx K mg) : Cal P w K mg base 3 "times" sp_times := by
  refine calD (k := 2) (N := ["one", "other"]) (ps := ["one", "other"]) T.f_times sc_times (fun _ _ _ _ _ _ us hl => by obtain ⟨_, _, rfl⟩ := SD.ln_2 hl; rfl) ln_times fun f cdv A outer s H E hr => ⟨_, (dss_one (ds_ret (de_call ((c_fraction T).mono (by decide)) hr (da_cons (de_op od_mul (de_ix (dv 0) de_int) (de_ix (dv 1) de_int)) (da_cons (de_op od_mul (de_ix (dv 0) de_int) (de_ix (dv 1) de_int)) da_nil))))), fun ds M Q h => ?r⟩
  case r =>
    unfold sp_times at h
    split at h
    case h_2 => exact h.elim
    obtain ⟨n, q, r, rfl, rfl, h1, h2, hn, k⟩ := h
    obtain ⟨m1, m2, m3, m4⟩ := h1.mOk h2 (by omega)
    refine ⟨_, rfl, _, rfl, _, rfl, _, rfl, m1, _, rfl, _, rfl, _, rfl, _, rfl, m4, ?_⟩
    refine ⟨_, _, rfl, rfl, Ma.dd_ne q r, (h1.t_mul h2).mono hn, (h1.t_den h2).mono hn, ?_⟩
    rw [Ma.mul_eq]
    exact rtn k
theorem sc_number_between : FnScope ["start", "end", "share"] ["start", "end", "share"] (defScope s_number_between) := ⟨rfl, rfl, rfl, by decide, rfl, by decide, by decide⟩
inductive Cn_number_between (x y z : D) (M : MH) (Q : DK) : Prop
  | mk (p q s : Rat) (hh0 : x = Ma.fr p) (hh1 : y = Ma.fr q) (hh2 : z = Ma.fr s) (hh3 : Ma.Bq 60 p) (hh4 : Ma.Bq 60 q) (hh5 : Ma.Bq 1935 s) (hh6 : Q (Ma.fr (btw p q s)) M) : Cn_number_between x y z M Q
noncomputable def sp_number_between : SpD := fun ds M Q => match ds with
  | [x, y, z] => Cn_number_between x y z M Q
  | _ => False
theorem ln_number_between : ∀ ds M Q, sp_number_between ds M Q → ds.length = 3 := fun ds M Q h => by
  unfold sp_number_between at h
  split at h
  · rfl
  · exact h.elim
set_option maxHeartbeats 4000000 in
theorem c_number_between {P : Program} {w : World} {K : PySem.W.Frag} {mg : Str → Option Value} {base : Heap} (T : Tx K mg) : Cal P w K mg base 4 "number_between" sp_number_between := by
  refine calD (k := 3) (N := ["start", "end", "share"]) (ps := ["start", "end", "share"]) T.f_number_between sc_number_between (fun _ _ _ _ _ _ us hl => by obtain ⟨_, _, _, rfl⟩ := SD.ln_3 hl; rfl) ln_number_between fun f cdv A outer s H E hr => ⟨_, (dss_one (ds_ret (de_call ((c_plus T).mono (by decide)) hr (da_cons (dv 0) (da_cons (de_call ((c_times T).mono (by decide)) hr (da_cons (dv 2) (da_cons (de_call ((c_less T).mono (by decide)) hr (da_cons (dv 1) (da_cons (dv 0) da_nil))) da_nil))) da_nil))))), fun ds M Q h => ?r⟩
  case r =>
    unfold sp_number_between at h
    split at h
    case h_2 => exact h.elim
    obtain ⟨p, q, s, rfl, rfl, rfl, h1, h2, h3, k⟩ := h
    refine ⟨_, rfl, _, rfl, _, rfl, _, rfl, 60, q, p, rfl, rfl, h2, h1, by decide, ?_⟩
    refine ⟨1935, s, q - p, rfl, rfl, h3, (h2.sub h1).mono (by decide), by decide, ?_⟩
    exact ⟨3871, p, s * (q - p), rfl, rfl, h1.mono (by decide), (h3.mul ((h2.sub h1).mono (by decide))).mono (by decide), by decide, rtn k⟩
theorem sc_crossing_spot : FnScope ["one", "other", "start", "end", "top", "bottom", "from_start", "share"] ["one", "other"] (defScope s_crossing_spot) := ⟨rfl, rfl, rfl, by decide, rfl, by decide, by decide⟩
inductive Cn_crossing_spot (u v : D) (M : MH) (Q : DK) : Prop
  | mk (a b c d e f g h : Rat) (hh0 : u = Ma.wll a b c d) (hh1 : v = Ma.wll e f g h) (hh2 : Ma.Bq 60 a) (hh3 : Ma.Bq 60 b) (hh4 : Ma.Bq 60 c) (hh5 : Ma.Bq 60 d) (hh6 : Ma.Bq 60 e) (hh7 : Ma.Bq 60 f) (hh8 : Ma.Bq 60 g) (hh9 : Ma.Bq 60 h) (hh10 : Ma.cr a b c d e f - Ma.cr a b c d g h ≠ 0) (hh11 : Q (Ma.spt (btw e g (Ma.cr a b c d e f / (Ma.cr a b c d e f - Ma.cr a b c d g h))) (btw f h (Ma.cr a b c d e f / (Ma.cr a b c d e f - Ma.cr a b c d g h)))) M) : Cn_crossing_spot u v M Q
noncomputable def sp_crossing_spot : SpD := fun ds M Q => match ds with
  | [u, v] => Cn_crossing_spot u v M Q
  | _ => False
theorem ln_crossing_spot : ∀ ds M Q, sp_crossing_spot ds M Q → ds.length = 2 := fun ds M Q h => by
  unfold sp_crossing_spot at h
  split at h
  · rfl
  · exact h.elim
set_option maxHeartbeats 4000000 in
theorem c_crossing_spot {P : Program} {w : World} {K : PySem.W.Frag} {mg : Str → Option Value} {base : Heap} (T : Tx K mg) : Cal P w K mg base 5 "crossing_spot" sp_crossing_spot := by
  refine calD (k := 4) (N := ["one", "other", "start", "end", "top", "bottom", "from_start", "share"]) (ps := ["one", "other"]) T.f_crossing_spot sc_crossing_spot (fun _ _ _ _ _ _ us hl => by obtain ⟨_, _, rfl⟩ := SD.ln_2 hl; rfl) ln_crossing_spot fun f cdv A outer s H E hr => ⟨_, (dss_cons (ds_asg (dv 1) (dg_tup rfl (dgs_cons (dg_name 2 sc_crossing_spot.nd) (dgs_cons (dg_name 3 sc_crossing_spot.nd) dgs_nil))))
      (dss_cons (ds_asg (de_call ((c_lean T).mono (by decide)) hr (da_cons (dv 0) (da_cons (dv 2) da_nil))) (dg_tup rfl (dgs_cons (dg_name 4 sc_crossing_spot.nd) (dgs_cons (dg_name 5 sc_crossing_spot.nd) dgs_nil))))
      (dss_cons (ds_set 6 sc_crossing_spot.nd (de_call ((c_fraction T).mono (by decide)) hr (da_cons (dv 4) (da_cons (dv 5) da_nil))))
      (dss_cons (ds_asg (de_call ((c_lean T).mono (by decide)) hr (da_cons (dv 0) (da_cons (dv 3) da_nil))) (dg_tup rfl (dgs_cons (dg_name 4 sc_crossing_spot.nd) (dgs_cons (dg_name 5 sc_crossing_spot.nd) dgs_nil))))
      (dss_cons (ds_set 7 sc_crossing_spot.nd (de_call ((c_over T).mono (by decide)) hr (da_cons (dv 6) (da_cons (de_call ((c_less T).mono (by decide)) hr (da_cons (dv 6) (da_cons (de_call ((c_fraction T).mono (by decide)) hr (da_cons (dv 4) (da_cons (dv 5) da_nil))) da_nil))) da_nil))))
      (dss_one (ds_ret (de_tup (da_cons (de_call ((c_number_between T).mono (by decide)) hr (da_cons (de_ix (dv 2) de_int) (da_cons (de_ix (dv 3) de_int) (da_cons (dv 7) da_nil)))) (da_cons (de_call ((c_number_between T).mono (by decide)) hr (da_cons (de_ix (dv 2) de_int) (da_cons (de_ix (dv 3) de_int) (da_cons (dv 7) da_nil)))) da_nil)))))))))), fun ds M Q h => ?r⟩
  case r =>
    unfold sp_crossing_spot at h
    split at h
    case h_2 => exact h.elim
    obtain ⟨a, b, c, d, e, f, g, h', rfl, rfl, h1, h2, h3, h4, h5, h6, h7, h8, h0, k⟩ := h
    refine ⟨_, rfl, _, rfl, rfl, _, _, rfl, _, _, rfl, rfl, ?_⟩
    refine ⟨_, rfl, _, rfl, 60, a, b, c, d, e, f, rfl, rfl, h1, h2, h3, h4, h5, h6, by decide, fun t1 e1 he1 q1 bt1 be1 => ?_⟩
    refine ⟨_, rfl, rfl, _, _, rfl, _, _, rfl, rfl, ?_⟩
    refine ⟨_, rfl, _, rfl, t1, e1, rfl, rfl, by omega, bt1.mono (by decide), be1.mono (by decide), ?_⟩
    refine ⟨_, rfl, _, rfl, 60, a, b, c, d, g, h', rfl, rfl, h1, h2, h3, h4, h7, h8, by decide, fun t2 e2 he2 q2 bt2 be2 => ?_⟩
    refine ⟨_, rfl, rfl, _, _, rfl, _, _, rfl, rfl, ?_⟩
    have b1 : Ma.Bq 483 (Ma.cr a b c d e f) := by rw [← q1]; exact .divInt (by omega) bt1 be1
    have b2 : Ma.Bq 483 (Ma.cr a b c d g h') := by rw [← q2]; exact .divInt (by omega) bt2 be2
    rw [q1]
    refine ⟨_, rfl, _, rfl, _, rfl, _, rfl, t2, e2, rfl, rfl, by omega, bt2.mono (by decide), be2.mono (by decide), ?_⟩
    rw [q2]
    refine ⟨483, _, _, rfl, rfl, b1, b2, by decide, ?_⟩
    refine ⟨967, _, _, rfl, rfl, b1.mono (by decide), b1.sub b2, by decide, h0, ?_⟩
    have bs : Ma.Bq 1935 (Ma.cr a b c d e f / (Ma.cr a b c d e f - Ma.cr a b c d g h')) := by
      rw [← Ma.div_eq]
      have hz : (Ma.cr a b c d e f - Ma.cr a b c d g h').num ≠ 0 := fun z => h0 (Rat.num_eq_zero.mp z)
      have y1 := b1.mono (show 483 ≤ 967 by decide)
      have y2 := b1.sub b2
      exact .divInt (Int.mul_ne_zero (Ma.den_ne _) hz) ((y1.1.mul y2.2).mono (by decide)) ((y1.2.mul y2.1).mono (by decide))
    generalize Ma.cr a b c d e f / (Ma.cr a b c d e f - Ma.cr a b c d g h') = sh at bs k
    refine ⟨_, rfl, _, rfl, _, rfl, _, rfl, _, rfl, e, g, sh, rfl, rfl, rfl, h5, h7, bs, ?_⟩
    exact ⟨_, rfl, _, rfl, _, rfl, _, rfl, _, rfl, f, h', sh, rfl, rfl, rfl, h6, h8, bs, Nat.le_of_ble_eq_true rfl, rtn k⟩
theorem sc_meeting : FnScope ["one", "other", "first_side", "second_side"] ["one", "other"] (defScope s_meeting) := ⟨rfl, rfl, rfl, by decide, rfl, by decide, by decide⟩
inductive Cn_meeting (u v : D) (M : MH) (Q : DK) : Prop
  | mk (a b c d e f g h : Rat) (hh0 : u = Ma.wll a b c d) (hh1 : v = Ma.wll e f g h) (hh2 : Ma.Bq 60 a) (hh3 : Ma.Bq 60 b) (hh4 : Ma.Bq 60 c) (hh5 : Ma.Bq 60 d) (hh6 : Ma.Bq 60 e) (hh7 : Ma.Bq 60 f) (hh8 : Ma.Bq 60 g) (hh9 : Ma.Bq 60 h) (hh10 : Q (meetD a b c d e f g h) M) : Cn_meeting u v M Q
noncomputable def sp_meeting : SpD := fun ds M Q => match ds with
  | [u, v] => Cn_meeting u v M Q
  | _ => False
theorem ln_meeting : ∀ ds M Q, sp_meeting ds M Q → ds.length = 2 := fun ds M Q h => by
  unfold sp_meeting at h
  split at h
  · rfl
  · exact h.elim
set_option maxHeartbeats 4000000 in
theorem c_meeting {P : Program} {w : World} {K : PySem.W.Frag} {mg : Str → Option Value} {base : Heap} (T : Tx K mg) : Cal P w K mg base 6 "meeting" sp_meeting := by
  refine calD (k := 5) (N := ["one", "other", "first_side", "second_side"]) (ps := ["one", "other"]) T.f_meeting sc_meeting (fun _ _ _ _ _ _ us hl => by obtain ⟨_, _, rfl⟩ := SD.ln_2 hl; rfl) ln_meeting fun f cdv A outer s H E hr => ⟨_, (dss_cons (ds_par 2 3 rfl sc_meeting.nd (da_cons (de_call ((c_side_of T).mono (by decide)) hr (da_cons (dv 0) (da_cons (de_ix (dv 1) de_int) da_nil))) (da_cons (de_call ((c_side_of T).mono (by decide)) hr (da_cons (dv 0) (da_cons (de_ix (dv 1) de_int) da_nil))) da_nil)))
      (dss_cons (ds_if (dt_w (dw_and (dt_cmp (od_eq hr.units) (dv 2) de_int) (dw_and1 (dt_cmp (od_eq hr.units) (dv 3) de_int)))) (dss_one (ds_ret (de_call ((c_meeting_in_line T).mono (by decide)) hr (da_cons (dv 0) (da_cons (dv 1) da_nil))))) dss_nil)
      (dss_cons (ds_if (dt_w (dw_or (dt_cmp (od_gtX hr.units) (de_op od_mul (dv 2) (dv 3)) de_int) (dw_or1 (dt_cmp (od_gtX hr.units) (de_op od_mul (de_call ((c_side_of T).mono (by decide)) hr (da_cons (dv 1) (da_cons (de_ix (dv 0) de_int) da_nil))) (de_call ((c_side_of T).mono (by decide)) hr (da_cons (dv 1) (da_cons (de_ix (dv 0) de_int) da_nil)))) de_int)))) (dss_one (ds_ret de_non)) dss_nil)
      (dss_one (ds_ret (de_tup (da_cons de_str (da_cons (de_call ((c_crossing_spot T).mono (by decide)) hr (da_cons (dv 0) (da_cons (dv 1) da_nil))) da_nil)))))))), fun ds M Q h => ?r⟩
  case r =>
    unfold sp_meeting at h
    split at h
    case h_2 => exact h.elim
    obtain ⟨a, b, c, d, e, f, g, h', rfl, rfl, h1, h2, h3, h4, h5, h6, h7, h8, k⟩ := h
    unfold meetD at k
    refine ⟨_, rfl, _, rfl, _, rfl, 60, a, b, c, d, e, f, rfl, rfl, h1, h2, h3, h4, h5, h6, by decide, ?_⟩
    refine ⟨_, rfl, _, rfl, _, rfl, 60, a, b, c, d, g, h', rfl, rfl, h1, h2, h3, h4, h7, h8, by decide, ?_⟩
    refine ⟨_, _, rfl, ?_⟩
    have sb : ∀ z : Rat, Bd 64 (Ma.sgn z) := sgn_bd
    (try dsimp only [SD.gNameD])
    (try dsimp only [SD.tSeqD, SD.tAsgD, SD.gNameD, SD.tIfSD, SD.tRetD, SD.tNextD, SD.tDropD, SD.tBD, SD.tNotD])
    refine andT (decide (Ma.sgn (Ma.cr a b c d e f) = 0)) (decide (Ma.sgn (Ma.cr a b c d g h') = 0)) (fun K hK => ⟨_, rfl, _, rfl, hK⟩) (fun _ K hK => ⟨_, rfl, _, rfl, hK⟩) ?_
    rw [← Bool.decide_and]
    refine ite2 (fun z => ?_) (fun z => ?_)
    · have z : Ma.sgn (Ma.cr a b c d e f) = 0 ∧ Ma.sgn (Ma.cr a b c d g h') = 0 := by simpa using z
      rw [if_pos z] at k
      exact ⟨_, rfl, _, rfl, a, b, c, d, e, f, g, h', rfl, rfl, h1, h2, h3, h4, h5, h6, h7, h8, rtn k⟩
    have z : ¬ (Ma.sgn (Ma.cr a b c d e f) = 0 ∧ Ma.sgn (Ma.cr a b c d g h') = 0) := by simpa using z
    rw [if_neg z] at k
    refine orT (decide (0 < Ma.sgn (Ma.cr a b c d e f) * Ma.sgn (Ma.cr a b c d g h'))) (decide (0 < Ma.sgn (Ma.cr e f g h' a b) * Ma.sgn (Ma.cr e f g h' c d))) (fun K hK => ⟨_, rfl, _, rfl, mulOk_l (sb _), trivial, _, rfl, hK⟩)
      (fun _ K hK => ⟨_, rfl, _, rfl, _, rfl, 60, e, f, g, h', a, b, rfl, rfl, h5, h6, h7, h8, h1, h2, by decide, _, rfl, _, rfl, _, rfl, 60, e, f, g, h', c, d, rfl, rfl, h5, h6, h7, h8, h3, h4, by decide, mulOk_l (sb _), trivial, _, rfl, hK⟩) ?_
    rw [← Bool.decide_or]
    refine ite2 (fun y => ?_) (fun y => ?_)
    · rw [if_pos (by simpa using y)] at k
      exact rtn k
    · have y : ¬ (0 < Ma.sgn (Ma.cr a b c d e f) * Ma.sgn (Ma.cr a b c d g h') ∨ 0 < Ma.sgn (Ma.cr e f g h' a b) * Ma.sgn (Ma.cr e f g h' c d)) := by simpa using y
      rw [if_neg y] at k
      refine ⟨_, rfl, _, rfl, a, b, c, d, e, f, g, h', rfl, rfl, h1, h2, h3, h4, h5, h6, h7, h8, ?_, Nat.le_of_ble_eq_true rfl, rtn k⟩
      intro hz
      have hz : Ma.cr a b c d e f = Ma.cr a b c d g h' := by grind
      rw [hz] at y z
      have : Ma.sgn (Ma.cr a b c d g h') ≠ 0 := fun q => z ⟨q, q⟩
      have hs := sgn_cases (Ma.cr a b c d g h')
      rcases hs with q | q | q
      · rw [q] at y; exact y (.inl (by decide))
      · rw [q] at y; exact y (.inl (by decide))
      · exact this q
theorem sc_meet_as_in_plots : FnScope ["one", "other", "met"] ["one", "other"] (defScope s_meet_as_in_plots) := ⟨rfl, rfl, rfl, by decide, rfl, by decide, by decide⟩
theorem sixb {z : Int} (h : 0 ≤ z ∧ z ≤ 60) : Bd 6 z := by show z.natAbs < 2 ^ 6; omega
theorem sixc {z : Int} (h : 0 ≤ z ∧ z ≤ 20) : Bd 6 z := by show z.natAbs < 2 ^ 6; omega
theorem in_rwl {t b X Y : Int} {w : Wl} {x y : Int} (h : EndOf w x y) (M : MH) (Q : DK) (q : Q (.bl true) M) : rInG (fun b => b) (Ma.spt (Ma.ut t b X 1 x) (Ma.ut t b Y 1 y)) (rwl t b X Y w) M Q := by
  refine ⟨_, _, Pd.of rfl, .inr (Pd.of rfl), rfl, rfl, ?_⟩
  rw [List.any_cons, List.any_cons, List.any_nil, Ma.eqv_spt, Ma.eqv_spt, Bool.or_false]
  have e : (decide (Ma.ut t b X 1 w.1 = Ma.ut t b X 1 x ∧ Ma.ut t b Y 1 w.2.1 = Ma.ut t b Y 1 y) || decide (Ma.ut t b X 1 w.2.2.1 = Ma.ut t b X 1 x ∧ Ma.ut t b Y 1 w.2.2.2 = Ma.ut t b Y 1 y)) = true := by
    rcases h with ⟨rfl, rfl⟩ | ⟨rfl, rfl⟩
    · rw [decide_eq_true ⟨rfl, rfl⟩]; rfl
    · rw [decide_eq_true (p := _ ∧ Ma.ut t b Y 1 w.2.2.2 = Ma.ut t b Y 1 w.2.2.2) ⟨rfl, rfl⟩, Bool.or_true]
  rw [e]
  exact q
inductive Cn_meet_as_in_plots (u v : D) (M : MH) (Q : DK) : Prop
  | mk (t b X Y : Int) (U V : Wl) (hh0 : u = rwl t b X Y U) (hh1 : v = rwl t b X Y V) (hh2 : Scl t b X Y) (hh3 : Un6 U) (hh4 : Un6 V) (hh5 : Fair U V) (hh6 : Q (.bl true) M) : Cn_meet_as_in_plots u v M Q
noncomputable def sp_meet_as_in_plots : SpD := fun ds M Q => match ds with
  | [u, v] => Cn_meet_as_in_plots u v M Q
  | _ => False
theorem ln_meet_as_in_plots : ∀ ds M Q, sp_meet_as_in_plots ds M Q → ds.length = 2 := fun ds M Q h => by
  unfold sp_meet_as_in_plots at h
  split at h
  · rfl
  · exact h.elim
set_option maxHeartbeats 4000000 in
theorem c_meet_as_in_plots {P : Program} {w : World} {K : PySem.W.Frag} {mg : Str → Option Value} {base : Heap} (T : Tx K mg) : Cal P w K mg base 7 "meet_as_in_plots" sp_meet_as_in_plots := by
  refine calD (k := 6) (N := ["one", "other", "met"]) (ps := ["one", "other"]) T.f_meet_as_in_plots sc_meet_as_in_plots (fun _ _ _ _ _ _ us hl => by obtain ⟨_, _, rfl⟩ := SD.ln_2 hl; rfl) ln_meet_as_in_plots fun f cdv A outer s H E hr => ⟨_, (dss_cons (ds_set 2 sc_meet_as_in_plots.nd (de_call ((c_meeting T).mono (by decide)) hr (da_cons (dv 0) (da_cons (dv 1) da_nil))))
      (dss_cons (ds_if (dt_cmp od_is (dv 2) de_non) (dss_one (ds_ret de_bl)) dss_nil)
      (dss_one (ds_ret (de_and (de_cmp (od_eq hr.units) (de_ix (dv 2) de_int) de_str) (de_and (de_cmp (od_in (ru66 hr)) (de_ix (dv 2) de_int) (dv 0) (by with_unfolding_all rfl)) (de_one (de_cmp (od_in (ru66 hr)) (de_ix (dv 2) de_int) (dv 1) (by with_unfolding_all rfl))))))))), fun ds M Q h => ?r⟩
  case r =>
    unfold sp_meet_as_in_plots at h
    split at h
    case h_2 => exact h.elim
    obtain ⟨t, b, X, Y, U, V, rfl, rfl, S, HU, HV, F, k⟩ := h
    have bx : ∀ {z : Int}, (0 ≤ z ∧ z ≤ 60) → Ma.Bq 60 (Ma.ut t b X 1 z) := fun {z} h => (S.b60 (sixb h)).1
    have by' : ∀ {z : Int}, (0 ≤ z ∧ z ≤ 20) → Ma.Bq 60 (Ma.ut t b Y 1 z) := fun {z} h => (S.b60 (sixc h)).2
    refine ⟨_, rfl, _, rfl, _, _, _, _, _, _, _, _, rfl, rfl, bx HU.a, by' HU.b, bx HU.c, by' HU.d, bx HV.a, by' HV.b, bx HV.c, by' HV.d, ?_⟩
    rcases fair_meet (X := X) (Y := Y) S.t0 S.b0 HU HV F with e | ⟨x, y, e, eU, eV⟩
    · rw [e]
      exact ⟨_, rfl, _, rfl, _, rfl, iteA rfl (rtn k)⟩
    · rw [e]
      refine ⟨_, rfl, _, rfl, _, rfl, iteB rfl ?_⟩
      (try dsimp only [SD.tSeqD, SD.tAsgD, SD.gNameD, SD.tIfSD, SD.tRetD, SD.tNextD, SD.tDropD, SD.tBD, SD.tNotD])
      refine andV true true (fun K hK => ?_) (fun _ K hK => ?_) (rtn k)
      · refine ⟨_, rfl, _, rfl, _, _, .str _, .str _, ?_, ?_, ?_⟩
        · exact Bool.and_eq_true_iff.mpr ⟨by rw [PyData.canLay0]; exact ok_spot, decide_eq_true (Nat.le_of_ble_eq_true rfl)⟩
        · exact Bool.and_eq_true_iff.mpr ⟨by rw [PyData.canLay0]; exact ok_spot, decide_eq_true (Nat.le_of_ble_eq_true rfl)⟩
        · rw [eqv_str]; exact hK
      · exact andV true true (fun K hK => ⟨_, rfl, _, rfl, _, rfl, in_rwl eU _ _ hK⟩) (fun _ K hK => ⟨_, rfl, _, rfl, _, rfl, in_rwl eV _ _ hK⟩) hK
theorem sc_first_crossed : FnScope ["walls", "wall", "number", "other"] ["walls", "wall"] (defScope s_first_crossed) := ⟨rfl, rfl, rfl, by decide, rfl, by decide, by decide⟩
inductive Cn_first_crossed (u v : D) (M : MH) (Q : DK) : Prop
  | mk (a : Addr) (t b X Y : Int) (us : List Wl) (W : Wl) (hh0 : u = .ref a) (hh1 : v = rwl t b X Y W) (hh2 : M a = some (.lst (us.map (rwl t b X Y)))) (hh3 : Scl t b X Y) (hh4 : Un6 W) (hh5 : (∀ U ∈ us, Un6 U ∧ Fair W U)) (hh6 : Q .non M) : Cn_first_crossed u v M Q
noncomputable def sp_first_crossed : SpD := fun ds M Q => match ds with
  | [u, v] => Cn_first_crossed u v M Q
  | _ => False
theorem ln_first_crossed : ∀ ds M Q, sp_first_crossed ds M Q → ds.length = 2 := fun ds M Q h => by
  unfold sp_first_crossed at h
  split at h
  · rfl
  · exact h.elim
set_option maxHeartbeats 4000000 in
theorem c_first_crossed {P : Program} {w : World} {K : PySem.W.Frag} {mg : Str → Option Value} {base : Heap} (T : Tx K mg) : Cal P w K mg base 8 "first_crossed" sp_first_crossed := by
  refine calD (k := 7) (N := ["walls", "wall", "number", "other"]) (ps := ["walls", "wall"]) T.f_first_crossed sc_first_crossed (fun _ _ _ _ _ _ us hl => by obtain ⟨_, _, rfl⟩ := SD.ln_2 hl; rfl) ln_first_crossed fun f cdv A outer s H E hr => ⟨_, (dss_cons (ds_for PassesOwn.never rfl (di_enum rfl T.b_enumerate (da_cons (dv 0) da_nil)) (dg_tup rfl (dgs_cons (dg_name 2 sc_first_crossed.nd) (dgs_cons (dg_name 3 sc_first_crossed.nd) dgs_nil))) (dss_one (ds_if (dt_not (dt_val (de_call ((c_meet_as_in_plots T).mono (by decide)) hr (da_cons (dv 1) (da_cons (dv 3) da_nil))))) (dss_one (ds_ret (dv 2))) dss_nil)))
      (dss_one (ds_ret de_non))), fun ds M Q h => ?r⟩
  case r =>
    unfold sp_first_crossed at h
    split at h
    case h_2 => exact h.elim
    obtain ⟨a, t, b, X, Y, us, W, rfl, rfl, ha, S, HW, hU, k⟩ := h
    refine ⟨_, rfl, a, _, rfl, ha, ?_⟩
    refine ⟨fun i δ M' => M' = M ∧ ∃ o2 o3, δ = [some (.ref a), some (rwl t b X Y W), o2, o3], ⟨rfl, _, _, rfl⟩, fun i δ M' _ z => by obtain ⟨rfl, _⟩ := z; exact ha, ?_, ?_⟩
    · rintro i d δ M' hi hd ⟨rfl, o2, o3, rfl⟩
      have hd : ((us.map (rwl t b X Y))[i]?).map (fun d => D.tup [.int (i : Int), d]) = some d := hd
      rw [List.getElem?_map] at hd
      cases eu : us[i]? with
      | none => rw [eu] at hd; cases hd
      | some U =>
        rw [eu] at hd
        cases hd
        have q := hU U (List.mem_of_getElem? eu)
        refine ⟨_, rfl, rfl, _, _, rfl, _, _, rfl, rfl, ?_⟩
        exact ⟨_, rfl, _, rfl, t, b, X, Y, W, U, rfl, rfl, S, HW, q.1, q.2, _, rfl, iteB rfl ⟨rfl, _, _, rfl⟩⟩
    · rintro δ M' ⟨rfl, o2, o3, rfl⟩
      exact rtn k
theorem sc_read_wall : FnScope ["row", "walls", "spots", "wall"] ["row", "walls"] (defScope s_read_wall) := ⟨rfl, rfl, rfl, by decide, rfl, by decide, by decide⟩
noncomputable def sp_read_wall : SpD := fun ds M Q => match ds with
  | [x, y] => (∃ (a : Addr) (t b X Y : Int) (us : List Wl) (W : Wl), x = .str (rowW t b X Y W) ∧ y = .ref a ∧ M a = some (.lst (us.map (rwl t b X Y))) ∧ Scl t b X Y ∧ Un6 W ∧ (∀ U ∈ us, Un6 U ∧ Fair W U) ∧ us.length < 40 ∧ ∀ M', SD.Sub M M' → Q (rwl t b X Y W) M') ∨
      ∃ s : Rat × Rat, x = .str (askR s) ∧ N30 s.1 ∧ N30 s.2 ∧ ∀ M', SD.Sub M M' → Q .non M'
  | _ => False
theorem ln_read_wall : ∀ ds M Q, sp_read_wall ds M Q → ds.length = 2 := fun ds M Q h => by
  unfold sp_read_wall at h
  split at h
  · rfl
  · exact h.elim
set_option maxHeartbeats 4000000 in
theorem c_read_wall {P : Program} {w : World} {K : PySem.W.Frag} {mg : Str → Option Value} {base : Heap} (T : Tx K mg) : Cal P w K mg base 9 "read_wall" sp_read_wall := by
  refine calD (k := 8) (N := ["row", "walls", "spots", "wall"]) (ps := ["row", "walls"]) T.f_read_wall sc_read_wall (fun _ _ _ _ _ _ us hl => by obtain ⟨_, _, rfl⟩ := SD.ln_2 hl; rfl) ln_read_wall fun f cdv A outer s H E hr => ⟨_, (dss_cons (ds_set 2 sc_read_wall.nd (de_call ((c_read_spots T).mono (by decide)) hr (da_cons de_str (da_cons de_int (da_cons (dv 0) da_nil)))))
      (dss_cons (ds_if (dt_w (dw_or (dt_cmp od_is (dv 2) de_non) (dw_or1 (dt_not (dt_val (de_call ((c_is_ahead T).mono (by decide)) hr (da_cons (de_ixT (dv 2) de_int) (da_cons (de_ixT (dv 2) de_int) da_nil)))))))) (dss_one (ds_ret de_non)) dss_nil)
      (dss_cons (ds_set 3 sc_read_wall.nd (de_tup (da_cons (de_ixT (dv 2) de_int) (da_cons (de_ixT (dv 2) de_int) da_nil))))
      (dss_cons (ds_if (dt_w (dw_or (dt_cmp (od_eqT hr.units) (de_callB cd_lenT rfl T.b_len bt_len (da_cons (dv 1) da_nil)) (de_globI rfl T.g_MOST_WALLS)) (dw_or1 (dt_cmp od_isnot (de_call ((c_first_crossed T).mono (by decide)) hr (da_cons (dv 1) (da_cons (dv 3) da_nil))) de_non)))) (dss_one (ds_ret de_non)) dss_nil)
      (dss_one (ds_ret (dv 3))))))), fun ds M Q h => ?r⟩
  case r =>
    unfold sp_read_wall at h
    split at h
    case h_2 => exact h.elim
    have w32 : 32 ∉ (Str.ofString "wall").cps.toList := by rw [t_wall]; decide
    have a32 : 32 ∉ (Str.ofString "ask").cps.toList := by rw [t_ask]; decide
    rcases h with ⟨a, t, b, X, Y, us, W, rfl, rfl, ha, S, HW, hU, hl, k⟩ | ⟨s, rfl, s1, s2, k⟩
    · have bx : ∀ {z : Int}, (0 ≤ z ∧ z ≤ 60) → Ma.Bq 60 (Ma.ut t b X 1 z) := fun {z} h => (S.b60 (sixb h)).1
      have by' : ∀ {z : Int}, (0 ≤ z ∧ z ≤ 20) → Ma.Bq 60 (Ma.ut t b Y 1 z) := fun {z} h => (S.b60 (sixc h)).2
      refine ⟨_, rfl, Str.ofString "wall", Str.ofString "wall", 2, [(Ma.ut t b X 1 W.1, Ma.ut t b Y 1 W.2.1), (Ma.ut t b X 1 W.2.2.1, Ma.ut t b Y 1 W.2.2.2)], rfl, rfl, rfl, w32, (by rw [len_cps, t_wall]; decide), by decide, by decide, Nat.le_of_ble_eq_true rfl, (fun s hs => ?_), (fun h => ?_), fun _ _ M1 p sb hp h1 => ?_⟩
      · simp only [List.mem_cons, List.not_mem_nil, or_false] at hs
        rcases hs with rfl | rfl
        · exact ⟨.of (bx HW.a), .of (by' HW.b)⟩
        · exact ⟨.of (bx HW.c), .of (by' HW.d)⟩
      · rcases h with h | h
        · exact absurd rfl h
        · exact absurd rfl h
      have ah : Ma.ah (Ma.ut t b X 1 W.1) (Ma.ut t b Y 1 W.2.1) (Ma.ut t b X 1 W.2.2.1) (Ma.ut t b Y 1 W.2.2.2) := (dec_la S.t0 S.b0 HW.b HW.d).mpr HW.lt
      (try dsimp only [SD.gNameD])
      refine seq_cut (fun δ M' => M' = M1 ∧ δ = [some (.str (rowW t b X Y W)), some (.ref a), some (.ref p), none]) ?_ (fun hu => ?_)
      rotate_left
      · (try dsimp only [SD.tSeqD, SD.tAsgD, SD.gNameD, SD.tIfSD, SD.tRetD, SD.tNextD, SD.tDropD, SD.tBD, SD.tNotD])
        refine orT false false (fun K hK => ⟨_, rfl, _, rfl, _, rfl, hK⟩) (fun _ K hK => ?_) ?_
        · refine ⟨_, rfl, _, _, h1, rfl, _, rfl, _, _, h1, rfl, _, _, _, _, rfl, rfl, (bx HW.a).mono (by decide), (by' HW.b).mono (by decide), (bx HW.c).mono (by decide), (by' HW.d).mono (by decide), _, rfl, ?_⟩
          rw [decide_eq_true (show _ ∨ _ ∧ _ from ah)]
          exact hK
        · exact iteB rfl (hu _ _ ⟨rfl, rfl⟩)
      rintro δ M' ⟨rfl, rfl⟩
      refine ⟨_, rfl, _, _, h1, rfl, _, rfl, _, _, h1, rfl, Nat.le_of_ble_eq_true rfl, ?_⟩
      (try dsimp only [SD.tSeqD, SD.tAsgD, SD.gNameD, SD.tIfSD, SD.tRetD, SD.tNextD, SD.tDropD, SD.tBD, SD.tNotD])
      refine orT false false (fun K hK => ⟨_, rfl, _, sb _ _ ha, _, rfl, ?_⟩) (fun _ K hK => ?_) ?_
      · rw [decide_eq_false (by rw [List.length_map]; omega)]; exact hK
      · exact ⟨_, rfl, _, rfl, a, t, b, X, Y, us, W, rfl, rfl, sb _ _ ha, S, HW, hU, _, rfl, _, rfl, hK⟩
      · exact iteB rfl ⟨_, rfl, rtn (k _ sb)⟩
    · refine ⟨_, rfl, Str.ofString "wall", Str.ofString "ask", 2, [s], rfl, rfl, rfl, a32, (by rw [len_cps, t_ask]; decide), by decide, by decide, Nat.le_of_ble_eq_true rfl, (fun z hz => by rw [List.mem_singleton.mp hz]; exact ⟨s1, s2⟩), (fun _ M1 sb => ?_), fun e => absurd e ask_ne⟩
      (try dsimp only [SD.tSeqD, SD.tAsgD, SD.gNameD, SD.tIfSD, SD.tRetD, SD.tNextD, SD.tDropD, SD.tBD, SD.tNotD])
      refine orT true false (fun K hK => ⟨_, rfl, _, rfl, _, rfl, hK⟩) (fun h => nomatch h) ?_
      exact iteA rfl (rtn (k _ sb))
theorem sc_read_questions : FnScope ["text", "walls", "spots", "at", "row", "asked", "wall"] ["text"] (defScope s_read_questions) := ⟨rfl, rfl, rfl, by decide, rfl, by decide, by decide⟩
inductive Cn_read_questions (x : D) (M : MH) (Q : DK) : Prop
  | mk (t b X Y : Int) (ws : List Wl) (l : List (Rat × Rat)) (hh0 : x = .str (Str.join ⟨#[10]⟩ (ws.map (rowW t b X Y) ++ l.map askR))) (hh1 : Scl t b X Y) (hh2 : (∀ w ∈ ws, Un6 w)) (hh3 : PF ws) (hh4 : ws.length ≤ 40) (hh5 : l.length ≤ 40) (hh6 : (∀ s ∈ l, N30 s.1 ∧ N30 s.2)) (hh7 : ∀ M' p, SD.Sub M M' → M p = none → M' p = some (.lst (l.map spq)) → Q (.tup [.tup (ws.map (rwl t b X Y)), .ref p]) M') : Cn_read_questions x M Q
noncomputable def sp_read_questions : SpD := fun ds M Q => match ds with
  | [x] => Cn_read_questions x M Q
  | _ => False
theorem ln_read_questions : ∀ ds M Q, sp_read_questions ds M Q → ds.length = 1 := fun ds M Q h => by
  unfold sp_read_questions at h
  split at h
  · rfl
  · exact h.elim
set_option maxHeartbeats 4000000 in
theorem c_read_questions {P : Program} {w : World} {K : PySem.W.Frag} {mg : Str → Option Value} {base : Heap} (T : Tx K mg) : Cal P w K mg base 10 "read_questions" sp_read_questions := by
  refine calD (k := 9) (N := ["text", "walls", "spots", "at", "row", "asked", "wall"]) (ps := ["text"]) T.f_read_questions sc_read_questions (fun _ _ _ _ _ _ us hl => by obtain ⟨_, rfl⟩ := SD.ln_1 hl; rfl) ln_read_questions fun f cdv A outer s H E hr => ⟨_, (dss_cons (ds_par 1 2 rfl sc_read_questions.nd (da_cons (de_lst da_nil) (da_cons (de_lst da_nil) da_nil)))
      (dss_cons (ds_for PassesOwn.never rfl (di_enum rfl T.b_enumerate (da_cons (de_call ((c_rows_of T).mono (by decide)) hr (da_cons (dv 0) da_nil)) da_nil)) (dg_tup rfl (dgs_cons (dg_name 3 sc_read_questions.nd) (dgs_cons (dg_name 4 sc_read_questions.nd) dgs_nil))) (dss_cons (ds_set 5 sc_read_questions.nd (de_call ((c_read_spots T).mono (by decide)) hr (da_cons de_str (da_cons de_int (da_cons (dv 4) da_nil)))))
      (dss_cons (ds_set 6 sc_read_questions.nd (de_ife (dt_lstT (dv 2)) de_non (de_call ((c_read_wall T).mono (by decide)) hr (da_cons (dv 4) (da_cons (dv 1) da_nil)))))
      (dss_cons (ds_if (dt_w (dw_and (dt_cmp od_is (dv 5) de_non) (dw_and1 (dt_cmp od_is (dv 6) de_non)))) (dss_one ds_never) dss_nil)
      (dss_one (ds_if (dt_cmp od_is (dv 5) de_non) (dss_one (ds_expr (de_m_append (dv 1) (da_cons (dv 6) da_nil)))) (dss_one (ds_expr (de_m_append (dv 2) (da_cons (de_ixT (dv 5) de_int) da_nil))))))))))
      (dss_one (ds_ret (de_tup (da_cons (de_callTy cd_tuple rfl T.b_tuple bt_tuple (da_cons (dv 1) da_nil)) (da_cons (dv 2) da_nil))))))), fun ds M Q h => ?r⟩
  case r =>
    unfold sp_read_questions at h
    split at h
    case h_2 => exact h.elim
    obtain ⟨t, b, X, Y, ws, l, rfl, S, hU, hF, hl, hl2, hs, k⟩ := h
    have w32 : 32 ∉ (Str.ofString "wall").cps.toList := by rw [t_wall]; decide
    have a32 : 32 ∉ (Str.ofString "ask").cps.toList := by rw [t_ask]; decide
    have bq : ∀ w ∈ ws, ∀ q ∈ wQ t b X Y w, Ma.Bq 60 q := fun w hw q hq => by
      have HW := hU w hw
      simp only [wQ, List.mem_cons, List.not_mem_nil, or_false] at hq
      rcases hq with rfl | rfl | rfl | rfl
      · exact (S.b60 (sixb HW.a)).1
      · exact (S.b60 (sixc HW.b)).2
      · exact (S.b60 (sixb HW.c)).1
      · exact (S.b60 (sixc HW.d)).2
    refine ⟨Nat.le_of_ble_eq_true rfl, fun p0 hp0 => ⟨Nat.le_of_ble_eq_true rfl, fun p1 hp1 => ⟨_, _, rfl, ?_⟩⟩⟩
    have n01 : p0 ≠ p1 := ne_fresh updM_same hp1
    refine ⟨_, rfl, ws.map (rowW t b X Y) ++ l.map askR, rfl, qrows_len (fun w hw q hq => (bq w hw q hq).mono (by decide)) (fun s hm => ⟨(hs s hm).1.bq, (hs s hm).2.bq⟩) hl hl2, (fun r hr => ?_), fun p hp => ?_⟩
    · rcases List.mem_append.mp hr with hr | hr
      · obtain ⟨w, _, rfl⟩ := List.mem_map.mp hr
        exact rowW_ok t b X Y w
      · obtain ⟨s, _, rfl⟩ := List.mem_map.mp hr
        exact rowS_ok _ (by rw [t_ask]; decide) (by rw [t_ask]; decide)
    have n0p : p0 ≠ p := fun z => by subst z; rw [updM_ne n01, updM_same] at hp; cases hp
    have n1p : p1 ≠ p := ne_fresh updM_same hp
    refine ⟨p, _, rfl, updM_same, ?_⟩
    refine ⟨fun i δ M' => (∃ o3 o4 o5 o6, δ = [some (.str (Str.join ⟨#[10]⟩ (ws.map (rowW t b X Y) ++ l.map askR))), some (.ref p0), some (.ref p1), o3, o4, o5, o6]) ∧ M' p0 = some (.lst ((ws.take i).map (rwl t b X Y))) ∧ M' p1 = some (.lst ((l.take (i - ws.length)).map spq)) ∧ M' p = some (.lst ((ws.map (rowW t b X Y) ++ l.map askR).map D.str)) ∧ SD.Sub M M', ⟨⟨_, _, _, _, rfl⟩, by rw [updM_ne n0p, updM_ne n01, updM_same]; rfl, by rw [updM_ne n1p, updM_same, Nat.zero_sub]; rfl, updM_same, .new hp (.new hp1 (.new hp0 .refl))⟩, fun i δ M' _ z => z.2.2.2.1, ?_, ?_⟩
    · rintro i d δ M' hi hd ⟨⟨o3, o4, o5, o6, rfl⟩, h0, h1, h2, sb⟩
      have hi : i < ((ws.map (rowW t b X Y) ++ l.map askR).map D.str).length := hi
      have hd : (((ws.map (rowW t b X Y) ++ l.map askR).map D.str)[i]?).map (fun d => D.tup [.int (i : Int), d]) = some d := hd
      rw [List.getElem?_map] at hd
      rw [List.length_map, List.length_append, List.length_map, List.length_map] at hi
      by_cases c : i < ws.length
      · have ew : ws[i]? = some ws[i] := List.getElem?_eq_getElem c
        generalize ws[i] = w at ew
        have er : (ws.map (rowW t b X Y) ++ l.map askR)[i]? = some (rowW t b X Y w) := by rw [List.getElem?_append_left (by rw [List.length_map]; exact c), List.getElem?_map, ew]; rfl
        rw [er] at hd
        cases hd
        have HW := hU w (List.mem_of_getElem? ew)
        have lt : (ws.take i).length ≤ i := by rw [List.length_take]; omega
        have e0 : i - ws.length = 0 := by omega
        rw [e0] at h1
        refine ⟨_, rfl, rfl, _, _, rfl, _, _, rfl, rfl, ?_⟩
        refine ⟨_, rfl, Str.ofString "ask", Str.ofString "wall", 1, [(Ma.ut t b X 1 w.1, Ma.ut t b Y 1 w.2.1), (Ma.ut t b X 1 w.2.2.1, Ma.ut t b Y 1 w.2.2.2)], rfl, rfl, rfl, w32, (by rw [len_cps, t_wall]; decide), by decide, by decide, Nat.le_of_ble_eq_true rfl, (fun s hs => ?_), (fun _ M2 sb2 => ?_), fun e => absurd e.symm ask_ne⟩
        · simp only [List.mem_cons, List.not_mem_nil, or_false] at hs
          have z := bq w (List.mem_of_getElem? ew)
          rcases hs with rfl | rfl
          · exact ⟨.of (z _ (by simp [wQ])), .of (z _ (by simp [wQ]))⟩
          · exact ⟨.of (z _ (by simp [wQ])), .of (z _ (by simp [wQ]))⟩
        refine ⟨_, rfl, p1, _, rfl, sb2 _ _ h1, iteB rfl ?_⟩
        refine ⟨_, rfl, _, rfl, .inl ⟨p0, t, b, X, Y, ws.take i, w, rfl, rfl, sb2 _ _ h0, S, HW, (fun U hUm => ?_), by omega, fun M3 sb3 => ?_⟩⟩
        · obtain ⟨j, hj, ej⟩ := List.getElem_of_mem hUm
          have hj' : j < i := by rw [List.length_take] at hj; omega
          have e2 : ws[j]? = some U := by rw [List.getElem?_eq_getElem (by omega), ← ej, List.getElem_take]
          exact ⟨hU U (List.mem_of_mem_take hUm), hF i j w U (by omega) ew e2⟩
        have sb3 := sb2.trans sb3
        refine ⟨_, rfl, _, rfl, _, rfl, iteA rfl ⟨_, rfl, _, rfl, _, rfl, iteB rfl ?_⟩⟩
        refine ⟨_, rfl, _, rfl, _, rfl, iteA rfl ?_⟩
        refine ⟨_, rfl, p0, _, rfl, sb3 _ _ h0, _, rfl, _, _, rfl, sb3 _ _ h0, (by rw [List.length_map]; omega), ?_⟩
        refine ⟨⟨_, _, _, _, rfl⟩, ?_, ?_, by rw [updM_ne n0p.symm]; exact sb3 _ _ h2, fun u o e => ?_⟩
        · rw [updM_same, List.take_succ, ew, List.map_append]; rfl
        · rw [updM_ne n01.symm, show i + 1 - ws.length = 0 by omega]; exact sb3 _ _ h1
        · rw [updM_ne (ne_fresh e hp0)]; exact sb3 _ _ (sb _ _ e)
      · have ci : i - ws.length < l.length := by omega
        have es : l[i - ws.length]? = some l[i - ws.length] := List.getElem?_eq_getElem ci
        generalize l[i - ws.length] = s at es
        have er : (ws.map (rowW t b X Y) ++ l.map askR)[i]? = some (askR s) := by rw [List.getElem?_append_right (by rw [List.length_map]; omega), List.getElem?_map, List.length_map, es]; rfl
        rw [er] at hd
        cases hd
        obtain ⟨s1, s2⟩ := hs s (List.mem_of_getElem? es)
        have et : ws.take i = ws := List.take_of_length_le (by omega)
        have lt : (l.take (i - ws.length)).length ≤ 40 := by rw [List.length_take]; omega
        refine ⟨_, rfl, rfl, _, _, rfl, _, _, rfl, rfl, ?_⟩
        refine ⟨_, rfl, Str.ofString "ask", Str.ofString "ask", 1, [s], rfl, rfl, rfl, a32, (by rw [len_cps, t_ask]; decide), by decide, by decide, Nat.le_of_ble_eq_true rfl, (fun z hz => by rw [List.mem_singleton.mp hz]; exact ⟨s1, s2⟩), (fun h => ?_), fun _ _ M2 pa sb2 hpa ha => ?_⟩
        · rcases h with h | h
          · exact absurd rfl h
          · exact absurd rfl h
        (try dsimp only [SD.gNameD])
        refine seq_cut (fun δ M3 => (∃ o3 o4, δ = [some (.str (Str.join ⟨#[10]⟩ (ws.map (rowW t b X Y) ++ l.map askR))), some (.ref p0), some (.ref p1), o3, o4, some (.ref pa), some .non]) ∧ SD.Sub M2 M3) ?_ (fun hu => ?_)
        rotate_left
        · refine ⟨_, rfl, p1, _, rfl, sb2 _ _ h1, ?_⟩
          refine ite2 (fun _ => hu _ _ ⟨⟨_, _, rfl⟩, .refl⟩) (fun _ => ?_)
          exact ⟨_, rfl, _, rfl, .inr ⟨s, rfl, s1, s2, fun M3 sb3 => hu _ _ ⟨⟨_, _, rfl⟩, sb3⟩⟩⟩
        rintro δ M3 ⟨⟨o3, o4, rfl⟩, sb3⟩
        have ha := sb3 _ _ ha
        have sb3 := sb2.trans sb3
        refine ⟨_, rfl, _, rfl, _, rfl, iteB rfl (iteB rfl ?_)⟩
        refine ⟨_, rfl, _, rfl, _, rfl, iteB rfl ?_⟩
        refine ⟨_, rfl, p1, _, rfl, sb3 _ _ h1, _, rfl, _, _, ha, rfl, _, _, rfl, sb3 _ _ h1, (by rw [List.length_map]; omega), ?_⟩
        refine ⟨⟨_, _, _, _, rfl⟩, ?_, ?_, by rw [updM_ne n1p.symm]; exact sb3 _ _ h2, fun u o e => ?_⟩
        · rw [updM_ne n01, List.take_of_length_le (by omega)]; rw [et] at h0; exact sb3 _ _ h0
        · rw [updM_same, show i + 1 - ws.length = (i - ws.length) + 1 by omega, List.take_succ, es, List.map_append]; rfl
        · rw [updM_ne (ne_fresh (show (updM M p0 (.lst [])) u = some o by rw [updM_ne (ne_fresh e hp0)]; exact e) hp1)]; exact sb3 _ _ (sb _ _ e)
    · rintro δ M' ⟨⟨o3, o4, o5, o6, rfl⟩, h0, h1, h2, sb⟩
      have hn : ((ws.map (rowW t b X Y) ++ l.map askR).map D.str).length = ws.length + l.length := by simp
      have h0 : M' p0 = some (.lst (ws.map (rwl t b X Y))) := by have h := h0; dsimp only at h; rw [hn, List.take_of_length_le (by omega)] at h; exact h
      have h1 : M' p1 = some (.lst (l.map spq)) := by have h := h1; dsimp only at h; rw [hn, List.take_of_length_le (by omega)] at h; exact h
      exact ⟨_, rfl, _, h0, _, rfl, Nat.le_of_ble_eq_true rfl, rtn (k _ p1 sb (none_sub hp1 (.new hp0 .refl)) h1)⟩
theorem sc_show_answers : FnScope ["answers"] ["answers"] (defScope s_show_answers) := ⟨rfl, rfl, rfl, by decide, rfl, by decide, by decide⟩
inductive Cn_show_answers (y : D) (M : MH) (Q : DK) : Prop
  | mk (a : Addr) (l : List (Str × Int)) (hh0 : y = .ref a) (hh1 : M a = some (.lst (l.map anD))) (hh2 : l.length ≤ 100) (hh3 : (∀ s ∈ l, s.1.length ≤ 900 ∧ Bd 900 s.2)) (hh4 : Q (.str (Str.join ⟨#[10]⟩ (l.map anT))) M) : Cn_show_answers y M Q
noncomputable def sp_show_answers : SpD := fun ds M Q => match ds with
  | [y] => Cn_show_answers y M Q
  | _ => False
theorem ln_show_answers : ∀ ds M Q, sp_show_answers ds M Q → ds.length = 1 := fun ds M Q h => by
  unfold sp_show_answers at h
  split at h
  · rfl
  · exact h.elim
set_option maxHeartbeats 4000000 in
theorem c_show_answers {P : Program} {w : World} {K : PySem.W.Frag} {mg : Str → Option Value} {base : Heap} (T : Tx K mg) : Cal P w K mg base 1 "show_answers" sp_show_answers := by
  refine calD (k := 0) (N := ["answers"]) (ps := ["answers"]) T.f_show_answers sc_show_answers (fun _ _ _ _ _ _ us hl => by obtain ⟨_, rfl⟩ := SD.ln_1 hl; rfl) ln_show_answers fun f cdv A outer s H E hr => ⟨_, (dss_one (ds_ret (de_m_join de_str (da_cons (de_comp2 (CScope.of (xs := ["word", "number"]) (js := []) rfl) rfl (di_seq (dv 0)) (fun _ _ _ _ => dts_nil) (fun _ _ _ _ => (de_j3 (de_fmtS (dv 0)) de_str (de_fmt (dv 1))))) da_nil)))), fun ds M Q h => ?r⟩
  case r =>
    unfold sp_show_answers at h
    split at h
    case h_2 => exact h.elim
    obtain ⟨a, l, rfl, ha, hl, hs, k⟩ := h
    have sz : 100000 ≤ sizeLine := Nat.le_of_ble_eq_true rfl
    refine ⟨_, rfl, _, rfl, _, ha, comp_map (fun i => (((l.map anT).map D.str)[i]?).getD .non) (by show (l.map anD).length ≤ 1000000; rw [List.length_map]; omega) (fun p ys hp => ?_) ?_ (fun p1 hp1 => ?_)⟩
    · show (updM _ p _) a = _
      rw [updM_ne (ne_fresh ha hp)]; exact ha
    · intro i d M2 hi hd sb
      have hd : (l.map anD)[i]? = some d := hd
      rw [List.getElem?_map] at hd
      cases es : l[i]? with
      | none => rw [es] at hd; cases hd
      | some s =>
        rw [es] at hd
        cases hd
        obtain ⟨b1, b2⟩ := hs s (List.mem_of_getElem? es)
        have h2 := iT_len (k := 899) (bd_ten b2)
        refine ⟨_, ⟨_, rfl, rfl, rfl⟩, fun K hK => ?_⟩
        have hK' := hK M2 .refl
        rw [List.map_map, getD_map es] at hK'
        refine ⟨_, rfl, _, rfl, by omega, _, rfl, by omega, _, rfl, (by rw [t_spc]; exact Nat.le_of_ble_eq_true rfl), _, rfl, _, rfl, b2.mono (by decide), _, rfl, by omega, ?_⟩
        rw [t_spc]
        exact hK'
    · have e := SD.range_getD ((l.map anT).map D.str)
      rw [List.length_map, List.length_map] at e
      dsimp only
      rw [List.length_map, e]
      refine ⟨p1, l.map anT, rfl, updM_same, ?_, M, .new hp1 .refl, ?_⟩
      · unfold JoinOk
        rw [StrLaws.joinFits (B := 2000) (fun y hy => ?_) (by rw [t_nl, List.length_map]; show _ + _ * 1 ≤ _; omega)]
        · rfl
        · obtain ⟨s, hm, rfl⟩ := List.mem_map.mp hy
          exact anT_len (hs s hm).1 (hs s hm).2
      · rw [t_nl]; exact k
theorem sc_law : FnScope ["_law_script", "_law_k", "_law_row", "_law_scale_here", "_law_plot", "_law_spots", "_law_asks", "_law_handed", "_law_text", "_law_found", "_law_answers", "_law_again", "_law_kept", "_law_due"] ["_law_script"] (defScope s_law) := ⟨rfl, rfl, rfl, by decide, rfl, by decide, by decide⟩
inductive Cn_law (x : D) (M : MH) (Q : DK) : Prop
  | mk (ns : _) (hh0 : x = .rol (List.map D.int ns)) (hh1 : ns.length ≤ 63) (hh2 : ∀ M', Q (.bl true) M') : Cn_law x M Q
noncomputable def sp_law : SpD := fun ds M Q => match ds with
  | [x] => Cn_law x M Q
  | _ => False
theorem ln_law : ∀ ds M Q, sp_law ds M Q → ds.length = 1 := fun ds M Q h => by
  unfold sp_law at h
  split at h
  · rfl
  · exact h.elim
set_option maxHeartbeats 4000000 in
theorem c_law {P : Program} {w : World} {K : PySem.W.Frag} {mg : Str → Option Value} {fa : Addr} (T : Tx K mg) (hfa : mg "law" = some (.ref fa)) : ∃ fd, (∀ (s : Shared) (u : Value), BindsTo s fd ⟨[u], []⟩ [("_law_script", u)]) ∧ ∀ base : Heap, FnOk P w K mg base CX0 11 fa fd ["_law_script"] (liftSp K sp_law) := by
  refine lawD (k := 10) (N := ["_law_script", "_law_k", "_law_row", "_law_scale_here", "_law_plot", "_law_spots", "_law_asks", "_law_handed", "_law_text", "_law_found", "_law_answers", "_law_again", "_law_kept", "_law_due"]) T.f_law hfa sc_law (fun _ _ _ _ _ _ us hl => by obtain ⟨_, rfl⟩ := SD.ln_1 hl; rfl) ln_law fun base f cdv A outer s H E hr => ⟨_, (dss_cons (ds_forR PassesOwn.never rfl rfl T.b_range (da_cons (de_callB (cd_maxX rfl hr.units) rfl T.b_max bt_max (da_cons de_int (da_cons (de_callB (cd_minX rfl hr.units) rfl T.b_min bt_min (da_cons de_int (da_cons (de_callB cd_lenT rfl T.b_len bt_len (da_cons (dv 0) da_nil)) da_nil))) da_nil))) da_nil) (dg_name 1 sc_law.nd) (dss_cons (ds_set 2 sc_law.nd (de_lst (da_cons (de_call ((c_law_cell_at T).mono (by decide)) hr (da_cons (dv 0) (da_cons (dv 1) da_nil))) (da_cons de_int da_nil))))
      (dss_cons (ds_set 3 sc_law.nd (de_call ((c_law_scale T).mono (by decide)) hr (da_cons (dv 2) da_nil)))
      (dss_cons (ds_set 4 sc_law.nd (de_call ((c_law_made T).mono (by decide)) hr (da_cons (dv 3) (da_cons (de_call ((c_law_shuts_here T).mono (by decide)) hr (da_cons (dv 2) (da_cons de_int (da_cons de_int da_nil)))) da_nil))))
      (dss_cons (ds_comp1 5 sc_law.nd (CScope.of (xs := ["_law_again"]) (js := [2]) rfl) rfl (di_range1 rfl T.b_range (da_cons (de_call ((c_law_take T).mono (by decide)) hr (da_cons (dv 2) (da_cons de_int da_nil))) da_nil)) (fun _ _ _ _ => dts_nil) (fun _ _ _ _ => (de_tup (da_cons (de_call ((c_law_number T).mono (by decide)) hr (da_cons (dv 1) da_nil)) (da_cons (de_call ((c_law_number T).mono (by decide)) hr (da_cons (dv 1) da_nil)) da_nil)))))
      (dss_cons (ds_comp2 6 sc_law.nd (CScope.of (xs := ["_law_x", "_law_y"]) (js := []) rfl) rfl (di_seq (dv 5)) (fun _ _ _ _ => dts_nil) (fun _ _ _ _ => (de_m_join de_str (da_cons (de_lst (da_cons de_str (da_cons (de_call ((c_law_shown T).mono (by decide)) hr (da_cons (dv 0) da_nil)) (da_cons (de_call ((c_law_shown T).mono (by decide)) hr (da_cons (dv 1) da_nil)) da_nil)))) da_nil))))
      (dss_cons (ds_set 7 sc_law.nd (de_callTy cd_list rfl T.b_list bt_list (da_cons (dv 5) da_nil)))
      (dss_cons (ds_set 8 sc_law.nd (de_call ((c_show_questions T).mono (by decide)) hr (da_cons (dv 4) (da_cons (dv 7) da_nil))))
      (dss_cons (ds_if (dt_w (dw_or (dt_cmp (od_neT hr.units) (dv 8) (de_m_join de_str (da_cons (de_op od_addT (de_call ((c_law_rows T).mono (by decide)) hr (da_cons (dv 4) da_nil)) (dv 6)) da_nil))) (dw_or1 (dt_cmp (od_neT hr.units) (dv 7) (dv 5))))) (dss_one (ds_ret de_bl)) dss_nil)
      (dss_cons (ds_set 9 sc_law.nd (de_call ((c_read_questions T).mono (by decide)) hr (da_cons (dv 8) da_nil)))
      (dss_cons (ds_if (dt_w (dw_or (dt_not (dt_val (de_callB (cd_isinstL (K := K) rfl) rfl T.b_isinstance bt_isinstance (da_cons (dv 9) (da_cons (de_ty rfl T.b_tuple bt_tuple) da_nil))))) (dw_or (dt_cmp (od_neT hr.units) (dv 9) (de_tup (da_cons (dv 4) (da_cons (dv 5) da_nil)))) (dw_or1 (dt_not (dt_val (de_callB (cd_isinstL (K := K) rfl) rfl T.b_isinstance bt_isinstance (da_cons (de_ixT (dv 9) de_int) (da_cons (de_ty rfl T.b_list bt_list) da_nil))))))))) (dss_one (ds_ret de_bl)) dss_nil)
      (dss_cons (ds_expr (de_m_append (de_ixT (dv 9) de_int) (da_cons (de_tup (da_cons (de_tup (da_cons de_int (da_cons de_int da_nil))) (da_cons (de_tup (da_cons de_int (da_cons de_int da_nil))) da_nil))) da_nil)))
      (dss_cons (ds_if (dt_cmp (od_neT hr.units) (de_call ((c_read_questions T).mono (by decide)) hr (da_cons (dv 8) da_nil)) (de_tup (da_cons (dv 4) (da_cons (dv 5) da_nil)))) (dss_one (ds_ret de_bl)) dss_nil)
      (dss_cons (ds_set 10 sc_law.nd (de_lst da_nil))
      (dss_cons (ds_forR PassesOwn.never rfl rfl T.b_range (da_cons (de_call ((c_law_take T).mono (by decide)) hr (da_cons (dv 2) (da_cons de_int da_nil))) da_nil) (dg_name 11 sc_law.nd) (dss_one (ds_expr (de_m_append (dv 10) (da_cons (de_tup (da_cons (de_ixT (de_lst (da_cons de_str (da_cons de_str (da_cons de_str da_nil)))) (de_call ((c_law_take T).mono (by decide)) hr (da_cons (dv 2) (da_cons de_int da_nil)))) (da_cons (de_call ((c_law_take T).mono (by decide)) hr (da_cons (dv 2) (da_cons de_int da_nil))) da_nil))) da_nil)))))
      (dss_cons (ds_set 12 sc_law.nd (de_callTy cd_list rfl T.b_list bt_list (da_cons (dv 10) da_nil)))
      (dss_cons (ds_set 13 sc_law.nd (de_m_join de_str (da_cons (de_comp2 (CScope.of (xs := ["_law_word", "_law_number_here"]) (js := []) rfl) rfl (di_seq (dv 12)) (fun _ _ _ _ => dts_nil) (fun _ _ _ _ => (de_op od_addT (de_op od_addT (dv 0) de_str) (de_callTy cd_strI rfl T.b_str bt_str (da_cons (dv 1) da_nil))))) da_nil)))
      (dss_one (ds_if (dt_w (dw_or (dt_cmp (od_neT hr.units) (de_call ((c_show_answers T).mono (by decide)) hr (da_cons (dv 10) da_nil)) (dv 13)) (dw_or1 (dt_cmp (od_neT hr.units) (dv 10) (dv 12))))) (dss_one (ds_ret de_bl)) dss_nil)))))))))))))))))))
      (dss_one (ds_ret de_bl))), fun ds M Q h => ?r⟩
  case r =>
    unfold sp_law at h
    split at h
    case h_2 => exact h.elim
    obtain ⟨ns, rfl, hl, k⟩ := h
    have sz : 1000000 ≤ sizeLine := Nat.le_of_ble_eq_true rfl
    refine ⟨_, rfl, (max 1 (min 6 (((List.map D.int ns).length : Nat) : Int))).toNat, ?_, by omega, fun i δ M => ∃ o1 o2 o3 o4 o5 o6 o7 o8 o9 p1 p2 p3 p4, δ = [some (.rol (List.map D.int ns)), o1, o2, o3, o4, o5, o6, o7, o8, o9, p1, p2, p3, p4], ⟨_, _, _, _, _, _, _, _, _, _, _, _, _, rfl⟩, ?_, fun _ _ _ => rtn (k _)⟩
    · rw [Int.toNat_of_nonneg (by omega)]
    rintro i δ M hi ⟨o1, o2, o3, o4, o5, o6, o7, o8, o9, q1, q2, q3, q4, rfl⟩
    refine ⟨_, rfl, _, rfl, ns, i, rfl, rfl, by omega, fun z => ⟨Nat.le_of_ble_eq_true rfl, fun row hrow => ?_⟩⟩
    refine ⟨_, rfl, row, z, 0, rfl, updM_same, by decide, by decide, fun x1 c1 t b sx sy S h1 h2 => ?_⟩
    refine ⟨_, rfl, _, rfl, row, x1, c1, 6, rfl, rfl, by decide, rfl, updM_same, h1, by omega, fun M2 x2 c2 l ws nrl hr2 hl2 g0 g1 g2 g3 g4 => ?_⟩
    have hW : ∀ w ∈ ws, Uok (10 ^ 6) w := fun w hw => by
      have h := g3 w hw
      have U : ∀ z : Int, (0 ≤ z ∧ z ≤ 20) → (-(10 ^ 6) ≤ z ∧ z ≤ 10 ^ 6) := fun z h => by omega
      exact ⟨U _ h.a, U _ h.b, U _ h.c, U _ h.d⟩
    have bq : ∀ w ∈ ws, ∀ q ∈ wQ t b sx sy w, Ma.Bq 900 q := fun w hw q hq => by
      have HW := (g3 w hw).six
      simp only [wQ, List.mem_cons, List.not_mem_nil, or_false] at hq
      rcases hq with rfl | rfl | rfl | rfl
      · exact (S.b60 (sixb HW.a)).1.mono (by decide)
      · exact (S.b60 (sixc HW.b)).2.mono (by decide)
      · exact (S.b60 (sixb HW.c)).1.mono (by decide)
      · exact (S.b60 (sixc HW.d)).2.mono (by decide)
    refine ⟨t, b, sx, sy, l, ws, rfl, rfl, hl2, S, by omega, hW, ?_⟩
    refine ⟨_, rfl, row, 6, x2, c2, rfl, rfl, hr2, g0, by omega, by decide, bd64 (by decide), fun x3 v3 h30 h31 => ?_⟩
    obtain ⟨n, rfl⟩ := Int.eq_ofNat_of_zero_le h30
    have hn : n ≤ 5 := by omega
    refine ⟨n, rfl, by omega, by show n ≤ 1000000; omega, fun p5 hp5 => ?_⟩
    have nr5 : row ≠ p5 := ne_fresh updM_same hp5
    refine ⟨fun i ys M' => ∃ (l5 : List (Rat × Rat)) (x c : Int), ys = l5.map spq ∧ l5.length = i ∧ (∀ s ∈ l5, N30 s.1 ∧ N30 s.2) ∧ M' row = some (.lst [.int x, .int c]) ∧ 0 ≤ c ∧ c ≤ 200 + 6 * (i : Int) ∧ M' p5 = some (.lst ys), ⟨[], x3, c2 + 1, rfl, rfl, fun _ h => (nomatch h), by rw [updM_ne nr5, updM_same], by omega, by omega, updM_same⟩, fun _ _ _ _ _ => trivial, ?_, ?_⟩
    · rintro i ys d M' hi hd ⟨l5, x, c, rfl, hl5, hs, hr, c0, c1, h5⟩
      have hi : i < n := hi
      refine ⟨_, rfl, ?_⟩
      dsimp only [SD.tTrueD]
      refine iteA rfl ?_
      refine ⟨_, rfl, row, x, c, rfl, hr, c0, by omega, fun x' q hq => ?_⟩
      refine ⟨_, rfl, row, x', c + 3, rfl, updM_same, by omega, by omega, fun x'' r hr' => ?_⟩
      refine ⟨Nat.le_of_ble_eq_true rfl, _, .refl, by rw [updM_ne nr5.symm, updM_ne nr5.symm]; exact h5, l5 ++ [(q, r)], x'', c + 3 + 3, by rw [List.map_append]; rfl, by rw [List.length_append, hl5]; rfl, fun s hm => ?_, by rw [updM_ne nr5, updM_same], by omega, by omega, updM_same⟩
      rcases List.mem_append.mp hm with hm | hm
      · exact hs s hm
      · rw [List.mem_singleton.mp hm]; exact ⟨hq, hr'⟩
    rintro ys M5 ⟨l5, x5, c5, rfl, hl5, hs, hr5, c50, c51, h5⟩
    have hl5 : l5.length = n := hl5
    have c51 : c5 ≤ 230 := by have : c5 ≤ 200 + 6 * (n : Int) := c51; omega
    have bs : ∀ s ∈ l5, Ma.Bq 900 s.1 ∧ Ma.Bq 900 s.2 := fun s hm => ⟨(hs s hm).1.bq, (hs s hm).2.bq⟩
    refine ⟨_, rfl, _, h5, comp_map (fun i => (((l5.map askR).map D.str)[i]?).getD .non) (by show (l5.map spq).length ≤ 1000000; rw [List.length_map]; omega) (fun p ys hp => ?_) ?_ (fun p6 hp6 => ?_)⟩
    · show (updM _ p _) p5 = _
      rw [updM_ne (ne_fresh h5 hp)]; exact h5
    · intro i d M' hi hd sb
      have hd : (l5.map spq)[i]? = some d := hd
      rw [List.getElem?_map] at hd
      cases es : l5[i]? with
      | none => rw [es] at hd; cases hd
      | some s =>
        rw [es] at hd
        cases hd
        obtain ⟨b1, b2⟩ := bs s (List.mem_of_getElem? es)
        refine ⟨_, ⟨_, rfl, rfl, rfl⟩, fun K hK => ?_⟩
        have hK' : ∀ M'', SD.Sub M' M'' → K (.str (askR s)) M'' := fun M'' s' => by
          have z := hK M'' s'
          rw [List.map_map, getD_map es] at z
          exact z
        refine ⟨_, rfl, _, rfl, _, _, rfl, b1.1, b1.2, _, rfl, _, _, rfl, b2.1, b2.2, Nat.le_of_ble_eq_true rfl, fun q hq => ⟨q, [Str.ofString "ask", sQ s.1, sQ s.2], rfl, updM_same, ?_, ?_⟩⟩
        · rw [t_spc]; exact rowS_fit (w := Str.ofString "ask") (l := [s]) (by rw [len_cps, t_ask]; decide) (by simp) fun z hz => by rw [List.mem_singleton.mp hz]; exact ⟨b1, b2⟩
        · rw [t_spc]; exact hK' _ (.new hq .refl)
    have e6 := SD.range_getD ((l5.map askR).map D.str)
    rw [List.length_map, List.length_map] at e6
    dsimp only
    rw [List.length_map, e6]
    have hr6 : (updM M5 p6 (.lst ((l5.map askR).map D.str))) row = some (.lst [.int x5, .int c5]) := by rw [updM_ne (ne_fresh hr5 hp6)]; exact hr5
    have h56 : (updM M5 p6 (.lst ((l5.map askR).map D.str))) p5 = some (.lst (l5.map spq)) := by rw [updM_ne (ne_fresh h5 hp6)]; exact h5
    have h66 : (updM M5 p6 (.lst ((l5.map askR).map D.str))) p6 = some (.lst ((l5.map askR).map D.str)) := updM_same
    generalize updM M5 p6 (.lst ((l5.map askR).map D.str)) = M6 at hr6 h56 h66 ⊢
    refine ⟨_, rfl, _, h56, fun p7 hp7 => ?_⟩
    have hr7 : (updM M6 p7 (.lst (l5.map spq))) row = some (.lst [.int x5, .int c5]) := by rw [updM_ne (ne_fresh hr6 hp7)]; exact hr6
    have h57 : (updM M6 p7 (.lst (l5.map spq))) p5 = some (.lst (l5.map spq)) := by rw [updM_ne (ne_fresh h56 hp7)]; exact h56
    have h67 : (updM M6 p7 (.lst (l5.map spq))) p6 = some (.lst ((l5.map askR).map D.str)) := by rw [updM_ne (ne_fresh h66 hp7)]; exact h66
    have h77 : (updM M6 p7 (.lst (l5.map spq))) p7 = some (.lst (l5.map spq)) := updM_same
    generalize updM M6 p7 (.lst (l5.map spq)) = M7 at hr7 h57 h67 h77 ⊢
    refine ⟨_, rfl, _, rfl, t, b, sx, sy, ws, p7, l5, rfl, rfl, h77, by omega, by omega, bq, bs, ?_⟩
    have jq : JoinOk ⟨#[10]⟩ (ws.map (rowW t b sx sy) ++ l5.map askR) = true := by
      unfold JoinOk
      rw [StrLaws.joinFits (B := 10005) (fun y hy => ?_) (by rw [List.length_append, List.length_map, List.length_map]; show _ + _ * 1 ≤ _; omega)]
      · rfl
      · rcases List.mem_append.mp hy with hy | hy
        · obtain ⟨w, hw, rfl⟩ := List.mem_map.mp hy
          exact rowW_len (bq w hw)
        · obtain ⟨s, hm, rfl⟩ := List.mem_map.mp hy
          exact rowS_len (by rw [len_cps, t_ask]; decide) (by simp) fun z hz => by rw [List.mem_singleton.mp hz]; exact bs s hm
    refine ⟨_, rfl, _, rfl, _, rfl, t, b, sx, sy, ws, rfl, by omega, bq, fun p8 hp8 => ⟨_, rfl, _, _, updM_same, (by rw [updM_ne (ne_fresh h67 hp8)]; exact h67), (by simp; omega), fun p9 hp9 => ⟨p9, ws.map (rowW t b sx sy) ++ l5.map askR, rfl, (by rw [updM_same, List.map_append]), (by rw [t_nl]; exact jq), _, rfl, iteB (by rw [t_nl, decide_eq_true rfl]; rfl) ?_⟩⟩⟩
    have kp : ∀ {u : Addr} {o : MO}, M7 u = some o → (updM (updM M7 p8 (.lst ((ws.map (rowW t b sx sy)).map D.str))) p9 (.lst ((ws.map (rowW t b sx sy)).map D.str ++ (l5.map askR).map D.str))) u = some o := fun {u o} e => by
      have e8 : (updM M7 p8 (.lst ((ws.map (rowW t b sx sy)).map D.str))) u = some o := by rw [updM_ne (ne_fresh e hp8)]; exact e
      rw [updM_ne (ne_fresh e8 hp9)]; exact e8
    refine ⟨_, rfl, _, rfl, ne_sps (kp h77) (kp h57) ⟨_, rfl, iteB rfl ?_⟩⟩
    have hr9 := kp hr7
    have h59 := kp h57
    clear kp hp9 hp8
    generalize updM (updM M7 p8 (.lst ((ws.map (rowW t b sx sy)).map D.str))) p9 (.lst ((ws.map (rowW t b sx sy)).map D.str ++ (l5.map askR).map D.str)) = M9 at hr9 h59 ⊢
    have six : ∀ w ∈ ws, Un6 w := fun w hw => (g3 w hw).six
    refine ⟨_, rfl, t, b, sx, sy, ws, l5, rfl, S, six, g4, by omega, by omega, hs, fun M10 pf sb10 hpf hf => ?_⟩
    have n5f : p5 ≠ pf := ne_fresh h59 hpf
    have nrf : row ≠ pf := ne_fresh hr9 hpf
    refine ⟨_, rfl, .inl ⟨"tuple", true, rfl, rfl, _, rfl, iteB rfl ?_⟩⟩
    refine ⟨_, rfl, _, rfl, _, rfl, Nat.le_of_ble_eq_true rfl, ne_ws hf (sb10 _ _ h59) ⟨_, rfl, iteB rfl ?_⟩⟩
    refine ⟨_, rfl, _, rfl, .inr ⟨pf, _, "list", true, rfl, hf, rfl, _, rfl, iteB rfl ?_⟩⟩
    refine ⟨_, rfl, _, rfl, pf, _, rfl, hf, ?_⟩
    refine ⟨Nat.le_of_ble_eq_true rfl, Nat.le_of_ble_eq_true rfl, Nat.le_of_ble_eq_true rfl, _, _, rfl, hf, (by rw [List.length_map]; omega), ?_⟩
    have hr11 : ∀ {G}, (updM M10 pf G) row = some (.lst [.int x5, .int c5]) := fun {G} => by rw [updM_ne nrf]; exact sb10 _ _ hr9
    have h511 : ∀ {G}, (updM M10 pf G) p5 = some (.lst (l5.map spq)) := fun {G} => by rw [updM_ne n5f]; exact sb10 _ _ h59
    refine ⟨_, rfl, t, b, sx, sy, ws, l5, rfl, S, six, g4, by omega, by omega, hs, fun M12 pf2 sb12 hpf2 hf2 => ?_⟩
    refine ⟨_, rfl, _, rfl, Nat.le_of_ble_eq_true rfl, ne_ws hf2 (sb12 _ _ h511) ⟨_, rfl, iteB rfl ?_⟩⟩
    have hr12 := sb12 _ _ hr11
    refine ⟨Nat.le_of_ble_eq_true rfl, fun pa hpa => ?_⟩
    have nra : row ≠ pa := ne_fresh hr12 hpa
    refine ⟨_, rfl, row, 7, x5, c5, rfl, rfl, (by rw [updM_ne nra]; exact hr12), c50, by omega, by decide, bd64 (by decide), fun x13 v13 h130 h131 => ?_⟩
    obtain ⟨n2, rfl⟩ := Int.eq_ofNat_of_zero_le h130
    have hn2 : n2 ≤ 6 := by omega
    refine ⟨n2, rfl, by omega, fun j δ M' => ∃ (e3 e4 e5 e6 e7 e8 e9 e11 e12 e13 : Option D) (la : List (Str × Int)) (x c : Int), δ = [some (.rol (List.map D.int ns)), some (.int (i : Int)), some (.ref row), e3, e4, e5, e6, e7, e8, e9, some (.ref pa), e11, e12, e13] ∧ M' row = some (.lst [.int x, .int c]) ∧ 0 ≤ c ∧ c ≤ 300 + 2 * (j : Int) ∧ M' pa = some (.lst (la.map anD)) ∧ la.length = j ∧ ∀ s ∈ la, anOk s, ⟨_, _, _, _, _, _, _, _, _, _, [], x13, c5 + 1, rfl, updM_same, by omega, by omega, by rw [updM_ne nra.symm, updM_same]; rfl, rfl, fun _ h => (nomatch h)⟩, ?_, ?_⟩
    · rintro j δ M' hj ⟨e3, e4, e5, e6, e7, e8, e9, e11, e12, e13, la, x, c, rfl, hr, c0, c1, ha, hla, hok⟩
      refine ⟨_, rfl, pa, _, rfl, ha, ?_⟩
      refine ⟨Nat.le_of_ble_eq_true rfl, fun p14 hp14 => ?_⟩
      have nr14 : row ≠ p14 := ne_fresh hr hp14
      have na14 : pa ≠ p14 := ne_fresh ha hp14
      refine ⟨_, rfl, row, 3, x, c, rfl, rfl, (by rw [updM_ne nr14]; exact hr), c0, by omega, by decide, bd64 (by decide), fun x' v hv0 hv1 => ?_⟩
      obtain ⟨wd, ew, hwd⟩ : ∃ wd : Str, atI ([.str (Str.ofString "corner"), .str (Str.ofString "wall"), .str (Str.ofString "land")] : List D) v = some (.str wd) ∧ (wd = Str.ofString "corner" ∨ wd = Str.ofString "wall" ∨ wd = Str.ofString "land") := by
        rcases (show v = 0 ∨ v = 1 ∨ v = 2 by omega) with rfl | rfl | rfl
        · exact ⟨_, rfl, .inl rfl⟩
        · exact ⟨_, rfl, .inr (.inl rfl)⟩
        · exact ⟨_, rfl, .inr (.inr rfl)⟩
      refine ⟨_, _, (by rw [updM_ne nr14.symm, updM_same]), ew, ?_⟩
      refine ⟨_, rfl, row, 80, x', c + 1, rfl, rfl, updM_same, by omega, by omega, by decide, bd64 (by decide), fun x'' v2 hv20 hv21 => ?_⟩
      refine ⟨Nat.le_of_ble_eq_true rfl, _, _, rfl, (by rw [updM_ne nra.symm, updM_ne nra.symm, updM_ne na14]; exact ha), (by rw [List.length_map]; omega), ?_⟩
      refine ⟨_, _, _, _, _, _, _, _, _, _, la ++ [(wd, v2)], x'', c + 1 + 1, rfl, by rw [updM_ne nra, updM_same], by omega, by omega, by rw [updM_same, List.map_append]; rfl, by rw [List.length_append, hla]; rfl, fun s hm => ?_⟩
      rcases List.mem_append.mp hm with hm | hm
      · exact hok s hm
      · rw [List.mem_singleton.mp hm]; exact ⟨hwd, hv20, hv21⟩
    rintro δ M' ⟨e3, e4, e5, e6, e7, e8, e9, e11, e12, e13, la, x, c, rfl, hr, c0, c1, ha, hla, hok⟩
    have hla : la.length = n2 := hla
    refine ⟨_, rfl, _, ha, fun pk hpk => ?_⟩
    have nak : pa ≠ pk := ne_fresh ha hpk
    have ha2 : (updM M' pk (.lst (la.map anD))) pa = some (.lst (la.map anD)) := by rw [updM_ne nak]; exact ha
    have hk2 : (updM M' pk (.lst (la.map anD))) pk = some (.lst (la.map anD)) := updM_same
    generalize updM M' pk (.lst (la.map anD)) = M14 at ha2 hk2 ⊢
    refine ⟨_, rfl, _, rfl, _, hk2, comp_map (fun i => (((la.map anT).map D.str)[i]?).getD .non) (by show (la.map anD).length ≤ 1000000; rw [List.length_map]; omega) (fun p ys hp => ?_) ?_ (fun pd hpd => ?_)⟩
    · show (updM _ p _) pk = _
      rw [updM_ne (ne_fresh hk2 hp)]; exact hk2
    · intro i d M3 hi hd sb
      have hd : (la.map anD)[i]? = some d := hd
      rw [List.getElem?_map] at hd
      cases es : la[i]? with
      | none => rw [es] at hd; cases hd
      | some s =>
        rw [es] at hd
        cases hd
        have ok := hok s (List.mem_of_getElem? es)
        have l1 := ok.len
        have l2 := iT_len (k := 899) (bd_ten ok.bd)
        have l3 : (⟨#[32]⟩ : Str).length = 1 := rfl
        refine ⟨_, ⟨_, rfl, rfl, rfl⟩, fun K hK => ?_⟩
        have hK' := hK M3 .refl
        rw [List.map_map, getD_map es] at hK'
        refine ⟨_, rfl, (by rw [t_spc, l3]; omega), _, rfl, ok.bd.mono (by decide), (by rw [t_spc, len_app, l3]; omega), ?_⟩
        rw [t_spc]
        exact hK'
    have e15 := SD.range_getD ((la.map anT).map D.str)
    rw [List.length_map, List.length_map] at e15
    dsimp only
    rw [List.length_map, e15]
    refine ⟨pd, la.map anT, rfl, updM_same, ?_, ?_⟩
    · unfold JoinOk
      rw [StrLaws.joinFits (B := 2000) (fun y hy => ?_) (by rw [t_nl, List.length_map]; show _ + _ * 1 ≤ _; omega)]
      · rfl
      · obtain ⟨s, hm, rfl⟩ := List.mem_map.mp hy
        exact anT_len (hok s hm).len (hok s hm).bd
    have ha3 : ∀ {G}, (updM M14 pd G) pa = some (.lst (la.map anD)) := fun {G} => by rw [updM_ne (ne_fresh ha2 hpd)]; exact ha2
    have hk3 : ∀ {G}, (updM M14 pd G) pk = some (.lst (la.map anD)) := fun {G} => by rw [updM_ne (ne_fresh hk2 hpd)]; exact hk2
    refine ⟨_, rfl, pa, la, rfl, ha3, by omega, (fun s hm => ⟨(hok s hm).len, (hok s hm).bd⟩), _, rfl, _, rfl, iteB (by rw [t_nl, decide_eq_true rfl]; rfl) ?_⟩
    exact ⟨_, rfl, _, rfl, ne_ans hok ha3 hk3 ⟨_, rfl, iteB rfl ⟨_, _, _, _, _, _, _, _, _, _, _, _, _, rfl⟩⟩⟩
theorem law_sp (ns : List Int) (M : MH) (h : ns.length ≤ 63) : sp_law [.rol (ns.map D.int)] M (fun d _ => d = .bl true) := ⟨ns, rfl, h, fun _ => rfl⟩
noncomputable def kE (P : Params) (n : String) (k : Nat) (v : Value) : DictEntry := { hash := PyData.keyHash P (Str.ofString n), key := .str (Str.ofString n) k, val := v }
noncomputable def kF (i : Nat) (n m : String) (k c : Nat) : Obj := { cls := .type "function", data := .func { name := Str.ofString n, qualname := Str.ofString n, params := defArgs (top i), body := .stmts (defBody (top i)), scope := defScope (top i), globals := nat_lit 3, closure := [], defaults := .none, kwdefaults := .none, pyModule := .str (Str.ofString m) k, code := .ref c } }
noncomputable def kD0 (P : Params) : List DictEntry := [kE P "__name__" (nat_lit 165) (.str (Str.ofString "law_spotlook_k64_questions_and_answers_writt") 549), kE P "__doc__" (nat_lit 166) (.none), kE P "__package__" (nat_lit 167) (.none), kE P "__loader__" (nat_lit 168) (.builtin "__main__.__loader__#opaque"), kE P "__spec__" (nat_lit 169) (.none), kE P "__annotations__" (nat_lit 170) (.ref (nat_lit 6)), kE P "__builtins__" (nat_lit 171) (.ref (nat_lit 4)), kE P "__file__" (nat_lit 173) (.str (Str.ofString "/claim/cut.py") 172)]
noncomputable def kD1 (P : Params) : List DictEntry := [kE P "__cached__" (nat_lit 174) (.none), kE P "SpotError" (nat_lit 206) (.ref (nat_lit 24)), kE P "NoFraction" (nat_lit 222) (.ref (nat_lit 37)), kE P "NoText" (nat_lit 247) (.ref (nat_lit 56)), kE P "greatest_divisor" (nat_lit 257) (.ref (nat_lit 65)), kE P "fraction" (nat_lit 266) (.ref (nat_lit 72)), kE P "plus" (nat_lit 274) (.ref (nat_lit 79)), kE P "less" (nat_lit 282) (.ref (nat_lit 86))]
noncomputable def kD2 (P : Params) : List DictEntry := [kE P "times" (nat_lit 290) (.ref (nat_lit 93)), kE P "over" (nat_lit 298) (.ref (nat_lit 100)), kE P "is_less" (nat_lit 306) (.ref (nat_lit 107)), kE P "is_ahead" (nat_lit 316) (.ref (nat_lit 114)), kE P "later_of" (nat_lit 324) (.ref (nat_lit 121)), kE P "earlier_of" (nat_lit 332) (.ref (nat_lit 128)), kE P "own_spot" (nat_lit 341) (.ref (nat_lit 135)), kE P "own_wall" (nat_lit 348) (.ref (nat_lit 142))]
noncomputable def kD3 (P : Params) : List DictEntry := [kE P "gap" (nat_lit 356) (.ref (nat_lit 149)), kE P "lean" (nat_lit 374) (.ref (nat_lit 156)), kE P "side_of" (nat_lit 383) (.ref (nat_lit 163)), kE P "MOST_WALLS" (nat_lit 387) (.int 40 386), kE P "meeting" (nat_lit 397) (.ref (nat_lit 170)), kE P "meeting_in_line" (nat_lit 407) (.ref (nat_lit 177)), kE P "crossing_spot" (nat_lit 421) (.ref (nat_lit 184)), kE P "number_between" (nat_lit 430) (.ref (nat_lit 191))]
noncomputable def kD4 (P : Params) : List DictEntry := [kE P "meet_as_in_plots" (nat_lit 439) (.ref (nat_lit 198)), kE P "first_crossed" (nat_lit 449) (.ref (nat_lit 205)), kE P "MOST_FIGURES" (nat_lit 453) (.int 30 452), kE P "show_fraction" (nat_lit 462) (.ref (nat_lit 212)), kE P "show_row" (nat_lit 468) (.ref (nat_lit 217)), kE P "wall_rows" (nat_lit 474) (.ref (nat_lit 222)), kE P "show_questions" (nat_lit 480) (.ref (nat_lit 227)), kE P "show_answers" (nat_lit 486) (.ref (nat_lit 232))]
noncomputable def kD5 (P : Params) : List DictEntry := [kE P "read_number" (nat_lit 492) (.ref (nat_lit 237)), kE P "read_top" (nat_lit 500) (.ref (nat_lit 244)), kE P "read_fraction" (nat_lit 512) (.ref (nat_lit 251)), kE P "read_spots" (nat_lit 518) (.ref (nat_lit 256)), kE P "read_wall" (nat_lit 528) (.ref (nat_lit 263)), kE P "rows_of" (nat_lit 535) (.ref (nat_lit 270)), kE P "read_questions" (nat_lit 548) (.ref (nat_lit 277)), kE P "_law_cell_at" (nat_lit 558) (.ref (nat_lit 284))]
noncomputable def kD6 (P : Params) : List DictEntry := [kE P "_law_take" (nat_lit 568) (.ref (nat_lit 291)), kE P "_law_low" (nat_lit 578) (.ref (nat_lit 298)), kE P "_law_number" (nat_lit 589) (.ref (nat_lit 305)), kE P "_law_scale" (nat_lit 599) (.ref (nat_lit 312)), kE P "_law_spot" (nat_lit 611) (.ref (nat_lit 319)), kE P "_law_made" (nat_lit 617) (.ref (nat_lit 324)), kE P "_law_turn" (nat_lit 629) (.ref (nat_lit 331)), kE P "_law_on" (nat_lit 637) (.ref (nat_lit 338))]
noncomputable def kD7 (P : Params) : List DictEntry := [kE P "_law_fair" (nat_lit 643) (.ref (nat_lit 343)), kE P "_law_shuts_here" (nat_lit 649) (.ref (nat_lit 348)), kE P "_law_shown" (nat_lit 656) (.ref (nat_lit 355)), kE P "_law_rows" (nat_lit 662) (.ref (nat_lit 360)), kE P "law" (nat_lit 668) (.ref (nat_lit 365))]
noncomputable def kG (P : Params) : Obj := { cls := .type "dict", data := .dict (List.toArray (kD0 P ++ (kD1 P ++ (kD2 P ++ (kD3 P ++ (kD4 P ++ (kD5 P ++ (kD6 P ++ (kD7 P))))))))) 61 }
noncomputable def kCo (n : String) (a0 : Nat) (a1 : Nat) (a2 : Nat) (a3 : Nat) (a4 : Nat) (a8 : Nat) (a11 : Nat) (a13 : Nat) (a14 : Nat) (a15 : Nat) (a16 : Nat) (a17 : Nat) (a18 : Nat) : Obj := { cls := .type "code", data := .fields #[.str (Str.ofString n) a0, .str (Str.ofString n) a1, .str (Str.ofString "/claim/cut.py") a2, .int (Int.ofNat a3) 0, .int (Int.ofNat a4) 0, .int 0 0, .int 0 0, .int 3 0, .ref a8, .bool true, .int 181 0, .ref a11, .none, .ref a13, .ref a14, .ref a15, .int (Int.ofNat a16) 0, .int (Int.ofNat a17) 0, .str (Str.ofString "/claim/cut.py") a18] }
noncomputable def kN (l : List Obj) (i : Nat) : Obj := l.getD i { cls := .none, data := .dict #[] }
noncomputable def kL0 : List Obj := [kCo "greatest_divisor" (nat_lit 250) (nat_lit 251) (nat_lit 252) (nat_lit 12) (nat_lit 2) (nat_lit 59) (nat_lit 60) (nat_lit 61) (nat_lit 62) (nat_lit 63) (nat_lit 255) (nat_lit 12) (nat_lit 256), kF (nat_lit 5) "greatest_divisor" "spotlook.fractions" (nat_lit 248) (nat_lit 64), kCo "fraction" (nat_lit 258) (nat_lit 259) (nat_lit 260) (nat_lit 16) (nat_lit 2) (nat_lit 66) (nat_lit 67) (nat_lit 68) (nat_lit 69) (nat_lit 70) (nat_lit 264) (nat_lit 16) (nat_lit 265), kF (nat_lit 6) "fraction" "spotlook.fractions" (nat_lit 248) (nat_lit 71), kCo "plus" (nat_lit 267) (nat_lit 268) (nat_lit 269) (nat_lit 23) (nat_lit 2) (nat_lit 73) (nat_lit 74) (nat_lit 75) (nat_lit 76) (nat_lit 77) (nat_lit 272) (nat_lit 23) (nat_lit 273), kF (nat_lit 7) "plus" "spotlook.fractions" (nat_lit 248) (nat_lit 78), kCo "less" (nat_lit 275) (nat_lit 276) (nat_lit 277) (nat_lit 25) (nat_lit 2) (nat_lit 80) (nat_lit 81) (nat_lit 82) (nat_lit 83) (nat_lit 84) (nat_lit 280) (nat_lit 25) (nat_lit 281), kF (nat_lit 8) "less" "spotlook.fractions" (nat_lit 248) (nat_lit 85)]
noncomputable def kL1 : List Obj := [kCo "times" (nat_lit 283) (nat_lit 284) (nat_lit 285) (nat_lit 27) (nat_lit 2) (nat_lit 87) (nat_lit 88) (nat_lit 89) (nat_lit 90) (nat_lit 91) (nat_lit 288) (nat_lit 27) (nat_lit 289), kF (nat_lit 9) "times" "spotlook.fractions" (nat_lit 248) (nat_lit 92), kCo "over" (nat_lit 291) (nat_lit 292) (nat_lit 293) (nat_lit 29) (nat_lit 2) (nat_lit 94) (nat_lit 95) (nat_lit 96) (nat_lit 97) (nat_lit 98) (nat_lit 296) (nat_lit 29) (nat_lit 297), kF (nat_lit 10) "over" "spotlook.fractions" (nat_lit 248) (nat_lit 99), kCo "is_less" (nat_lit 299) (nat_lit 300) (nat_lit 301) (nat_lit 31) (nat_lit 2) (nat_lit 101) (nat_lit 102) (nat_lit 103) (nat_lit 104) (nat_lit 105) (nat_lit 304) (nat_lit 31) (nat_lit 305), kF (nat_lit 11) "is_less" "spotlook.fractions" (nat_lit 248) (nat_lit 106), kCo "is_ahead" (nat_lit 309) (nat_lit 310) (nat_lit 311) (nat_lit 34) (nat_lit 2) (nat_lit 108) (nat_lit 109) (nat_lit 110) (nat_lit 111) (nat_lit 112) (nat_lit 314) (nat_lit 34) (nat_lit 315), kF (nat_lit 13) "is_ahead" "spotlook.spots" (nat_lit 307) (nat_lit 113)]
noncomputable def kL2 : List Obj := [kCo "later_of" (nat_lit 317) (nat_lit 318) (nat_lit 319) (nat_lit 38) (nat_lit 2) (nat_lit 115) (nat_lit 116) (nat_lit 117) (nat_lit 118) (nat_lit 119) (nat_lit 322) (nat_lit 38) (nat_lit 323), kF (nat_lit 14) "later_of" "spotlook.spots" (nat_lit 307) (nat_lit 120), kCo "earlier_of" (nat_lit 325) (nat_lit 326) (nat_lit 327) (nat_lit 40) (nat_lit 2) (nat_lit 122) (nat_lit 123) (nat_lit 124) (nat_lit 125) (nat_lit 126) (nat_lit 330) (nat_lit 40) (nat_lit 331), kF (nat_lit 15) "earlier_of" "spotlook.spots" (nat_lit 307) (nat_lit 127), kCo "own_spot" (nat_lit 333) (nat_lit 334) (nat_lit 335) (nat_lit 42) (nat_lit 1) (nat_lit 129) (nat_lit 130) (nat_lit 131) (nat_lit 132) (nat_lit 133) (nat_lit 339) (nat_lit 42) (nat_lit 340), kF (nat_lit 16) "own_spot" "spotlook.spots" (nat_lit 307) (nat_lit 134), kCo "own_wall" (nat_lit 342) (nat_lit 343) (nat_lit 344) (nat_lit 45) (nat_lit 1) (nat_lit 136) (nat_lit 137) (nat_lit 138) (nat_lit 139) (nat_lit 140) (nat_lit 346) (nat_lit 45) (nat_lit 347), kF (nat_lit 17) "own_wall" "spotlook.spots" (nat_lit 307) (nat_lit 141)]
noncomputable def kL3 : List Obj := [kCo "gap" (nat_lit 349) (nat_lit 350) (nat_lit 351) (nat_lit 47) (nat_lit 2) (nat_lit 143) (nat_lit 144) (nat_lit 145) (nat_lit 146) (nat_lit 147) (nat_lit 354) (nat_lit 47) (nat_lit 355), kF (nat_lit 18) "gap" "spotlook.spots" (nat_lit 307) (nat_lit 148), kCo "lean" (nat_lit 357) (nat_lit 358) (nat_lit 359) (nat_lit 49) (nat_lit 2) (nat_lit 150) (nat_lit 151) (nat_lit 152) (nat_lit 153) (nat_lit 154) (nat_lit 372) (nat_lit 49) (nat_lit 373), kF (nat_lit 19) "lean" "spotlook.spots" (nat_lit 307) (nat_lit 155), kCo "side_of" (nat_lit 375) (nat_lit 376) (nat_lit 377) (nat_lit 55) (nat_lit 2) (nat_lit 157) (nat_lit 158) (nat_lit 159) (nat_lit 160) (nat_lit 161) (nat_lit 381) (nat_lit 55) (nat_lit 382), kF (nat_lit 20) "side_of" "spotlook.spots" (nat_lit 307) (nat_lit 162), kCo "meeting" (nat_lit 388) (nat_lit 389) (nat_lit 390) (nat_lit 64) (nat_lit 2) (nat_lit 164) (nat_lit 165) (nat_lit 166) (nat_lit 167) (nat_lit 168) (nat_lit 395) (nat_lit 64) (nat_lit 396), kF (nat_lit 23) "meeting" "spotlook.plots" (nat_lit 384) (nat_lit 169)]
noncomputable def kL4 : List Obj := [kCo "meeting_in_line" (nat_lit 398) (nat_lit 399) (nat_lit 400) (nat_lit 71) (nat_lit 2) (nat_lit 171) (nat_lit 172) (nat_lit 173) (nat_lit 174) (nat_lit 175) (nat_lit 405) (nat_lit 71) (nat_lit 406), kF (nat_lit 24) "meeting_in_line" "spotlook.plots" (nat_lit 384) (nat_lit 176), kCo "crossing_spot" (nat_lit 408) (nat_lit 409) (nat_lit 410) (nat_lit 79) (nat_lit 2) (nat_lit 178) (nat_lit 179) (nat_lit 180) (nat_lit 181) (nat_lit 182) (nat_lit 419) (nat_lit 79) (nat_lit 420), kF (nat_lit 25) "crossing_spot" "spotlook.plots" (nat_lit 384) (nat_lit 183), kCo "number_between" (nat_lit 422) (nat_lit 423) (nat_lit 424) (nat_lit 86) (nat_lit 3) (nat_lit 185) (nat_lit 186) (nat_lit 187) (nat_lit 188) (nat_lit 189) (nat_lit 428) (nat_lit 86) (nat_lit 429), kF (nat_lit 26) "number_between" "spotlook.plots" (nat_lit 384) (nat_lit 190), kCo "meet_as_in_plots" (nat_lit 431) (nat_lit 432) (nat_lit 433) (nat_lit 88) (nat_lit 2) (nat_lit 192) (nat_lit 193) (nat_lit 194) (nat_lit 195) (nat_lit 196) (nat_lit 437) (nat_lit 88) (nat_lit 438), kF (nat_lit 27) "meet_as_in_plots" "spotlook.plots" (nat_lit 384) (nat_lit 197)]
noncomputable def kL5 : List Obj := [kCo "first_crossed" (nat_lit 440) (nat_lit 441) (nat_lit 442) (nat_lit 93) (nat_lit 2) (nat_lit 199) (nat_lit 200) (nat_lit 201) (nat_lit 202) (nat_lit 203) (nat_lit 447) (nat_lit 93) (nat_lit 448), kF (nat_lit 28) "first_crossed" "spotlook.plots" (nat_lit 384) (nat_lit 204), kCo "show_fraction" (nat_lit 454) (nat_lit 455) (nat_lit 456) (nat_lit 100) (nat_lit 1) (nat_lit 206) (nat_lit 207) (nat_lit 208) (nat_lit 209) (nat_lit 210) (nat_lit 460) (nat_lit 100) (nat_lit 461), kF (nat_lit 31) "show_fraction" "spotlook.texts" (nat_lit 450) (nat_lit 211), { cls := .type "code", data := .fields #[(.str (Str.ofString "show_row") 463), (.str (Str.ofString "show_row") 464), (.str (Str.ofString "/claim/cut.py") 465), (.int 103 0), (.int 2 0), (.int 0 0), (.int 0 0), (.int 3 0), (.ref 213), (.bool true), (.int 181 0), (.ref 214), .none, .none, .none, (.ref 215), (.int 466 0), (.int 103 0), (.str (Str.ofString "/claim/cut.py") 467)] }, kF (nat_lit 32) "show_row" "spotlook.texts" (nat_lit 450) (nat_lit 216), { cls := .type "code", data := .fields #[(.str (Str.ofString "wall_rows") 469), (.str (Str.ofString "wall_rows") 470), (.str (Str.ofString "/claim/cut.py") 471), (.int 105 0), (.int 1 0), (.int 0 0), (.int 0 0), (.int 3 0), (.ref 218), (.bool true), (.int 181 0), (.ref 219), .none, .none, .none, (.ref 220), (.int 472 0), (.int 105 0), (.str (Str.ofString "/claim/cut.py") 473)] }, kF (nat_lit 33) "wall_rows" "spotlook.texts" (nat_lit 450) (nat_lit 221)]
noncomputable def kL6 : List Obj := [{ cls := .type "code", data := .fields #[(.str (Str.ofString "show_questions") 475), (.str (Str.ofString "show_questions") 476), (.str (Str.ofString "/claim/cut.py") 477), (.int 107 0), (.int 2 0), (.int 0 0), (.int 0 0), (.int 3 0), (.ref 223), (.bool true), (.int 181 0), (.ref 224), .none, .none, .none, (.ref 225), (.int 478 0), (.int 107 0), (.str (Str.ofString "/claim/cut.py") 479)] }, kF (nat_lit 34) "show_questions" "spotlook.texts" (nat_lit 450) (nat_lit 226), { cls := .type "code", data := .fields #[(.str (Str.ofString "show_answers") 481), (.str (Str.ofString "show_answers") 482), (.str (Str.ofString "/claim/cut.py") 483), (.int 109 0), (.int 1 0), (.int 0 0), (.int 0 0), (.int 3 0), (.ref 228), (.bool true), (.int 181 0), (.ref 229), .none, .none, .none, (.ref 230), (.int 484 0), (.int 109 0), (.str (Str.ofString "/claim/cut.py") 485)] }, kF (nat_lit 35) "show_answers" "spotlook.texts" (nat_lit 450) (nat_lit 231), { cls := .type "code", data := .fields #[(.str (Str.ofString "read_number") 487), (.str (Str.ofString "read_number") 488), (.str (Str.ofString "/claim/cut.py") 489), (.int 111 0), (.int 1 0), (.int 0 0), (.int 0 0), (.int 3 0), (.ref 233), (.bool true), (.int 181 0), (.ref 234), .none, .none, .none, (.ref 235), (.int 490 0), (.int 111 0), (.str (Str.ofString "/claim/cut.py") 491)] }, kF (nat_lit 36) "read_number" "spotlook.texts" (nat_lit 450) (nat_lit 236), kCo "read_top" (nat_lit 493) (nat_lit 494) (nat_lit 495) (nat_lit 117) (nat_lit 1) (nat_lit 238) (nat_lit 239) (nat_lit 240) (nat_lit 241) (nat_lit 242) (nat_lit 498) (nat_lit 117) (nat_lit 499), kF (nat_lit 37) "read_top" "spotlook.texts" (nat_lit 450) (nat_lit 243)]
noncomputable def kL7 : List Obj := [kCo "read_fraction" (nat_lit 501) (nat_lit 502) (nat_lit 503) (nat_lit 122) (nat_lit 1) (nat_lit 245) (nat_lit 246) (nat_lit 247) (nat_lit 248) (nat_lit 249) (nat_lit 510) (nat_lit 122) (nat_lit 511), kF (nat_lit 38) "read_fraction" "spotlook.texts" (nat_lit 450) (nat_lit 250), { cls := .type "code", data := .fields #[(.str (Str.ofString "read_spots") 513), (.str (Str.ofString "read_spots") 514), (.str (Str.ofString "/claim/cut.py") 515), (.int 131 0), (.int 3 0), (.int 0 0), (.int 0 0), (.int 3 0), (.ref 252), (.bool true), (.int 181 0), (.ref 253), .none, .none, .none, (.ref 254), (.int 516 0), (.int 131 0), (.str (Str.ofString "/claim/cut.py") 517)] }, kF (nat_lit 39) "read_spots" "spotlook.texts" (nat_lit 450) (nat_lit 255), kCo "read_wall" (nat_lit 519) (nat_lit 520) (nat_lit 521) (nat_lit 137) (nat_lit 2) (nat_lit 257) (nat_lit 258) (nat_lit 259) (nat_lit 260) (nat_lit 261) (nat_lit 526) (nat_lit 137) (nat_lit 527), kF (nat_lit 40) "read_wall" "spotlook.texts" (nat_lit 450) (nat_lit 262), kCo "rows_of" (nat_lit 529) (nat_lit 530) (nat_lit 531) (nat_lit 145) (nat_lit 1) (nat_lit 264) (nat_lit 265) (nat_lit 266) (nat_lit 267) (nat_lit 268) (nat_lit 533) (nat_lit 145) (nat_lit 534), kF (nat_lit 41) "rows_of" "spotlook.texts" (nat_lit 450) (nat_lit 269)]
noncomputable def kL8 : List Obj := [kCo "read_questions" (nat_lit 536) (nat_lit 537) (nat_lit 538) (nat_lit 147) (nat_lit 1) (nat_lit 271) (nat_lit 272) (nat_lit 273) (nat_lit 274) (nat_lit 275) (nat_lit 546) (nat_lit 147) (nat_lit 547), kF (nat_lit 42) "read_questions" "spotlook.texts" (nat_lit 450) (nat_lit 276), kCo "_law_cell_at" (nat_lit 551) (nat_lit 552) (nat_lit 553) (nat_lit 160) (nat_lit 2) (nat_lit 278) (nat_lit 279) (nat_lit 280) (nat_lit 281) (nat_lit 282) (nat_lit 556) (nat_lit 160) (nat_lit 557), kF (nat_lit 44) "_law_cell_at" "law_spotlook_k64_questions_and_answers_writt" (nat_lit 549) (nat_lit 283), kCo "_law_take" (nat_lit 559) (nat_lit 560) (nat_lit 561) (nat_lit 164) (nat_lit 2) (nat_lit 285) (nat_lit 286) (nat_lit 287) (nat_lit 288) (nat_lit 289) (nat_lit 566) (nat_lit 164) (nat_lit 567), kF (nat_lit 45) "_law_take" "law_spotlook_k64_questions_and_answers_writt" (nat_lit 549) (nat_lit 290), kCo "_law_low" (nat_lit 569) (nat_lit 570) (nat_lit 571) (nat_lit 173) (nat_lit 2) (nat_lit 292) (nat_lit 293) (nat_lit 294) (nat_lit 295) (nat_lit 296) (nat_lit 576) (nat_lit 173) (nat_lit 577), kF (nat_lit 46) "_law_low" "law_spotlook_k64_questions_and_answers_writt" (nat_lit 549) (nat_lit 297)]
noncomputable def kL9 : List Obj := [kCo "_law_number" (nat_lit 579) (nat_lit 580) (nat_lit 581) (nat_lit 181) (nat_lit 1) (nat_lit 299) (nat_lit 300) (nat_lit 301) (nat_lit 302) (nat_lit 303) (nat_lit 587) (nat_lit 181) (nat_lit 588), kF (nat_lit 47) "_law_number" "law_spotlook_k64_questions_and_answers_writt" (nat_lit 549) (nat_lit 304), kCo "_law_scale" (nat_lit 590) (nat_lit 591) (nat_lit 592) (nat_lit 187) (nat_lit 1) (nat_lit 306) (nat_lit 307) (nat_lit 308) (nat_lit 309) (nat_lit 310) (nat_lit 597) (nat_lit 187) (nat_lit 598), kF (nat_lit 48) "_law_scale" "law_spotlook_k64_questions_and_answers_writt" (nat_lit 549) (nat_lit 311), kCo "_law_spot" (nat_lit 600) (nat_lit 601) (nat_lit 602) (nat_lit 193) (nat_lit 2) (nat_lit 313) (nat_lit 314) (nat_lit 315) (nat_lit 316) (nat_lit 317) (nat_lit 609) (nat_lit 193) (nat_lit 610), kF (nat_lit 49) "_law_spot" "law_spotlook_k64_questions_and_answers_writt" (nat_lit 549) (nat_lit 318), { cls := .type "code", data := .fields #[(.str (Str.ofString "_law_made") 612), (.str (Str.ofString "_law_made") 613), (.str (Str.ofString "/claim/cut.py") 614), (.int 196 0), (.int 2 0), (.int 0 0), (.int 0 0), (.int 3 0), (.ref 320), (.bool true), (.int 181 0), (.ref 321), .none, .none, .none, (.ref 322), (.int 615 0), (.int 196 0), (.str (Str.ofString "/claim/cut.py") 616)] }, kF (nat_lit 50) "_law_made" "law_spotlook_k64_questions_and_answers_writt" (nat_lit 549) (nat_lit 323)]
noncomputable def kL10 : List Obj := [kCo "_law_turn" (nat_lit 618) (nat_lit 619) (nat_lit 620) (nat_lit 198) (nat_lit 3) (nat_lit 325) (nat_lit 326) (nat_lit 327) (nat_lit 328) (nat_lit 329) (nat_lit 627) (nat_lit 198) (nat_lit 628), kF (nat_lit 51) "_law_turn" "law_spotlook_k64_questions_and_answers_writt" (nat_lit 549) (nat_lit 330), kCo "_law_on" (nat_lit 630) (nat_lit 631) (nat_lit 632) (nat_lit 203) (nat_lit 2) (nat_lit 332) (nat_lit 333) (nat_lit 334) (nat_lit 335) (nat_lit 336) (nat_lit 635) (nat_lit 203) (nat_lit 636), kF (nat_lit 52) "_law_on" "law_spotlook_k64_questions_and_answers_writt" (nat_lit 549) (nat_lit 337), { cls := .type "code", data := .fields #[(.str (Str.ofString "_law_fair") 638), (.str (Str.ofString "_law_fair") 639), (.str (Str.ofString "/claim/cut.py") 640), (.int 205 0), (.int 2 0), (.int 0 0), (.int 0 0), (.int 3 0), (.ref 339), (.bool true), (.int 181 0), (.ref 340), .none, .none, .none, (.ref 341), (.int 641 0), (.int 205 0), (.str (Str.ofString "/claim/cut.py") 642)] }, kF (nat_lit 53) "_law_fair" "law_spotlook_k64_questions_and_answers_writt" (nat_lit 549) (nat_lit 342), { cls := .type "code", data := .fields #[(.str (Str.ofString "_law_shuts_here") 644), (.str (Str.ofString "_law_shuts_here") 645), (.str (Str.ofString "/claim/cut.py") 646), (.int 215 0), (.int 3 0), (.int 0 0), (.int 0 0), (.int 3 0), (.ref 344), (.bool true), (.int 181 0), (.ref 345), .none, .none, .none, (.ref 346), (.int 647 0), (.int 215 0), (.str (Str.ofString "/claim/cut.py") 648)] }, kF (nat_lit 54) "_law_shuts_here" "law_spotlook_k64_questions_and_answers_writt" (nat_lit 549) (nat_lit 347)]
noncomputable def kL11 : List Obj := [kCo "_law_shown" (nat_lit 650) (nat_lit 651) (nat_lit 652) (nat_lit 226) (nat_lit 1) (nat_lit 349) (nat_lit 350) (nat_lit 351) (nat_lit 352) (nat_lit 353) (nat_lit 654) (nat_lit 226) (nat_lit 655), kF (nat_lit 55) "_law_shown" "law_spotlook_k64_questions_and_answers_writt" (nat_lit 549) (nat_lit 354), { cls := .type "code", data := .fields #[(.str (Str.ofString "_law_rows") 657), (.str (Str.ofString "_law_rows") 658), (.str (Str.ofString "/claim/cut.py") 659), (.int 228 0), (.int 1 0), (.int 0 0), (.int 0 0), (.int 3 0), (.ref 356), (.bool true), (.int 181 0), (.ref 357), .none, .none, .none, (.ref 358), (.int 660 0), (.int 228 0), (.str (Str.ofString "/claim/cut.py") 661)] }, kF (nat_lit 56) "_law_rows" "law_spotlook_k64_questions_and_answers_writt" (nat_lit 549) (nat_lit 359), { cls := .type "code", data := .fields #[(.str (Str.ofString "law") 663), (.str (Str.ofString "law") 664), (.str (Str.ofString "/claim/cut.py") 665), (.int 230 0), (.int 1 0), (.int 0 0), (.int 0 0), (.int 3 0), (.ref 361), (.bool true), (.int 181 0), (.ref 362), .none, .none, .none, (.ref 363), (.int 666 0), (.int 230 0), (.str (Str.ofString "/claim/cut.py") 667)] }, kF (nat_lit 57) "law" "law_spotlook_k64_questions_and_answers_writt" (nat_lit 549) (nat_lit 364)]
noncomputable def kK : Params → PySem.W.Frag := fun P => (nat_lit 3, kG P) :: (nat_lit 64, kN kL0 (nat_lit 0)) :: (nat_lit 65, kN kL0 (nat_lit 1)) :: (nat_lit 71, kN kL0 (nat_lit 2)) :: (nat_lit 72, kN kL0 (nat_lit 3)) :: (nat_lit 78, kN kL0 (nat_lit 4)) :: (nat_lit 79, kN kL0 (nat_lit 5)) :: (nat_lit 85, kN kL0 (nat_lit 6)) :: (nat_lit 86, kN kL0 (nat_lit 7)) :: (nat_lit 92, kN kL1 (nat_lit 0)) :: (nat_lit 93, kN kL1 (nat_lit 1)) :: (nat_lit 99, kN kL1 (nat_lit 2)) :: (nat_lit 100, kN kL1 (nat_lit 3)) :: (nat_lit 106, kN kL1 (nat_lit 4)) :: (nat_lit 107, kN kL1 (nat_lit 5)) :: (nat_lit 113, kN kL1 (nat_lit 6)) :: (nat_lit 114, kN kL1 (nat_lit 7)) :: (nat_lit 120, kN kL2 (nat_lit 0)) :: (nat_lit 121, kN kL2 (nat_lit 1)) :: (nat_lit 127, kN kL2 (nat_lit 2)) :: (nat_lit 128, kN kL2 (nat_lit 3)) :: (nat_lit 134, kN kL2 (nat_lit 4)) :: (nat_lit 135, kN kL2 (nat_lit 5)) :: (nat_lit 141, kN kL2 (nat_lit 6)) :: (nat_lit 142, kN kL2 (nat_lit 7)) :: (nat_lit 148, kN kL3 (nat_lit 0)) :: (nat_lit 149, kN kL3 (nat_lit 1)) :: (nat_lit 155, kN kL3 (nat_lit 2)) :: (nat_lit 156, kN kL3 (nat_lit 3)) :: (nat_lit 162, kN kL3 (nat_lit 4)) :: (nat_lit 163, kN kL3 (nat_lit 5)) :: (nat_lit 169, kN kL3 (nat_lit 6)) :: (nat_lit 170, kN kL3 (nat_lit 7)) :: (nat_lit 176, kN kL4 (nat_lit 0)) :: (nat_lit 177, kN kL4 (nat_lit 1)) :: (nat_lit 183, kN kL4 (nat_lit 2)) :: (nat_lit 184, kN kL4 (nat_lit 3)) :: (nat_lit 190, kN kL4 (nat_lit 4)) :: (nat_lit 191, kN kL4 (nat_lit 5)) :: (nat_lit 197, kN kL4 (nat_lit 6)) :: (nat_lit 198, kN kL4 (nat_lit 7)) :: (nat_lit 204, kN kL5 (nat_lit 0)) :: (nat_lit 205, kN kL5 (nat_lit 1)) :: (nat_lit 211, kN kL5 (nat_lit 2)) :: (nat_lit 212, kN kL5 (nat_lit 3)) :: (nat_lit 216, kN kL5 (nat_lit 4)) :: (nat_lit 217, kN kL5 (nat_lit 5)) :: (nat_lit 221, kN kL5 (nat_lit 6)) :: (nat_lit 222, kN kL5 (nat_lit 7)) :: (nat_lit 226, kN kL6 (nat_lit 0)) :: (nat_lit 227, kN kL6 (nat_lit 1)) :: (nat_lit 231, kN kL6 (nat_lit 2)) :: (nat_lit 232, kN kL6 (nat_lit 3)) :: (nat_lit 236, kN kL6 (nat_lit 4)) :: (nat_lit 237, kN kL6 (nat_lit 5)) :: (nat_lit 243, kN kL6 (nat_lit 6)) :: (nat_lit 244, kN kL6 (nat_lit 7)) :: (nat_lit 250, kN kL7 (nat_lit 0)) :: (nat_lit 251, kN kL7 (nat_lit 1)) :: (nat_lit 255, kN kL7 (nat_lit 2)) :: (nat_lit 256, kN kL7 (nat_lit 3)) :: (nat_lit 262, kN kL7 (nat_lit 4)) :: (nat_lit 263, kN kL7 (nat_lit 5)) :: (nat_lit 269, kN kL7 (nat_lit 6)) :: (nat_lit 270, kN kL7 (nat_lit 7)) :: (nat_lit 276, kN kL8 (nat_lit 0)) :: (nat_lit 277, kN kL8 (nat_lit 1)) :: (nat_lit 283, kN kL8 (nat_lit 2)) :: (nat_lit 284, kN kL8 (nat_lit 3)) :: (nat_lit 290, kN kL8 (nat_lit 4)) :: (nat_lit 291, kN kL8 (nat_lit 5)) :: (nat_lit 297, kN kL8 (nat_lit 6)) :: (nat_lit 298, kN kL8 (nat_lit 7)) :: (nat_lit 304, kN kL9 (nat_lit 0)) :: (nat_lit 305, kN kL9 (nat_lit 1)) :: (nat_lit 311, kN kL9 (nat_lit 2)) :: (nat_lit 312, kN kL9 (nat_lit 3)) :: (nat_lit 318, kN kL9 (nat_lit 4)) :: (nat_lit 319, kN kL9 (nat_lit 5)) :: (nat_lit 323, kN kL9 (nat_lit 6)) :: (nat_lit 324, kN kL9 (nat_lit 7)) :: (nat_lit 330, kN kL10 (nat_lit 0)) :: (nat_lit 331, kN kL10 (nat_lit 1)) :: (nat_lit 337, kN kL10 (nat_lit 2)) :: (nat_lit 338, kN kL10 (nat_lit 3)) :: (nat_lit 342, kN kL10 (nat_lit 4)) :: (nat_lit 343, kN kL10 (nat_lit 5)) :: (nat_lit 347, kN kL10 (nat_lit 6)) :: (nat_lit 348, kN kL10 (nat_lit 7)) :: (nat_lit 354, kN kL11 (nat_lit 0)) :: (nat_lit 355, kN kL11 (nat_lit 1)) :: (nat_lit 359, kN kL11 (nat_lit 2)) :: (nat_lit 360, kN kL11 (nat_lit 3)) :: (nat_lit 364, kN kL11 (nat_lit 4)) :: (nat_lit 365, kN kL11 (nat_lit 5)) :: []
end Q_k64_questions_and_answers_writt
namespace Q_k64_questions_and_answers_writt
open PySem L2
inductive Tg {A : Type} (a : A) : Type where | mk : Tg a
noncomputable def pk {A : Type} {a : A} (_ : Tg a) : A := a
noncomputable def hE (P : Params) (n : Str) (k : Nat) (v : Value) : DictEntry := { hash := PyData.keyHash P n, key := .str n k, val := v }
noncomputable def kU (s : Stmt) (n q : Str) (g : Nat) (m c : Value) : FuncData := { name := n, qualname := q, params := defArgs s, body := .stmts (defBody s), scope := defScope s, globals := g, closure := [], defaults := .none, kwdefaults := .none, pyModule := m, code := c }
noncomputable def kC (s : Stmt) (i : Nat) : Stmt := match s with
  | .ClassDef (body := b) .. => b.getD i (.Pass ⟨0, 0, 0, 0⟩)
  | s => s
noncomputable def kTu (l : List Value) : Obj := { cls := .type "tuple", data := .seq l.toArray 0 }
noncomputable def kFd (l : List Value) : Obj := { cls := .none, data := .fields l.toArray }
noncomputable def st0 : Stmt := by
 refine' (?a : Tg (A := Stmt) _ → _) ?d
 case d =>
  have t : Tg (top 0) := .mk
  conv at t => arg 1; whnf
  exact t
 exact fun t => pk (.mk : type_of% t)
noncomputable def st1 : Stmt := by
 refine' (?a : Tg (A := Stmt) _ → _) ?d
 case d =>
  have t : Tg (top 1) := .mk
  conv at t => arg 1; whnf
  exact t
 exact fun t => pk (.mk : type_of% t)
noncomputable def st2 : Stmt := by
 refine' (?a : Tg (A := Stmt) _ → _) ?d
 case d =>
  have t : Tg (top 2) := .mk
  conv at t => arg 1; whnf
  exact t
 exact fun t => pk (.mk : type_of% t)
noncomputable def st3 : Stmt := by
 refine' (?a : Tg (A := Stmt) _ → _) ?d
 case d =>
  have t : Tg (top 3) := .mk
  conv at t => arg 1; whnf
  exact t
 exact fun t => pk (.mk : type_of% t)
noncomputable def st4 : Stmt := by
 refine' (?a : Tg (A := Stmt) _ → _) ?d
 case d =>
  have t : Tg (top 4) := .mk
  conv at t => arg 1; whnf
  exact t
 exact fun t => pk (.mk : type_of% t)
noncomputable def st5 : Stmt := by
 refine' (?a : Tg (A := Stmt) _ → _) ?d
 case d =>
  have t : Tg (top 5) := .mk
  conv at t => arg 1; whnf
  exact t
 exact fun t => pk (.mk : type_of% t)
noncomputable def st6 : Stmt := by
 refine' (?a : Tg (A := Stmt) _ → _) ?d
 case d =>
  have t : Tg (top 6) := .mk
  conv at t => arg 1; whnf
  exact t
 exact fun t => pk (.mk : type_of% t)
noncomputable def st7 : Stmt := by
 refine' (?a : Tg (A := Stmt) _ → _) ?d
 case d =>
  have t : Tg (top 7) := .mk
  conv at t => arg 1; whnf
  exact t
 exact fun t => pk (.mk : type_of% t)
noncomputable def st8 : Stmt := by
 refine' (?a : Tg (A := Stmt) _ → _) ?d
 case d =>
  have t : Tg (top 8) := .mk
  conv at t => arg 1; whnf
  exact t
 exact fun t => pk (.mk : type_of% t)
noncomputable def st9 : Stmt := by
 refine' (?a : Tg (A := Stmt) _ → _) ?d
 case d =>
  have t : Tg (top 9) := .mk
  conv at t => arg 1; whnf
  exact t
 exact fun t => pk (.mk : type_of% t)
noncomputable def st10 : Stmt := by
 refine' (?a : Tg (A := Stmt) _ → _) ?d
 case d =>
  have t : Tg (top 10) := .mk
  conv at t => arg 1; whnf
  exact t
 exact fun t => pk (.mk : type_of% t)
noncomputable def st11 : Stmt := by
 refine' (?a : Tg (A := Stmt) _ → _) ?d
 case d =>
  have t : Tg (top 11) := .mk
  conv at t => arg 1; whnf
  exact t
 exact fun t => pk (.mk : type_of% t)
noncomputable def st12 : Stmt := by
 refine' (?a : Tg (A := Stmt) _ → _) ?d
 case d =>
  have t : Tg (top 12) := .mk
  conv at t => arg 1; whnf
  exact t
 exact fun t => pk (.mk : type_of% t)
noncomputable def st13 : Stmt := by
 refine' (?a : Tg (A := Stmt) _ → _) ?d
 case d =>
  have t : Tg (top 13) := .mk
  conv at t => arg 1; whnf
  exact t
 exact fun t => pk (.mk : type_of% t)
noncomputable def st14 : Stmt := by
 refine' (?a : Tg (A := Stmt) _ → _) ?d
 case d =>
  have t : Tg (top 14) := .mk
  conv at t => arg 1; whnf
  exact t
 exact fun t => pk (.mk : type_of% t)
noncomputable def st15 : Stmt := by
 refine' (?a : Tg (A := Stmt) _ → _) ?d
 case d =>
  have t : Tg (top 15) := .mk
  conv at t => arg 1; whnf
  exact t
 exact fun t => pk (.mk : type_of% t)
noncomputable def st16 : Stmt := by
 refine' (?a : Tg (A := Stmt) _ → _) ?d
 case d =>
  have t : Tg (top 16) := .mk
  conv at t => arg 1; whnf
  exact t
 exact fun t => pk (.mk : type_of% t)
noncomputable def st17 : Stmt := by
 refine' (?a : Tg (A := Stmt) _ → _) ?d
 case d =>
  have t : Tg (top 17) := .mk
  conv at t => arg 1; whnf
  exact t
 exact fun t => pk (.mk : type_of% t)
noncomputable def st18 : Stmt := by
 refine' (?a : Tg (A := Stmt) _ → _) ?d
 case d =>
  have t : Tg (top 18) := .mk
  conv at t => arg 1; whnf
  exact t
 exact fun t => pk (.mk : type_of% t)
noncomputable def st19 : Stmt := by
 refine' (?a : Tg (A := Stmt) _ → _) ?d
 case d =>
  have t : Tg (top 19) := .mk
  conv at t => arg 1; whnf
  exact t
 exact fun t => pk (.mk : type_of% t)
noncomputable def st20 : Stmt := by
 refine' (?a : Tg (A := Stmt) _ → _) ?d
 case d =>
  have t : Tg (top 20) := .mk
  conv at t => arg 1; whnf
  exact t
 exact fun t => pk (.mk : type_of% t)
noncomputable def st21 : Stmt := by
 refine' (?a : Tg (A := Stmt) _ → _) ?d
 case d =>
  have t : Tg (top 21) := .mk
  conv at t => arg 1; whnf
  exact t
 exact fun t => pk (.mk : type_of% t)
noncomputable def st22 : Stmt := by
 refine' (?a : Tg (A := Stmt) _ → _) ?d
 case d =>
  have t : Tg (top 22) := .mk
  conv at t => arg 1; whnf
  exact t
 exact fun t => pk (.mk : type_of% t)
noncomputable def st23 : Stmt := by
 refine' (?a : Tg (A := Stmt) _ → _) ?d
 case d =>
  have t : Tg (top 23) := .mk
  conv at t => arg 1; whnf
  exact t
 exact fun t => pk (.mk : type_of% t)
noncomputable def st24 : Stmt := by
 refine' (?a : Tg (A := Stmt) _ → _) ?d
 case d =>
  have t : Tg (top 24) := .mk
  conv at t => arg 1; whnf
  exact t
 exact fun t => pk (.mk : type_of% t)
noncomputable def st25 : Stmt := by
 refine' (?a : Tg (A := Stmt) _ → _) ?d
 case d =>
  have t : Tg (top 25) := .mk
  conv at t => arg 1; whnf
  exact t
 exact fun t => pk (.mk : type_of% t)
noncomputable def st26 : Stmt := by
 refine' (?a : Tg (A := Stmt) _ → _) ?d
 case d =>
  have t : Tg (top 26) := .mk
  conv at t => arg 1; whnf
  exact t
 exact fun t => pk (.mk : type_of% t)
noncomputable def st27 : Stmt := by
 refine' (?a : Tg (A := Stmt) _ → _) ?d
 case d =>
  have t : Tg (top 27) := .mk
  conv at t => arg 1; whnf
  exact t
 exact fun t => pk (.mk : type_of% t)
noncomputable def st28 : Stmt := by
 refine' (?a : Tg (A := Stmt) _ → _) ?d
 case d =>
  have t : Tg (top 28) := .mk
  conv at t => arg 1; whnf
  exact t
 exact fun t => pk (.mk : type_of% t)
noncomputable def st29 : Stmt := by
 refine' (?a : Tg (A := Stmt) _ → _) ?d
 case d =>
  have t : Tg (top 29) := .mk
  conv at t => arg 1; whnf
  exact t
 exact fun t => pk (.mk : type_of% t)
noncomputable def st30 : Stmt := by
 refine' (?a : Tg (A := Stmt) _ → _) ?d
 case d =>
  have t : Tg (top 30) := .mk
  conv at t => arg 1; whnf
  exact t
 exact fun t => pk (.mk : type_of% t)
noncomputable def st31 : Stmt := by
 refine' (?a : Tg (A := Stmt) _ → _) ?d
 case d =>
  have t : Tg (top 31) := .mk
  conv at t => arg 1; whnf
  exact t
 exact fun t => pk (.mk : type_of% t)
noncomputable def st32 : Stmt := by
 refine' (?a : Tg (A := Stmt) _ → _) ?d
 case d =>
  have t : Tg (top 32) := .mk
  conv at t => arg 1; whnf
  exact t
 exact fun t => pk (.mk : type_of% t)
noncomputable def st33 : Stmt := by
 refine' (?a : Tg (A := Stmt) _ → _) ?d
 case d =>
  have t : Tg (top 33) := .mk
  conv at t => arg 1; whnf
  exact t
 exact fun t => pk (.mk : type_of% t)
noncomputable def st34 : Stmt := by
 refine' (?a : Tg (A := Stmt) _ → _) ?d
 case d =>
  have t : Tg (top 34) := .mk
  conv at t => arg 1; whnf
  exact t
 exact fun t => pk (.mk : type_of% t)
noncomputable def st35 : Stmt := by
 refine' (?a : Tg (A := Stmt) _ → _) ?d
 case d =>
  have t : Tg (top 35) := .mk
  conv at t => arg 1; whnf
  exact t
 exact fun t => pk (.mk : type_of% t)
noncomputable def st36 : Stmt := by
 refine' (?a : Tg (A := Stmt) _ → _) ?d
 case d =>
  have t : Tg (top 36) := .mk
  conv at t => arg 1; whnf
  exact t
 exact fun t => pk (.mk : type_of% t)
noncomputable def st37 : Stmt := by
 refine' (?a : Tg (A := Stmt) _ → _) ?d
 case d =>
  have t : Tg (top 37) := .mk
  conv at t => arg 1; whnf
  exact t
 exact fun t => pk (.mk : type_of% t)
noncomputable def st38 : Stmt := by
 refine' (?a : Tg (A := Stmt) _ → _) ?d
 case d =>
  have t : Tg (top 38) := .mk
  conv at t => arg 1; whnf
  exact t
 exact fun t => pk (.mk : type_of% t)
noncomputable def st39 : Stmt := by
 refine' (?a : Tg (A := Stmt) _ → _) ?d
 case d =>
  have t : Tg (top 39) := .mk
  conv at t => arg 1; whnf
  exact t
 exact fun t => pk (.mk : type_of% t)
noncomputable def st40 : Stmt := by
 refine' (?a : Tg (A := Stmt) _ → _) ?d
 case d =>
  have t : Tg (top 40) := .mk
  conv at t => arg 1; whnf
  exact t
 exact fun t => pk (.mk : type_of% t)
noncomputable def st41 : Stmt := by
 refine' (?a : Tg (A := Stmt) _ → _) ?d
 case d =>
  have t : Tg (top 41) := .mk
  conv at t => arg 1; whnf
  exact t
 exact fun t => pk (.mk : type_of% t)
noncomputable def st42 : Stmt := by
 refine' (?a : Tg (A := Stmt) _ → _) ?d
 case d =>
  have t : Tg (top 42) := .mk
  conv at t => arg 1; whnf
  exact t
 exact fun t => pk (.mk : type_of% t)
noncomputable def st43 : Stmt := by
 refine' (?a : Tg (A := Stmt) _ → _) ?d
 case d =>
  have t : Tg (top 43) := .mk
  conv at t => arg 1; whnf
  exact t
 exact fun t => pk (.mk : type_of% t)
noncomputable def st44 : Stmt := by
 refine' (?a : Tg (A := Stmt) _ → _) ?d
 case d =>
  have t : Tg (top 44) := .mk
  conv at t => arg 1; whnf
  exact t
 exact fun t => pk (.mk : type_of% t)
noncomputable def st45 : Stmt := by
 refine' (?a : Tg (A := Stmt) _ → _) ?d
 case d =>
  have t : Tg (top 45) := .mk
  conv at t => arg 1; whnf
  exact t
 exact fun t => pk (.mk : type_of% t)
noncomputable def st46 : Stmt := by
 refine' (?a : Tg (A := Stmt) _ → _) ?d
 case d =>
  have t : Tg (top 46) := .mk
  conv at t => arg 1; whnf
  exact t
 exact fun t => pk (.mk : type_of% t)
noncomputable def st47 : Stmt := by
 refine' (?a : Tg (A := Stmt) _ → _) ?d
 case d =>
  have t : Tg (top 47) := .mk
  conv at t => arg 1; whnf
  exact t
 exact fun t => pk (.mk : type_of% t)
noncomputable def st48 : Stmt := by
 refine' (?a : Tg (A := Stmt) _ → _) ?d
 case d =>
  have t : Tg (top 48) := .mk
  conv at t => arg 1; whnf
  exact t
 exact fun t => pk (.mk : type_of% t)
noncomputable def st49 : Stmt := by
 refine' (?a : Tg (A := Stmt) _ → _) ?d
 case d =>
  have t : Tg (top 49) := .mk
  conv at t => arg 1; whnf
  exact t
 exact fun t => pk (.mk : type_of% t)
noncomputable def st50 : Stmt := by
 refine' (?a : Tg (A := Stmt) _ → _) ?d
 case d =>
  have t : Tg (top 50) := .mk
  conv at t => arg 1; whnf
  exact t
 exact fun t => pk (.mk : type_of% t)
noncomputable def st51 : Stmt := by
 refine' (?a : Tg (A := Stmt) _ → _) ?d
 case d =>
  have t : Tg (top 51) := .mk
  conv at t => arg 1; whnf
  exact t
 exact fun t => pk (.mk : type_of% t)
noncomputable def st52 : Stmt := by
 refine' (?a : Tg (A := Stmt) _ → _) ?d
 case d =>
  have t : Tg (top 52) := .mk
  conv at t => arg 1; whnf
  exact t
 exact fun t => pk (.mk : type_of% t)
noncomputable def st53 : Stmt := by
 refine' (?a : Tg (A := Stmt) _ → _) ?d
 case d =>
  have t : Tg (top 53) := .mk
  conv at t => arg 1; whnf
  exact t
 exact fun t => pk (.mk : type_of% t)
noncomputable def st54 : Stmt := by
 refine' (?a : Tg (A := Stmt) _ → _) ?d
 case d =>
  have t : Tg (top 54) := .mk
  conv at t => arg 1; whnf
  exact t
 exact fun t => pk (.mk : type_of% t)
noncomputable def st55 : Stmt := by
 refine' (?a : Tg (A := Stmt) _ → _) ?d
 case d =>
  have t : Tg (top 55) := .mk
  conv at t => arg 1; whnf
  exact t
 exact fun t => pk (.mk : type_of% t)
noncomputable def st56 : Stmt := by
 refine' (?a : Tg (A := Stmt) _ → _) ?d
 case d =>
  have t : Tg (top 56) := .mk
  conv at t => arg 1; whnf
  exact t
 exact fun t => pk (.mk : type_of% t)
noncomputable def st57 : Stmt := by
 refine' (?a : Tg (A := Stmt) _ → _) ?d
 case d =>
  have t : Tg (top 57) := .mk
  conv at t => arg 1; whnf
  exact t
 exact fun t => pk (.mk : type_of% t)
noncomputable def scp : Scope := by
 refine' (?a : Tg (A := Scope) _ → _) ?d
 case d =>
  have t : Tg (PySem.Challenge.pw_spotlook_k64_questions_and_answers_writt.main.scope) := .mk
  conv at t => arg 1; whnf
  exact t
 exact fun t => pk (.mk : type_of% t)
noncomputable def fil : Str := by
 refine' (?a : Tg (A := Str) _ → _) ?d
 case d =>
  have t : Tg (PySem.Challenge.pw_spotlook_k64_questions_and_answers_writt.main.file) := .mk
  conv at t => arg 1; whnf
  exact t
 exact fun t => pk (.mk : type_of% t)
noncomputable def giv : Given := by
 refine' (?a : Tg (A := Given) _ → _) ?d
 case d =>
  have t : Tg (PySem.Challenge.pw_spotlook_k64_questions_and_answers_writt.given) := .mk
  conv at t => arg 1; whnf
  exact t
 exact fun t => pk (.mk : type_of% t)
noncomputable def pw2 : Program := { main := { body := [st0, st1, st2, st3, st4, st5, st6, st7, st8, st9, st10, st11, st12, st13, st14, st15, st16, st17, st18, st19, st20, st21, st22, st23, st24, st25, st26, st27, st28, st29, st30, st31, st32, st33, st34, st35, st36, st37, st38, st39, st40, st41, st42, st43, st44, st45, st46, st47, st48, st49, st50, st51, st52, st53, st54, st55, st56, st57], scope := scp, futureAnnotations := false, file := fil, more := [] }, modules := [], parses := [], absent := [], harvested := [], given := giv }
noncomputable def vw : Program := { pw2 with main := { pw2.main with body := [st1, st2, st3, st5, st6, st7, st8, st9, st10, st11, st13, st14, st15, st16, st17, st18, st19, st20, st22, st23, st24, st25, st26, st27, st28, st30, st31, st32, st33, st34, st35, st36, st37, st38, st39, st40, st41, st42, st44, st45, st46, st47, st48, st49, st50, st51, st52, st53, st54, st55, st56, st57] } }
noncomputable def sx0 : List Stmt := [st0, st1]
noncomputable def sx1 : List Stmt := [st2]
noncomputable def sx2 : List Stmt := [st3, st4, st5, st6, st7, st8]
noncomputable def sx3 : List Stmt := [st9, st10, st11, st12, st13, st14, st15, st16, st17, st18, st19, st20, st21, st22, st23]
noncomputable def sx4 : List Stmt := [st24, st25, st26, st27, st28, st29, st30, st31, st32, st33, st34, st35, st36, st37]
noncomputable def sx5 : List Stmt := [st38, st39, st40, st41, st42, st43, st44, st45, st46, st47, st48, st49, st50]
noncomputable def sx6 : List Stmt := [st51, st52, st53, st54, st55, st56, st57]
noncomputable def en3_0 (P : Params) : List DictEntry := [hE P (Str.ofString "__doc__") 166 .none, hE P (Str.ofString "__package__") 167 .none, hE P (Str.ofString "__loader__") 168 (.builtin "__main__.__loader__#opaque"), hE P (Str.ofString "__spec__") 169 .none, hE P (Str.ofString "__annotations__") 170 (.ref 6), hE P (Str.ofString "__builtins__") 171 (.ref 4), hE P (Str.ofString "__file__") 173 (.str (Str.ofString "/claim/cut.py") 172), hE P (Str.ofString "__cached__") 174 .none]
noncomputable def en3_1 (P : Params) : List DictEntry := [hE P (Str.ofString "SpotError") 206 (.ref 24), hE P (Str.ofString "NoFraction") 222 (.ref 37), hE P (Str.ofString "NoText") 247 (.ref 56), hE P (Str.ofString "greatest_divisor") 257 (.ref 65), hE P (Str.ofString "fraction") 266 (.ref 72), hE P (Str.ofString "plus") 274 (.ref 79), hE P (Str.ofString "less") 282 (.ref 86), hE P (Str.ofString "times") 290 (.ref 93)]
noncomputable def en3_2 (P : Params) : List DictEntry := [hE P (Str.ofString "over") 298 (.ref 100), hE P (Str.ofString "is_less") 306 (.ref 107), hE P (Str.ofString "is_ahead") 316 (.ref 114), hE P (Str.ofString "later_of") 324 (.ref 121), hE P (Str.ofString "earlier_of") 332 (.ref 128), hE P (Str.ofString "own_spot") 341 (.ref 135), hE P (Str.ofString "own_wall") 348 (.ref 142), hE P (Str.ofString "gap") 356 (.ref 149)]
noncomputable def en3_3 (P : Params) : List DictEntry := [hE P (Str.ofString "lean") 374 (.ref 156), hE P (Str.ofString "side_of") 383 (.ref 163), hE P (Str.ofString "MOST_WALLS") 387 (.int 40 386), hE P (Str.ofString "meeting") 397 (.ref 170), hE P (Str.ofString "meeting_in_line") 407 (.ref 177), hE P (Str.ofString "crossing_spot") 421 (.ref 184), hE P (Str.ofString "number_between") 430 (.ref 191), hE P (Str.ofString "meet_as_in_plots") 439 (.ref 198)]
noncomputable def en3_4 (P : Params) : List DictEntry := [hE P (Str.ofString "first_crossed") 449 (.ref 205), hE P (Str.ofString "MOST_FIGURES") 453 (.int 30 452), hE P (Str.ofString "show_fraction") 462 (.ref 212), hE P (Str.ofString "show_row") 468 (.ref 217), hE P (Str.ofString "wall_rows") 474 (.ref 222), hE P (Str.ofString "show_questions") 480 (.ref 227), hE P (Str.ofString "show_answers") 486 (.ref 232), hE P (Str.ofString "read_number") 492 (.ref 237)]
noncomputable def en3_5 (P : Params) : List DictEntry := [hE P (Str.ofString "read_top") 500 (.ref 244), hE P (Str.ofString "read_fraction") 512 (.ref 251), hE P (Str.ofString "read_spots") 518 (.ref 256), hE P (Str.ofString "read_wall") 528 (.ref 263), hE P (Str.ofString "rows_of") 535 (.ref 270), hE P (Str.ofString "read_questions") 548 (.ref 277), hE P (Str.ofString "_law_cell_at") 558 (.ref 284), hE P (Str.ofString "_law_take") 568 (.ref 291)]
noncomputable def en3_6 (P : Params) : List DictEntry := [hE P (Str.ofString "_law_low") 578 (.ref 298), hE P (Str.ofString "_law_number") 589 (.ref 305), hE P (Str.ofString "_law_scale") 599 (.ref 312), hE P (Str.ofString "_law_spot") 611 (.ref 319), hE P (Str.ofString "_law_made") 617 (.ref 324), hE P (Str.ofString "_law_turn") 629 (.ref 331), hE P (Str.ofString "_law_on") 637 (.ref 338), hE P (Str.ofString "_law_fair") 643 (.ref 343)]
noncomputable def en3_7 (P : Params) : List DictEntry := [hE P (Str.ofString "_law_shuts_here") 649 (.ref 348), hE P (Str.ofString "_law_shown") 656 (.ref 355), hE P (Str.ofString "_law_rows") 662 (.ref 360), hE P (Str.ofString "law") 668 (.ref 365)]
noncomputable def en3 (P : Params) : List DictEntry := en3_0 P ++ (en3_1 P ++ (en3_2 P ++ (en3_3 P ++ (en3_4 P ++ (en3_5 P ++ (en3_6 P ++ (en3_7 P)))))))
noncomputable def fl12 : List Value := [(.int 2 0), (.int 0 0), (.ref 20), (.int 4 0), (.int 0 0), (.ref 33), (.int 6 0), (.int 0 0), (.ref 45), (.int 12 0), (.int 0 0), (.ref 64), (.int 16 0), (.int 0 0), (.ref 71), (.int 23 0), (.int 0 0), (.ref 78), (.int 25 0), (.int 0 0), (.ref 85), (.int 27 0), (.int 0 0), (.ref 92), (.int 29 0), (.int 0 0), (.ref 99), (.int 31 0), (.int 0 0), (.ref 106), (.int 34 0), (.int 0 0), (.ref 113), (.int 38 0), (.int 0 0), (.ref 120), (.int 40 0), (.int 0 0), (.ref 127), (.int 42 0), (.int 0 0), (.ref 134), (.int 45 0), (.int 0 0), (.ref 141), (.int 47 0), (.int 0 0), (.ref 148), (.int 49 0), (.int 0 0), (.ref 155), (.int 55 0), (.int 0 0), (.ref 162), (.int 64 0), (.int 0 0), (.ref 169), (.int 71 0), (.int 0 0), (.ref 176), (.int 79 0), (.int 0 0), (.ref 183), (.int 86 0), (.int 0 0), (.ref 190), (.int 88 0), (.int 0 0), (.ref 197), (.int 93 0), (.int 0 0), (.ref 204), (.int 100 0), (.int 0 0), (.ref 211), (.int 103 0), (.int 0 0), (.ref 216), (.int 105 0), (.int 0 0), (.ref 221), (.int 107 0), (.int 0 0), (.ref 226), (.int 109 0), (.int 0 0), (.ref 231), (.int 111 0), (.int 0 0), (.ref 236), (.int 117 0), (.int 0 0), (.ref 243), (.int 122 0), (.int 0 0), (.ref 250), (.int 131 0), (.int 0 0), (.ref 255), (.int 137 0), (.int 0 0), (.ref 262), (.int 145 0), (.int 0 0), (.ref 269), (.int 147 0), (.int 0 0), (.ref 276), (.int 160 0), (.int 0 0), (.ref 283), (.int 164 0), (.int 0 0), (.ref 290), (.int 173 0), (.int 0 0), (.ref 297), (.int 181 0), (.int 0 0), (.ref 304), (.int 187 0), (.int 0 0), (.ref 311), (.int 193 0), (.int 0 0), (.ref 318), (.int 196 0), (.int 0 0), (.ref 323), (.int 198 0), (.int 0 0), (.ref 330), (.int 203 0), (.int 0 0), (.ref 337), (.int 205 0), (.int 0 0), (.ref 342), (.int 215 0), (.int 0 0), (.ref 347), (.int 226 0), (.int 0 0), (.ref 354), (.int 228 0), (.int 0 0), (.ref 359), (.int 230 0), (.int 0 0), (.ref 364)]
noncomputable def hC (n : Str) (s0 s1 s2 s18 r8 r11 r13 r14 r15 i3 i4 i5 i6 i7 i10 i16 i17 : Nat) (b9 : Bool) : Obj := { cls := .type "code", data := .fields #[.str n s0, .str n s1, .str (Str.ofString "/claim/cut.py") s2, .int (Int.ofNat i3) 0, .int (Int.ofNat i4) 0, .int (Int.ofNat i5) 0, .int (Int.ofNat i6) 0, .int (Int.ofNat i7) 0, .ref r8, .bool b9, .int (Int.ofNat i10) 0, .ref r11, .none, .ref r13, .ref r14, .ref r15, .int (Int.ofNat i16) 0, .int (Int.ofNat i17) 0, .str (Str.ofString "/claim/cut.py") s18] }
noncomputable def hF (t : Value) (s : Stmt) (n : Str) (g : Nat) (m c : Value) : Obj := { cls := t, data := .func (kU s n n g m c) }
noncomputable def ob11 : Obj := kTu []
noncomputable def ob12 : Obj := { cls := .none, data := .fields (List.toArray (fl12.take 0)) }
noncomputable def ob13 : Obj := { cls := (.type "code"), data := (.fields #[(.str (Str.ofString "<module>") 182), (.str (Str.ofString "<module>") 183), (.str (Str.ofString "/claim/cut.py") 184), (.int 1 0), (.int 0 0), (.int 0 0), (.int 0 0), (.int 0 0), (.ref 11), (.bool false), (.int 181 0), (.ref 12), .none, .none, .none, .none, (.int 185 0), (.int 1 0), (.str (Str.ofString "/claim/cut.py") 186)]) }
noncomputable def ob14 : Obj := { cls := (.type "frame"), slots := #[(some (.ref 13)), (some (.ref 3)), (some (.ref 3)), none, (some (.str (Str.ofString "__main__") 164)), none, (some (.ref 0))] }
noncomputable def ob15 (P : Params) : Obj := { cls := (.type "dict"), data := .dict (List.toArray (hE P (Str.ofString "__name__") 165 (.str (Str.ofString "spotlook.errors") 187) :: (en3 P).take 9)) 10 }
noncomputable def ob16 : Obj := { cls := .none, data := .fields (List.toArray (fl12.take 3)) }
noncomputable def ob17 : Obj := kTu [(.type "ValueError")]
noncomputable def ob18 : Obj := { cls := (.type "builtin_function_or_method"), data := (.fields #[(.builtin "type.__prepare__"), (.type "type")]) }
noncomputable def ob19 (P : Params) : Obj := { cls := (.type "dict"), data := .dict (List.toArray [hE P (Str.ofString "__module__") 196 (.str (Str.ofString "spotlook.errors") 187), hE P (Str.ofString "__qualname__") 198 (.str (Str.ofString "SpotError") 197), hE P (Str.ofString "__firstlineno__") 200 (.int 2 199), hE P (Str.ofString "__static_attributes__") 201 (.ref 22)]) 4 }
noncomputable def ob20 : Obj := { cls := (.type "code"), data := (.fields #[(.str (Str.ofString "SpotError") 191), (.str (Str.ofString "SpotError") 192), (.str (Str.ofString "/claim/cut.py") 193), (.int 2 0), (.int 0 0), (.int 0 0), (.int 0 0), (.int 0 0), (.ref 18), (.bool false), (.int 181 0), (.ref 19), .none, .none, .none, .none, (.int 194 0), (.int 2 0), (.str (Str.ofString "/claim/cut.py") 195)]) }
noncomputable def ob21 : Obj := { cls := (.type "frame"), slots := #[(some (.ref 20)), (some (.ref 3)), (some (.ref 17)), none, (some (.str (Str.ofString "spotlook.errors") 187)), none, (some (.ref 0))] }
noncomputable def ob22 (P : Params) : Obj := { cls := (.type "dict"), data := .dict (List.toArray [hE P (Str.ofString "__module__") 196 (.str (Str.ofString "spotlook.errors") 187), hE P (Str.ofString "__firstlineno__") 200 (.int 2 199), hE P (Str.ofString "__static_attributes__") 201 (.ref 22), hE P (Str.ofString "__weakref__") 203 (.ref 25), hE P (Str.ofString "__doc__") 204 .none]) 3 }
noncomputable def ob23 : Obj := { cls := (.type "type"), data := (.cls { name := (Str.ofString "SpotError"), bases := [(.type "ValueError")], mro := [(.ref 24), (.type "ValueError"), (.type "Exception"), (.type "BaseException"), (.type "object")], ns := 23, qualname := (Str.ofString "SpotError"), hasDict := true, slotNames := [], subclasses := [], abstract := false, collection := none, hasDel := false }), slots := #[(some (.ref 15)), none, (some (.str (Str.ofString "SpotError") 189)), (some (.str (Str.ofString "SpotError") 197)), (some (.builtin "ValueError.__new__")), (some (.bool true))] }
noncomputable def ob24 : Obj := { cls := (.type "getset_descriptor"), data := (.fields #[(.str (Str.ofString "__weakref__") 202), (.ref 24), (.builtin "ExceptionGroup.__weakref__"), .none]) }
noncomputable def ob25 : Obj := { cls := (.type "super"), data := (.fields #[(.ref 24), (.ref 24), (.ref 24)]) }
noncomputable def ob26 : Obj := { cls := (.type "builtin_function_or_method"), data := (.fields #[(.builtin "object.__init_subclass__"), (.ref 24)]) }
noncomputable def ob27 (P : Params) : Obj := { cls := (.type "dict"), data := .dict (List.toArray (hE P (Str.ofString "__name__") 165 (.str (Str.ofString "spotlook.errors") 187) :: (en3 P).take 10)) 11 }
noncomputable def ob28 : Obj := { cls := .none, data := .fields (List.toArray (fl12.take 6)) }
noncomputable def ob29 : Obj := { cls := (.type "type"), data := (.cls { name := (Str.ofString "SpotError"), bases := [(.type "ValueError")], mro := [(.ref 24), (.type "ValueError"), (.type "Exception"), (.type "BaseException"), (.type "object")], ns := 23, qualname := (Str.ofString "SpotError"), hasDict := true, slotNames := [], subclasses := [(.ref 37)], abstract := false, collection := none, hasDel := false }), slots := #[(some (.ref 15)), none, (some (.str (Str.ofString "SpotError") 189)), (some (.str (Str.ofString "SpotError") 197)), (some (.builtin "ValueError.__new__")), (some (.bool true))] }
noncomputable def ob30 : Obj := kTu [(.ref 24)]
noncomputable def ob31 (P : Params) : Obj := { cls := (.type "dict"), data := .dict (List.toArray [hE P (Str.ofString "__module__") 214 (.str (Str.ofString "spotlook.errors") 187), hE P (Str.ofString "__qualname__") 216 (.str (Str.ofString "NoFraction") 215), hE P (Str.ofString "__firstlineno__") 218 (.int 4 217), hE P (Str.ofString "__static_attributes__") 219 (.ref 35)]) 4 }
noncomputable def ob32 : Obj := { cls := (.type "code"), data := (.fields #[(.str (Str.ofString "NoFraction") 209), (.str (Str.ofString "NoFraction") 210), (.str (Str.ofString "/claim/cut.py") 211), (.int 4 0), (.int 0 0), (.int 0 0), (.int 0 0), (.int 0 0), (.ref 31), (.bool false), (.int 181 0), (.ref 32), .none, .none, .none, .none, (.int 212 0), (.int 4 0), (.str (Str.ofString "/claim/cut.py") 213)]) }
noncomputable def ob33 : Obj := { cls := (.type "frame"), slots := #[(some (.ref 33)), (some (.ref 3)), (some (.ref 30)), none, (some (.str (Str.ofString "spotlook.errors") 187)), none, (some (.ref 0))] }
noncomputable def ob34 (P : Params) : Obj := { cls := (.type "dict"), data := .dict (List.toArray [hE P (Str.ofString "__module__") 214 (.str (Str.ofString "spotlook.errors") 187), hE P (Str.ofString "__firstlineno__") 218 (.int 4 217), hE P (Str.ofString "__static_attributes__") 219 (.ref 35), hE P (Str.ofString "__doc__") 220 .none]) 2 }
noncomputable def ob35 : Obj := { cls := (.type "type"), data := (.cls { name := (Str.ofString "NoFraction"), bases := [(.ref 24)], mro := [(.ref 37), (.ref 24), (.type "ValueError"), (.type "Exception"), (.type "BaseException"), (.type "object")], ns := 36, qualname := (Str.ofString "NoFraction"), hasDict := true, slotNames := [], subclasses := [], abstract := false, collection := none, hasDel := false }), slots := #[(some (.ref 28)), none, (some (.str (Str.ofString "NoFraction") 207)), (some (.str (Str.ofString "NoFraction") 215)), (some (.builtin "ValueError.__new__")), (some (.bool true))] }
noncomputable def ob36 : Obj := { cls := (.type "super"), data := (.fields #[(.ref 37), (.ref 37), (.ref 37)]) }
noncomputable def ob37 : Obj := { cls := (.type "builtin_function_or_method"), data := (.fields #[(.builtin "object.__init_subclass__"), (.ref 37)]) }
noncomputable def ob38 (P : Params) : Obj := { cls := (.type "dict"), data := .dict (List.toArray (hE P (Str.ofString "__name__") 165 (.str (Str.ofString "spotlook.fractions") 248) :: (en3 P).take 15)) 16 }
noncomputable def ob39 : Obj := { cls := .none, data := .fields (List.toArray (fl12.take 21)) }
noncomputable def ob40 : Obj := { cls := (.type "type"), data := (.cls { name := (Str.ofString "SpotError"), bases := [(.type "ValueError")], mro := [(.ref 24), (.type "ValueError"), (.type "Exception"), (.type "BaseException"), (.type "object")], ns := 23, qualname := (Str.ofString "SpotError"), hasDict := true, slotNames := [], subclasses := [(.ref 37), (.ref 56)], abstract := false, collection := none, hasDel := false }), slots := #[(some (.ref 15)), none, (some (.str (Str.ofString "SpotError") 189)), (some (.str (Str.ofString "SpotError") 197)), (some (.builtin "ValueError.__new__")), (some (.bool true))] }
noncomputable def ob41 (P : Params) : Obj := { cls := (.type "dict"), data := .dict (List.toArray [hE P (Str.ofString "__module__") 230 (.str (Str.ofString "spotlook.errors") 187), hE P (Str.ofString "__qualname__") 232 (.str (Str.ofString "NoText") 231), hE P (Str.ofString "__firstlineno__") 234 (.int 6 233), hE P (Str.ofString "__init__") 242 (.ref 53), hE P (Str.ofString "__static_attributes__") 244 (.ref 54)]) 5 }
noncomputable def ob42 : Obj := kFd [(.int 8 0), (.int 4 0), (.ref 52)]
noncomputable def ob43 : Obj := { cls := (.type "code"), data := (.fields #[(.str (Str.ofString "NoText") 225), (.str (Str.ofString "NoText") 226), (.str (Str.ofString "/claim/cut.py") 227), (.int 6 0), (.int 0 0), (.int 0 0), (.int 0 0), (.int 0 0), (.ref 43), (.bool false), (.int 181 0), (.ref 44), .none, .none, .none, .none, (.int 228 0), (.int 6 0), (.str (Str.ofString "/claim/cut.py") 229)]) }
noncomputable def ob44 : Obj := { cls := (.type "frame"), slots := #[(some (.ref 45)), (some (.ref 3)), (some (.ref 42)), none, (some (.str (Str.ofString "spotlook.errors") 187)), none, (some (.ref 0))] }
noncomputable def ob45 : Obj := kTu [(.str (Str.ofString "self") 238), (.str (Str.ofString "row") 239)]
noncomputable def ob46 : Obj := { cls := .none, data := (.func (kU (kC st3 0) (Str.ofString "__init__") (Str.ofString "NoText.__init__") 0 .none .none)) }
noncomputable def ob47 : Obj := { cls := (.type "code"), data := (.fields #[(.str (Str.ofString "__init__") 235), (.str (Str.ofString "NoText.__init__") 236), (.str (Str.ofString "/claim/cut.py") 237), (.int 8 0), (.int 2 0), (.int 0 0), (.int 0 0), (.int 3 0), (.ref 47), (.bool true), (.int 181 0), (.ref 48), .none, (.ref 49), (.ref 50), (.ref 51), (.int 240 0), (.int 8 0), (.str (Str.ofString "/claim/cut.py") 241)]) }
noncomputable def ob48 : Obj := { cls := (.type "function"), data := (.func (kU (kC st3 0) (Str.ofString "__init__") (Str.ofString "NoText.__init__") 3 (.str (Str.ofString "spotlook.errors") 187) (.ref 52))) }
noncomputable def ob49 : Obj := kTu [(.str (Str.ofString "row") 243)]
noncomputable def ob50 (P : Params) : Obj := { cls := (.type "dict"), data := .dict (List.toArray [hE P (Str.ofString "__module__") 230 (.str (Str.ofString "spotlook.errors") 187), hE P (Str.ofString "__firstlineno__") 234 (.int 6 233), hE P (Str.ofString "__init__") 242 (.ref 53), hE P (Str.ofString "__static_attributes__") 244 (.ref 54), hE P (Str.ofString "__doc__") 245 .none]) 2 }
noncomputable def ob51 : Obj := { cls := (.type "type"), data := (.cls { name := (Str.ofString "NoText"), bases := [(.ref 24)], mro := [(.ref 56), (.ref 24), (.type "ValueError"), (.type "Exception"), (.type "BaseException"), (.type "object")], ns := 55, qualname := (Str.ofString "NoText"), hasDict := true, slotNames := [], subclasses := [], abstract := false, collection := none, hasDel := false }), slots := #[(some (.ref 40)), none, (some (.str (Str.ofString "NoText") 223)), (some (.str (Str.ofString "NoText") 231)), (some (.builtin "ValueError.__new__")), (some (.bool true))] }
noncomputable def ob52 : Obj := { cls := (.type "super"), data := (.fields #[(.ref 56), (.ref 56), (.ref 56)]) }
noncomputable def ob53 : Obj := { cls := (.type "builtin_function_or_method"), data := (.fields #[(.builtin "object.__init_subclass__"), (.ref 56)]) }
noncomputable def ob54 : Obj := kTu [(.str (Str.ofString "one") 253), (.str (Str.ofString "other") 254)]
noncomputable def ob55 : Obj := hF .none st5 (Str.ofString "greatest_divisor") 0 .none .none
noncomputable def ob56 : Obj := hC (Str.ofString "greatest_divisor") 250 251 252 256 59 60 61 62 63 12 2 0 0 3 181 255 12 true
noncomputable def ob57 : Obj := hF (.type "function") st5 (Str.ofString "greatest_divisor") 3 (.str (Str.ofString "spotlook.fractions") 248) (.ref 64)
noncomputable def ob58 : Obj := kTu [(.str (Str.ofString "top") 261), (.str (Str.ofString "bottom") 262), (.str (Str.ofString "divisor") 263)]
noncomputable def ob59 : Obj := hF .none st6 (Str.ofString "fraction") 0 .none .none
noncomputable def ob60 : Obj := hC (Str.ofString "fraction") 258 259 260 265 66 67 68 69 70 16 2 0 0 3 181 264 16 true
noncomputable def ob61 : Obj := hF (.type "function") st6 (Str.ofString "fraction") 3 (.str (Str.ofString "spotlook.fractions") 248) (.ref 71)
noncomputable def ob62 : Obj := kTu [(.str (Str.ofString "one") 270), (.str (Str.ofString "other") 271)]
noncomputable def ob63 : Obj := hF .none st7 (Str.ofString "plus") 0 .none .none
noncomputable def ob64 : Obj := hC (Str.ofString "plus") 267 268 269 273 73 74 75 76 77 23 2 0 0 3 181 272 23 true
noncomputable def ob65 : Obj := hF (.type "function") st7 (Str.ofString "plus") 3 (.str (Str.ofString "spotlook.fractions") 248) (.ref 78)
noncomputable def ob66 : Obj := kTu [(.str (Str.ofString "one") 278), (.str (Str.ofString "other") 279)]
noncomputable def ob67 : Obj := hF .none st8 (Str.ofString "less") 0 .none .none
noncomputable def ob68 : Obj := hC (Str.ofString "less") 275 276 277 281 80 81 82 83 84 25 2 0 0 3 181 280 25 true
noncomputable def ob69 : Obj := hF (.type "function") st8 (Str.ofString "less") 3 (.str (Str.ofString "spotlook.fractions") 248) (.ref 85)
noncomputable def ob70 (P : Params) : Obj := { cls := (.type "dict"), data := .dict (List.toArray (hE P (Str.ofString "__name__") 165 (.str (Str.ofString "spotlook.plots") 384) :: (en3 P).take 28)) 29 }
noncomputable def ob71 : Obj := { cls := .none, data := .fields (List.toArray (fl12.take 57)) }
noncomputable def ob72 : Obj := kTu [(.str (Str.ofString "one") 286), (.str (Str.ofString "other") 287)]
noncomputable def ob73 : Obj := hF .none st9 (Str.ofString "times") 0 .none .none
noncomputable def ob74 : Obj := hC (Str.ofString "times") 283 284 285 289 87 88 89 90 91 27 2 0 0 3 181 288 27 true
noncomputable def ob75 : Obj := hF (.type "function") st9 (Str.ofString "times") 3 (.str (Str.ofString "spotlook.fractions") 248) (.ref 92)
noncomputable def ob76 : Obj := kTu [(.str (Str.ofString "one") 294), (.str (Str.ofString "other") 295)]
noncomputable def ob77 : Obj := hF .none st10 (Str.ofString "over") 0 .none .none
noncomputable def ob78 : Obj := hC (Str.ofString "over") 291 292 293 297 94 95 96 97 98 29 2 0 0 3 181 296 29 true
noncomputable def ob79 : Obj := hF (.type "function") st10 (Str.ofString "over") 3 (.str (Str.ofString "spotlook.fractions") 248) (.ref 99)
noncomputable def ob80 : Obj := kTu [(.str (Str.ofString "one") 302), (.str (Str.ofString "other") 303)]
noncomputable def ob81 : Obj := hF .none st11 (Str.ofString "is_less") 0 .none .none
noncomputable def ob82 : Obj := hC (Str.ofString "is_less") 299 300 301 305 101 102 103 104 105 31 2 0 0 3 181 304 31 true
noncomputable def ob83 : Obj := hF (.type "function") st11 (Str.ofString "is_less") 3 (.str (Str.ofString "spotlook.fractions") 248) (.ref 106)
noncomputable def ob84 : Obj := kTu [(.str (Str.ofString "one") 312), (.str (Str.ofString "other") 313)]
noncomputable def ob85 : Obj := hF .none st13 (Str.ofString "is_ahead") 0 .none .none
noncomputable def ob86 : Obj := hC (Str.ofString "is_ahead") 309 310 311 315 108 109 110 111 112 34 2 0 0 3 181 314 34 true
noncomputable def ob87 : Obj := hF (.type "function") st13 (Str.ofString "is_ahead") 3 (.str (Str.ofString "spotlook.spots") 307) (.ref 113)
noncomputable def ob88 : Obj := kTu [(.str (Str.ofString "one") 320), (.str (Str.ofString "other") 321)]
noncomputable def ob89 : Obj := hF .none st14 (Str.ofString "later_of") 0 .none .none
noncomputable def ob90 : Obj := hC (Str.ofString "later_of") 317 318 319 323 115 116 117 118 119 38 2 0 0 3 181 322 38 true
noncomputable def ob91 : Obj := hF (.type "function") st14 (Str.ofString "later_of") 3 (.str (Str.ofString "spotlook.spots") 307) (.ref 120)
noncomputable def ob92 : Obj := kTu [(.str (Str.ofString "one") 328), (.str (Str.ofString "other") 329)]
noncomputable def ob93 : Obj := hF .none st15 (Str.ofString "earlier_of") 0 .none .none
noncomputable def ob94 : Obj := hC (Str.ofString "earlier_of") 325 326 327 331 122 123 124 125 126 40 2 0 0 3 181 330 40 true
noncomputable def ob95 : Obj := hF (.type "function") st15 (Str.ofString "earlier_of") 3 (.str (Str.ofString "spotlook.spots") 307) (.ref 127)
noncomputable def ob96 : Obj := kTu [(.str (Str.ofString "spot") 336), (.str (Str.ofString "x") 337), (.str (Str.ofString "y") 338)]
noncomputable def ob97 : Obj := hF .none st16 (Str.ofString "own_spot") 0 .none .none
noncomputable def ob98 : Obj := hC (Str.ofString "own_spot") 333 334 335 340 129 130 131 132 133 42 1 0 0 3 181 339 42 true
noncomputable def ob99 : Obj := hF (.type "function") st16 (Str.ofString "own_spot") 3 (.str (Str.ofString "spotlook.spots") 307) (.ref 134)
noncomputable def ob100 : Obj := kTu [(.str (Str.ofString "wall") 345)]
noncomputable def ob101 : Obj := hF .none st17 (Str.ofString "own_wall") 0 .none .none
noncomputable def ob102 : Obj := hC (Str.ofString "own_wall") 342 343 344 347 136 137 138 139 140 45 1 0 0 3 181 346 45 true
noncomputable def ob103 : Obj := hF (.type "function") st17 (Str.ofString "own_wall") 3 (.str (Str.ofString "spotlook.spots") 307) (.ref 141)
noncomputable def ob104 : Obj := kTu [(.str (Str.ofString "one") 352), (.str (Str.ofString "other") 353)]
noncomputable def ob105 : Obj := hF .none st18 (Str.ofString "gap") 0 .none .none
noncomputable def ob106 : Obj := hC (Str.ofString "gap") 349 350 351 355 143 144 145 146 147 47 2 0 0 3 181 354 47 true
noncomputable def ob107 : Obj := hF (.type "function") st18 (Str.ofString "gap") 3 (.str (Str.ofString "spotlook.spots") 307) (.ref 148)
noncomputable def ob108 : Obj := kTu [(.str (Str.ofString "wall") 360), (.str (Str.ofString "spot") 361), (.str (Str.ofString "a") 362), (.str (Str.ofString "b") 363), (.str (Str.ofString "c") 364), (.str (Str.ofString "d") 365), (.str (Str.ofString "x") 366), (.str (Str.ofString "y") 367), (.str (Str.ofString "across") 368), (.str (Str.ofString "up") 369), (.str (Str.ofString "along") 370), (.str (Str.ofString "high") 371)]
noncomputable def ob109 : Obj := hF .none st19 (Str.ofString "lean") 0 .none .none
noncomputable def ob110 : Obj := hC (Str.ofString "lean") 357 358 359 373 150 151 152 153 154 49 2 0 0 3 181 372 49 true
noncomputable def ob111 : Obj := hF (.type "function") st19 (Str.ofString "lean") 3 (.str (Str.ofString "spotlook.spots") 307) (.ref 155)
noncomputable def ob112 : Obj := kTu [(.str (Str.ofString "wall") 378), (.str (Str.ofString "spot") 379), (.str (Str.ofString "top") 380)]
noncomputable def ob113 : Obj := hF .none st20 (Str.ofString "side_of") 0 .none .none
noncomputable def ob114 : Obj := hC (Str.ofString "side_of") 375 376 377 382 157 158 159 160 161 55 2 0 0 3 181 381 55 true
noncomputable def ob115 : Obj := hF (.type "function") st20 (Str.ofString "side_of") 3 (.str (Str.ofString "spotlook.spots") 307) (.ref 162)
noncomputable def ob116 : Obj := kTu [(.str (Str.ofString "one") 391), (.str (Str.ofString "other") 392), (.str (Str.ofString "first_side") 393), (.str (Str.ofString "second_side") 394)]
noncomputable def ob117 : Obj := hF .none st23 (Str.ofString "meeting") 0 .none .none
noncomputable def ob118 : Obj := hC (Str.ofString "meeting") 388 389 390 396 164 165 166 167 168 64 2 0 0 3 181 395 64 true
noncomputable def ob119 : Obj := hF (.type "function") st23 (Str.ofString "meeting") 3 (.str (Str.ofString "spotlook.plots") 384) (.ref 169)
noncomputable def ob120 (P : Params) : Obj := { cls := (.type "dict"), data := .dict (List.toArray (hE P (Str.ofString "__name__") 165 (.str (Str.ofString "spotlook.texts") 450) :: (en3 P).take 41)) 42 }
noncomputable def ob121 : Obj := { cls := .none, data := .fields (List.toArray (fl12.take 93)) }
noncomputable def ob122 : Obj := kTu [(.str (Str.ofString "one") 401), (.str (Str.ofString "other") 402), (.str (Str.ofString "start") 403), (.str (Str.ofString "end") 404)]
noncomputable def ob123 : Obj := hF .none st24 (Str.ofString "meeting_in_line") 0 .none .none
noncomputable def ob124 : Obj := hC (Str.ofString "meeting_in_line") 398 399 400 406 171 172 173 174 175 71 2 0 0 3 181 405 71 true
noncomputable def ob125 : Obj := hF (.type "function") st24 (Str.ofString "meeting_in_line") 3 (.str (Str.ofString "spotlook.plots") 384) (.ref 176)
noncomputable def ob126 : Obj := kTu [(.str (Str.ofString "one") 411), (.str (Str.ofString "other") 412), (.str (Str.ofString "start") 413), (.str (Str.ofString "end") 414), (.str (Str.ofString "top") 415), (.str (Str.ofString "bottom") 416), (.str (Str.ofString "from_start") 417), (.str (Str.ofString "share") 418)]
noncomputable def ob127 : Obj := hF .none st25 (Str.ofString "crossing_spot") 0 .none .none
noncomputable def ob128 : Obj := hC (Str.ofString "crossing_spot") 408 409 410 420 178 179 180 181 182 79 2 0 0 3 181 419 79 true
noncomputable def ob129 : Obj := hF (.type "function") st25 (Str.ofString "crossing_spot") 3 (.str (Str.ofString "spotlook.plots") 384) (.ref 183)
noncomputable def ob130 : Obj := kTu [(.str (Str.ofString "start") 425), (.str (Str.ofString "end") 426), (.str (Str.ofString "share") 427)]
noncomputable def ob131 : Obj := hF .none st26 (Str.ofString "number_between") 0 .none .none
noncomputable def ob132 : Obj := hC (Str.ofString "number_between") 422 423 424 429 185 186 187 188 189 86 3 0 0 3 181 428 86 true
noncomputable def ob133 : Obj := hF (.type "function") st26 (Str.ofString "number_between") 3 (.str (Str.ofString "spotlook.plots") 384) (.ref 190)
noncomputable def ob134 : Obj := kTu [(.str (Str.ofString "one") 434), (.str (Str.ofString "other") 435), (.str (Str.ofString "met") 436)]
noncomputable def ob135 : Obj := hF .none st27 (Str.ofString "meet_as_in_plots") 0 .none .none
noncomputable def ob136 : Obj := hC (Str.ofString "meet_as_in_plots") 431 432 433 438 192 193 194 195 196 88 2 0 0 3 181 437 88 true
noncomputable def ob137 : Obj := hF (.type "function") st27 (Str.ofString "meet_as_in_plots") 3 (.str (Str.ofString "spotlook.plots") 384) (.ref 197)
noncomputable def ob138 : Obj := kTu [(.str (Str.ofString "walls") 443), (.str (Str.ofString "wall") 444), (.str (Str.ofString "number") 445), (.str (Str.ofString "other") 446)]
noncomputable def ob139 : Obj := hF .none st28 (Str.ofString "first_crossed") 0 .none .none
noncomputable def ob140 : Obj := hC (Str.ofString "first_crossed") 440 441 442 448 199 200 201 202 203 93 2 0 0 3 181 447 93 true
noncomputable def ob141 : Obj := hF (.type "function") st28 (Str.ofString "first_crossed") 3 (.str (Str.ofString "spotlook.plots") 384) (.ref 204)
noncomputable def ob142 : Obj := kTu [(.str (Str.ofString "one") 457), (.str (Str.ofString "top") 458), (.str (Str.ofString "bottom") 459)]
noncomputable def ob143 : Obj := hF .none st31 (Str.ofString "show_fraction") 0 .none .none
noncomputable def ob144 : Obj := hC (Str.ofString "show_fraction") 454 455 456 461 206 207 208 209 210 100 1 0 0 3 181 460 100 true
noncomputable def ob145 : Obj := hF (.type "function") st31 (Str.ofString "show_fraction") 3 (.str (Str.ofString "spotlook.texts") 450) (.ref 211)
noncomputable def ob146 : Obj := hF .none st32 (Str.ofString "show_row") 0 .none .none
noncomputable def ob147 : Obj := { cls := (.type "code"), data := (.fields #[(.str (Str.ofString "show_row") 463), (.str (Str.ofString "show_row") 464), (.str (Str.ofString "/claim/cut.py") 465), (.int 103 0), (.int 2 0), (.int 0 0), (.int 0 0), (.int 3 0), (.ref 213), (.bool true), (.int 181 0), (.ref 214), .none, .none, .none, (.ref 215), (.int 466 0), (.int 103 0), (.str (Str.ofString "/claim/cut.py") 467)]) }
noncomputable def ob148 : Obj := hF (.type "function") st32 (Str.ofString "show_row") 3 (.str (Str.ofString "spotlook.texts") 450) (.ref 216)
noncomputable def ob149 : Obj := hF .none st33 (Str.ofString "wall_rows") 0 .none .none
noncomputable def ob150 : Obj := { cls := (.type "code"), data := (.fields #[(.str (Str.ofString "wall_rows") 469), (.str (Str.ofString "wall_rows") 470), (.str (Str.ofString "/claim/cut.py") 471), (.int 105 0), (.int 1 0), (.int 0 0), (.int 0 0), (.int 3 0), (.ref 218), (.bool true), (.int 181 0), (.ref 219), .none, .none, .none, (.ref 220), (.int 472 0), (.int 105 0), (.str (Str.ofString "/claim/cut.py") 473)]) }
noncomputable def ob151 : Obj := hF (.type "function") st33 (Str.ofString "wall_rows") 3 (.str (Str.ofString "spotlook.texts") 450) (.ref 221)
noncomputable def ob152 : Obj := hF .none st34 (Str.ofString "show_questions") 0 .none .none
noncomputable def ob153 : Obj := { cls := (.type "code"), data := (.fields #[(.str (Str.ofString "show_questions") 475), (.str (Str.ofString "show_questions") 476), (.str (Str.ofString "/claim/cut.py") 477), (.int 107 0), (.int 2 0), (.int 0 0), (.int 0 0), (.int 3 0), (.ref 223), (.bool true), (.int 181 0), (.ref 224), .none, .none, .none, (.ref 225), (.int 478 0), (.int 107 0), (.str (Str.ofString "/claim/cut.py") 479)]) }
noncomputable def ob154 : Obj := hF (.type "function") st34 (Str.ofString "show_questions") 3 (.str (Str.ofString "spotlook.texts") 450) (.ref 226)
noncomputable def ob155 : Obj := hF .none st35 (Str.ofString "show_answers") 0 .none .none
noncomputable def ob156 : Obj := { cls := (.type "code"), data := (.fields #[(.str (Str.ofString "show_answers") 481), (.str (Str.ofString "show_answers") 482), (.str (Str.ofString "/claim/cut.py") 483), (.int 109 0), (.int 1 0), (.int 0 0), (.int 0 0), (.int 3 0), (.ref 228), (.bool true), (.int 181 0), (.ref 229), .none, .none, .none, (.ref 230), (.int 484 0), (.int 109 0), (.str (Str.ofString "/claim/cut.py") 485)]) }
noncomputable def ob157 : Obj := hF (.type "function") st35 (Str.ofString "show_answers") 3 (.str (Str.ofString "spotlook.texts") 450) (.ref 231)
noncomputable def ob158 : Obj := hF .none st36 (Str.ofString "read_number") 0 .none .none
noncomputable def ob159 : Obj := { cls := (.type "code"), data := (.fields #[(.str (Str.ofString "read_number") 487), (.str (Str.ofString "read_number") 488), (.str (Str.ofString "/claim/cut.py") 489), (.int 111 0), (.int 1 0), (.int 0 0), (.int 0 0), (.int 3 0), (.ref 233), (.bool true), (.int 181 0), (.ref 234), .none, .none, .none, (.ref 235), (.int 490 0), (.int 111 0), (.str (Str.ofString "/claim/cut.py") 491)]) }
noncomputable def ob160 : Obj := hF (.type "function") st36 (Str.ofString "read_number") 3 (.str (Str.ofString "spotlook.texts") 450) (.ref 236)
noncomputable def ob161 : Obj := kTu [(.str (Str.ofString "text") 496), (.str (Str.ofString "number") 497)]
noncomputable def ob162 : Obj := hF .none st37 (Str.ofString "read_top") 0 .none .none
noncomputable def ob163 : Obj := hC (Str.ofString "read_top") 493 494 495 499 238 239 240 241 242 117 1 0 0 3 181 498 117 true
noncomputable def ob164 : Obj := hF (.type "function") st37 (Str.ofString "read_top") 3 (.str (Str.ofString "spotlook.texts") 450) (.ref 243)
noncomputable def ob165 (P : Params) : Obj := { cls := (.type "dict"), data := .dict (List.toArray (hE P (Str.ofString "__name__") 165 (.str (Str.ofString "law_spotlook_k64_questions_and_answers_writt") 549) :: (en3 P).take 53)) 54 }
noncomputable def ob166 : Obj := { cls := .none, data := .fields (List.toArray (fl12.take 129)) }
noncomputable def ob167 : Obj := kTu [(.str (Str.ofString "text") 504), (.str (Str.ofString "top_text") 505), (.str (Str.ofString "stroke") 506), (.str (Str.ofString "bottom_text") 507), (.str (Str.ofString "top") 508), (.str (Str.ofString "bottom") 509)]
noncomputable def ob168 : Obj := hF .none st38 (Str.ofString "read_fraction") 0 .none .none
noncomputable def ob169 : Obj := hC (Str.ofString "read_fraction") 501 502 503 511 245 246 247 248 249 122 1 0 0 3 181 510 122 true
noncomputable def ob170 : Obj := hF (.type "function") st38 (Str.ofString "read_fraction") 3 (.str (Str.ofString "spotlook.texts") 450) (.ref 250)
noncomputable def ob171 : Obj := hF .none st39 (Str.ofString "read_spots") 0 .none .none
noncomputable def ob172 : Obj := { cls := (.type "code"), data := (.fields #[(.str (Str.ofString "read_spots") 513), (.str (Str.ofString "read_spots") 514), (.str (Str.ofString "/claim/cut.py") 515), (.int 131 0), (.int 3 0), (.int 0 0), (.int 0 0), (.int 3 0), (.ref 252), (.bool true), (.int 181 0), (.ref 253), .none, .none, .none, (.ref 254), (.int 516 0), (.int 131 0), (.str (Str.ofString "/claim/cut.py") 517)]) }
noncomputable def ob173 : Obj := hF (.type "function") st39 (Str.ofString "read_spots") 3 (.str (Str.ofString "spotlook.texts") 450) (.ref 255)
noncomputable def ob174 : Obj := kTu [(.str (Str.ofString "row") 522), (.str (Str.ofString "walls") 523), (.str (Str.ofString "spots") 524), (.str (Str.ofString "wall") 525)]
noncomputable def ob175 : Obj := hF .none st40 (Str.ofString "read_wall") 0 .none .none
noncomputable def ob176 : Obj := hC (Str.ofString "read_wall") 519 520 521 527 257 258 259 260 261 137 2 0 0 3 181 526 137 true
noncomputable def ob177 : Obj := hF (.type "function") st40 (Str.ofString "read_wall") 3 (.str (Str.ofString "spotlook.texts") 450) (.ref 262)
noncomputable def ob178 : Obj := kTu [(.str (Str.ofString "text") 532)]
noncomputable def ob179 : Obj := hF .none st41 (Str.ofString "rows_of") 0 .none .none
noncomputable def ob180 : Obj := hC (Str.ofString "rows_of") 529 530 531 534 264 265 266 267 268 145 1 0 0 3 181 533 145 true
noncomputable def ob181 : Obj := hF (.type "function") st41 (Str.ofString "rows_of") 3 (.str (Str.ofString "spotlook.texts") 450) (.ref 269)
noncomputable def ob182 : Obj := kTu [(.str (Str.ofString "text") 539), (.str (Str.ofString "walls") 540), (.str (Str.ofString "spots") 541), (.str (Str.ofString "at") 542), (.str (Str.ofString "row") 543), (.str (Str.ofString "asked") 544), (.str (Str.ofString "wall") 545)]
noncomputable def ob183 : Obj := hF .none st42 (Str.ofString "read_questions") 0 .none .none
noncomputable def ob184 : Obj := hC (Str.ofString "read_questions") 536 537 538 547 271 272 273 274 275 147 1 0 0 3 181 546 147 true
noncomputable def ob185 : Obj := hF (.type "function") st42 (Str.ofString "read_questions") 3 (.str (Str.ofString "spotlook.texts") 450) (.ref 276)
noncomputable def ob186 : Obj := kTu [(.str (Str.ofString "_law_script") 554), (.str (Str.ofString "_law_k") 555)]
noncomputable def ob187 : Obj := hF .none st44 (Str.ofString "_law_cell_at") 0 .none .none
noncomputable def ob188 : Obj := hC (Str.ofString "_law_cell_at") 551 552 553 557 278 279 280 281 282 160 2 0 0 3 181 556 160 true
noncomputable def ob189 : Obj := hF (.type "function") st44 (Str.ofString "_law_cell_at") 3 (.str (Str.ofString "law_spotlook_k64_questions_and_answers_writt") 549) (.ref 283)
noncomputable def ob190 : Obj := kTu [(.str (Str.ofString "_law_row") 562), (.str (Str.ofString "_law_base") 563), (.str (Str.ofString "_law_rest") 564), (.str (Str.ofString "_law_number_here") 565)]
noncomputable def ob191 : Obj := hF .none st45 (Str.ofString "_law_take") 0 .none .none
noncomputable def ob192 : Obj := hC (Str.ofString "_law_take") 559 560 561 567 285 286 287 288 289 164 2 0 0 3 181 566 164 true
noncomputable def ob193 : Obj := hF (.type "function") st45 (Str.ofString "_law_take") 3 (.str (Str.ofString "law_spotlook_k64_questions_and_answers_writt") 549) (.ref 290)
noncomputable def ob194 : Obj := kTu [(.str (Str.ofString "_law_top") 572), (.str (Str.ofString "_law_bottom") 573), (.str (Str.ofString "_law_one") 574), (.str (Str.ofString "_law_other") 575)]
noncomputable def ob195 : Obj := hF .none st46 (Str.ofString "_law_low") 0 .none .none
noncomputable def ob196 : Obj := hC (Str.ofString "_law_low") 569 570 571 577 292 293 294 295 296 173 2 0 0 3 181 576 173 true
noncomputable def ob197 : Obj := hF (.type "function") st46 (Str.ofString "_law_low") 3 (.str (Str.ofString "law_spotlook_k64_questions_and_answers_writt") 549) (.ref 297)
noncomputable def ob198 : Obj := kTu [(.str (Str.ofString "_law_row") 582), (.str (Str.ofString "_law_kind") 583), (.str (Str.ofString "_law_most") 584), (.str (Str.ofString "_law_bottom") 585), (.str (Str.ofString "_law_top") 586)]
noncomputable def ob199 : Obj := hF .none st47 (Str.ofString "_law_number") 0 .none .none
noncomputable def ob200 : Obj := hC (Str.ofString "_law_number") 579 580 581 588 299 300 301 302 303 181 1 0 0 3 181 587 181 true
noncomputable def ob201 : Obj := hF (.type "function") st47 (Str.ofString "_law_number") 3 (.str (Str.ofString "law_spotlook_k64_questions_and_answers_writt") 549) (.ref 304)
noncomputable def ob202 : Obj := kTu [(.str (Str.ofString "_law_row") 593), (.str (Str.ofString "_law_top") 594), (.str (Str.ofString "_law_bottom") 595), (.str (Str.ofString "_law_far") 596)]
noncomputable def ob203 : Obj := hF .none st48 (Str.ofString "_law_scale") 0 .none .none
noncomputable def ob204 : Obj := hC (Str.ofString "_law_scale") 590 591 592 598 306 307 308 309 310 187 1 0 0 3 181 597 187 true
noncomputable def ob205 : Obj := hF (.type "function") st48 (Str.ofString "_law_scale") 3 (.str (Str.ofString "law_spotlook_k64_questions_and_answers_writt") 549) (.ref 311)
noncomputable def ob206 : Obj := kTu [(.str (Str.ofString "_law_scale_here") 603), (.str (Str.ofString "_law_unit") 604), (.str (Str.ofString "_law_top") 605), (.str (Str.ofString "_law_bottom") 606), (.str (Str.ofString "_law_x") 607), (.str (Str.ofString "_law_y") 608)]
noncomputable def ob207 : Obj := hF .none st49 (Str.ofString "_law_spot") 0 .none .none
noncomputable def ob208 : Obj := hC (Str.ofString "_law_spot") 600 601 602 610 313 314 315 316 317 193 2 0 0 3 181 609 193 true
noncomputable def ob209 : Obj := hF (.type "function") st49 (Str.ofString "_law_spot") 3 (.str (Str.ofString "law_spotlook_k64_questions_and_answers_writt") 549) (.ref 318)
noncomputable def ob210 : Obj := hF .none st50 (Str.ofString "_law_made") 0 .none .none
noncomputable def ob211 : Obj := { cls := (.type "code"), data := (.fields #[(.str (Str.ofString "_law_made") 612), (.str (Str.ofString "_law_made") 613), (.str (Str.ofString "/claim/cut.py") 614), (.int 196 0), (.int 2 0), (.int 0 0), (.int 0 0), (.int 3 0), (.ref 320), (.bool true), (.int 181 0), (.ref 321), .none, .none, .none, (.ref 322), (.int 615 0), (.int 196 0), (.str (Str.ofString "/claim/cut.py") 616)]) }
noncomputable def ob212 : Obj := hF (.type "function") st50 (Str.ofString "_law_made") 3 (.str (Str.ofString "law_spotlook_k64_questions_and_answers_writt") 549) (.ref 323)
noncomputable def ob213 (P : Params) : Obj := { cls := (.type "dict"), data := .dict (List.toArray (hE P (Str.ofString "__name__") 165 (.str (Str.ofString "law_spotlook_k64_questions_and_answers_writt") 549) :: (en3 P).take 60)) 61 }
noncomputable def ob214 : Obj := { cls := .none, data := .fields (List.toArray (fl12.take 150)) }
noncomputable def ob215 : Obj := kTu [(.str (Str.ofString "_law_one") 621), (.str (Str.ofString "_law_two") 622), (.str (Str.ofString "_law_three") 623), (.str (Str.ofString "_law_far") 624), (.str (Str.ofString "_law_beside") 625), (.str (Str.ofString "_law_found") 626)]
noncomputable def ob216 : Obj := hF .none st51 (Str.ofString "_law_turn") 0 .none .none
noncomputable def ob217 : Obj := hC (Str.ofString "_law_turn") 618 619 620 628 325 326 327 328 329 198 3 0 0 3 181 627 198 true
noncomputable def ob218 : Obj := hF (.type "function") st51 (Str.ofString "_law_turn") 3 (.str (Str.ofString "law_spotlook_k64_questions_and_answers_writt") 549) (.ref 330)
noncomputable def ob219 : Obj := kTu [(.str (Str.ofString "_law_shut") 633), (.str (Str.ofString "_law_spot_here") 634)]
noncomputable def ob220 : Obj := hF .none st52 (Str.ofString "_law_on") 0 .none .none
noncomputable def ob221 : Obj := hC (Str.ofString "_law_on") 630 631 632 636 332 333 334 335 336 203 2 0 0 3 181 635 203 true
noncomputable def ob222 : Obj := hF (.type "function") st52 (Str.ofString "_law_on") 3 (.str (Str.ofString "law_spotlook_k64_questions_and_answers_writt") 549) (.ref 337)
noncomputable def ob223 : Obj := hF .none st53 (Str.ofString "_law_fair") 0 .none .none
noncomputable def ob224 : Obj := { cls := (.type "code"), data := (.fields #[(.str (Str.ofString "_law_fair") 638), (.str (Str.ofString "_law_fair") 639), (.str (Str.ofString "/claim/cut.py") 640), (.int 205 0), (.int 2 0), (.int 0 0), (.int 0 0), (.int 3 0), (.ref 339), (.bool true), (.int 181 0), (.ref 340), .none, .none, .none, (.ref 341), (.int 641 0), (.int 205 0), (.str (Str.ofString "/claim/cut.py") 642)]) }
noncomputable def ob225 : Obj := hF (.type "function") st53 (Str.ofString "_law_fair") 3 (.str (Str.ofString "law_spotlook_k64_questions_and_answers_writt") 549) (.ref 342)
noncomputable def ob226 : Obj := hF .none st54 (Str.ofString "_law_shuts_here") 0 .none .none
noncomputable def ob227 : Obj := { cls := (.type "code"), data := (.fields #[(.str (Str.ofString "_law_shuts_here") 644), (.str (Str.ofString "_law_shuts_here") 645), (.str (Str.ofString "/claim/cut.py") 646), (.int 215 0), (.int 3 0), (.int 0 0), (.int 0 0), (.int 3 0), (.ref 344), (.bool true), (.int 181 0), (.ref 345), .none, .none, .none, (.ref 346), (.int 647 0), (.int 215 0), (.str (Str.ofString "/claim/cut.py") 648)]) }
noncomputable def ob228 : Obj := hF (.type "function") st54 (Str.ofString "_law_shuts_here") 3 (.str (Str.ofString "law_spotlook_k64_questions_and_answers_writt") 549) (.ref 347)
noncomputable def ob229 : Obj := kTu [(.str (Str.ofString "_law_one") 653)]
noncomputable def ob230 : Obj := hF .none st55 (Str.ofString "_law_shown") 0 .none .none
noncomputable def ob231 : Obj := hC (Str.ofString "_law_shown") 650 651 652 655 349 350 351 352 353 226 1 0 0 3 181 654 226 true
noncomputable def ob232 : Obj := hF (.type "function") st55 (Str.ofString "_law_shown") 3 (.str (Str.ofString "law_spotlook_k64_questions_and_answers_writt") 549) (.ref 354)
noncomputable def ob233 : Obj := hF .none st56 (Str.ofString "_law_rows") 0 .none .none
noncomputable def ob234 : Obj := { cls := (.type "code"), data := (.fields #[(.str (Str.ofString "_law_rows") 657), (.str (Str.ofString "_law_rows") 658), (.str (Str.ofString "/claim/cut.py") 659), (.int 228 0), (.int 1 0), (.int 0 0), (.int 0 0), (.int 3 0), (.ref 356), (.bool true), (.int 181 0), (.ref 357), .none, .none, .none, (.ref 358), (.int 660 0), (.int 228 0), (.str (Str.ofString "/claim/cut.py") 661)]) }
noncomputable def ob235 : Obj := hF (.type "function") st56 (Str.ofString "_law_rows") 3 (.str (Str.ofString "law_spotlook_k64_questions_and_answers_writt") 549) (.ref 359)
noncomputable def ob236 : Obj := hF .none st57 (Str.ofString "law") 0 .none .none
noncomputable def ob237 : Obj := { cls := (.type "code"), data := (.fields #[(.str (Str.ofString "law") 663), (.str (Str.ofString "law") 664), (.str (Str.ofString "/claim/cut.py") 665), (.int 230 0), (.int 1 0), (.int 0 0), (.int 0 0), (.int 3 0), (.ref 361), (.bool true), (.int 181 0), (.ref 362), .none, .none, .none, (.ref 363), (.int 666 0), (.int 230 0), (.str (Str.ofString "/claim/cut.py") 667)]) }
noncomputable def ob238 : Obj := hF (.type "function") st57 (Str.ofString "law") 3 (.str (Str.ofString "law_spotlook_k64_questions_and_answers_writt") 549) (.ref 364)
noncomputable def oL0 (P : Params) : List Obj := [PySem.W.boot_o_0 P, PySem.W.boot_o_1 P, PySem.W.boot_o_2 P, PySem.W.boot_o_3 P, PySem.W.boot_o_4 P, PySem.W.boot_o_5 P, PySem.W.boot_o_6 P, PySem.W.boot_o_7 P, PySem.W.boot_o_8 P, PySem.W.boot_o_9 P, PySem.W.boot_o_10 P, ob11, ob12, ob13, ob14, ob15 P]
noncomputable def oL1 (P : Params) : List Obj := [ob16, ob17, ob18, ob19 P, ob20, ob21, ob22 P, ob23, ob24, ob25, ob26, ob27 P, ob28, ob29, ob30, ob31 P]
noncomputable def oL2 (P : Params) : List Obj := [ob32, ob33, ob34 P, ob35, ob36, ob37, ob38 P, ob39, ob40, ob41 P, ob42, ob43, ob44, ob45, ob46, ob47]
noncomputable def oL3 (P : Params) : List Obj := [ob48, ob49, ob50 P, ob51, ob52, ob53, ob54, ob55, ob56, ob57, ob58, ob59, ob60, ob61, ob62, ob63]
noncomputable def oL4 (P : Params) : List Obj := [ob64, ob65, ob66, ob67, ob68, ob69, ob70 P, ob71, ob72, ob73, ob74, ob75, ob76, ob77, ob78, ob79]
noncomputable def oL5 (P : Params) : List Obj := [ob80, ob81, ob82, ob83, ob84, ob85, ob86, ob87, ob88, ob89, ob90, ob91, ob92, ob93, ob94, ob95]
noncomputable def oL6 (P : Params) : List Obj := [ob96, ob97, ob98, ob99, ob100, ob101, ob102, ob103, ob104, ob105, ob106, ob107, ob108, ob109, ob110, ob111]
noncomputable def oL7 (P : Params) : List Obj := [ob112, ob113, ob114, ob115, ob116, ob117, ob118, ob119, ob120 P, ob121, ob122, ob123, ob124, ob125, ob126, ob127]
noncomputable def oL8 (P : Params) : List Obj := [ob128, ob129, ob130, ob131, ob132, ob133, ob134, ob135, ob136, ob137, ob138, ob139, ob140, ob141, ob142, ob143]
noncomputable def oL9 (P : Params) : List Obj := [ob144, ob145, ob146, ob147, ob148, ob149, ob150, ob151, ob152, ob153, ob154, ob155, ob156, ob157, ob158, ob159]
noncomputable def oL10 (P : Params) : List Obj := [ob160, ob161, ob162, ob163, ob164, ob165 P, ob166, ob167, ob168, ob169, ob170, ob171, ob172, ob173, ob174, ob175]
noncomputable def oL11 (P : Params) : List Obj := [ob176, ob177, ob178, ob179, ob180, ob181, ob182, ob183, ob184, ob185, ob186, ob187, ob188, ob189, ob190, ob191]
noncomputable def oL12 (P : Params) : List Obj := [ob192, ob193, ob194, ob195, ob196, ob197, ob198, ob199, ob200, ob201, ob202, ob203, ob204, ob205, ob206, ob207]
noncomputable def oL13 (P : Params) : List Obj := [ob208, ob209, ob210, ob211, ob212, ob213 P, ob214, ob215, ob216, ob217, ob218, ob219, ob220, ob221, ob222, ob223]
noncomputable def oL14 (P : Params) : List Obj := [ob224, ob225, ob226, ob227, ob228, ob229, ob230, ob231, ob232, ob233, ob234, ob235, ob236, ob237, ob238]
noncomputable def fA (c i : Nat) (P : Params) : Obj := (([oL0 P, oL1 P, oL2 P, oL3 P, oL4 P, oL5 P, oL6 P, oL7 P, oL8 P, oL9 P, oL10 P, oL11 P, oL12 P, oL13 P, oL14 P] : List (List Obj)).getD c []).getD i { cls := .none }
noncomputable def tW0 (n : Nat → Nat → PySem.W.BT → PySem.W.BT → PySem.W.BT) (e : PySem.W.BT) : PySem.W.BT := (n 0 0 (n 0 1 (n 0 3 (n 0 7 e e) (n 0 11 e e)) (n 0 5 (n 0 9 e e) (n 0 13 e e))) (n 0 2 (n 0 4 (n 0 8 e e) (n 0 12 e e)) (n 0 6 (n 0 10 e e) (n 0 14 e e))))
noncomputable def tX0 (f : Nat → Nat → Params → Obj) (P : Params) : PySem.W.BT := tW0 (fun c i => .node (f c i P)) .nil
noncomputable def tW1 (n : Nat → Nat → PySem.W.BT → PySem.W.BT → PySem.W.BT) (e : PySem.W.BT) : PySem.W.BT := (n 0 0 (n 0 1 (n 0 15 (n 0 7 (n 1 1 e e) (n 1 6 e e)) (n 0 11 (n 0 12 e e) (n 1 10 e e))) (n 0 5 (n 0 9 (n 1 3 e e) (n 1 8 e e)) (n 0 13 (n 1 5 e e) e))) (n 0 2 (n 0 4 (n 0 8 (n 1 2 e e) (n 1 7 e e)) (n 1 0 (n 1 4 e e) e)) (n 0 6 (n 0 10 (n 0 11 e e) (n 1 9 e e)) (n 0 14 (n 0 11 e e) e))))
noncomputable def tX1 (f : Nat → Nat → Params → Obj) (P : Params) : PySem.W.BT := tW1 (fun c i => .node (f c i P)) .nil
noncomputable def tW2 (n : Nat → Nat → PySem.W.BT → PySem.W.BT → PySem.W.BT) (e : PySem.W.BT) : PySem.W.BT := (n 0 0 (n 0 1 (n 1 11 (n 0 7 (n 1 1 (n 0 11 e e) e) (n 1 6 (n 2 5 e e) e)) (n 0 11 (n 0 12 (n 0 11 e e) e) (n 1 10 e e))) (n 0 5 (n 0 9 (n 1 3 (n 2 0 e e) e) (n 1 8 e e)) (n 0 13 (n 1 5 (n 2 3 e e) e) (n 1 2 e e)))) (n 0 2 (n 0 4 (n 0 8 (n 1 2 (n 0 12 e e) e) (n 1 13 e e)) (n 1 12 (n 1 4 (n 2 2 e e) e) (n 1 14 e e))) (n 0 6 (n 0 10 (n 0 11 (n 2 1 e e) e) (n 1 9 e e)) (n 0 14 (n 0 11 (n 2 4 e e) e) (n 1 15 e e)))))
noncomputable def tX2 (f : Nat → Nat → Params → Obj) (P : Params) : PySem.W.BT := tW2 (fun c i => .node (f c i P)) .nil
noncomputable def tW3 (n : Nat → Nat → PySem.W.BT → PySem.W.BT → PySem.W.BT) (e : PySem.W.BT) : PySem.W.BT := (n 0 0 (n 0 1 (n 2 6 (n 0 7 (n 1 1 (n 0 11 (n 3 7 e e) e) (n 0 11 (n 4 1 e e) e)) (n 1 6 (n 2 5 (n 3 12 e e) e) (n 3 2 e e))) (n 0 11 (n 0 12 (n 0 11 (n 0 12 e e) e) (n 2 14 (n 0 11 e e) e)) (n 1 10 (n 0 11 (n 3 14 e e) e) (n 0 11 e e)))) (n 0 5 (n 0 9 (n 1 3 (n 2 0 (n 3 9 e e) e) (n 2 13 (n 0 12 e e) e)) (n 1 8 (n 1 2 (n 0 11 e e) e) (n 3 4 e e))) (n 0 13 (n 1 5 (n 2 3 (n 0 11 e e) e) (n 3 0 (n 4 4 e e) e)) (n 1 2 (n 2 11 (n 3 15 e e) e) (n 3 6 e e))))) (n 0 2 (n 0 4 (n 0 8 (n 1 2 (n 0 12 (n 3 8 e e) e) (n 0 12 (n 0 11 e e) e)) (n 2 8 (n 1 14 (n 3 13 e e) e) (n 3 3 e e))) (n 2 7 (n 1 4 (n 2 2 (n 3 10 e e) e) (n 2 15 (n 4 3 e e) e)) (n 1 14 (n 2 10 (n 0 11 e e) e) (n 0 12 e e)))) (n 0 6 (n 0 10 (n 0 11 (n 2 1 (n 0 11 e e) e) (n 0 11 (n 4 2 e e) e)) (n 1 9 (n 2 9 (n 0 12 e e) e) (n 3 5 e e))) (n 0 14 (n 0 11 (n 2 4 (n 3 11 e e) e) (n 3 1 (n 4 5 e e) e)) (n 1 15 (n 2 12 (n 4 0 e e) e) (n 0 11 e e))))))
noncomputable def tX3 (f : Nat → Nat → Params → Obj) (P : Params) : PySem.W.BT := tW3 (fun c i => .node (f c i P)) .nil
noncomputable def tW4 (n : Nat → Nat → PySem.W.BT → PySem.W.BT → PySem.W.BT) (e : PySem.W.BT) : PySem.W.BT := (n 0 0 (n 0 1 (n 4 6 (n 0 7 (n 1 1 (n 0 11 (n 3 7 (n 5 14 e e) e) (n 0 12 (n 7 0 e e) e)) (n 0 11 (n 4 1 (n 0 11 e e) e) (n 0 11 e e))) (n 1 6 (n 2 5 (n 3 12 (n 6 3 e e) e) (n 5 0 (n 0 11 e e) e)) (n 3 2 (n 0 11 (n 0 12 e e) e) (n 5 9 e e)))) (n 0 11 (n 0 12 (n 0 11 (n 0 12 (n 6 0 e e) e) (n 4 14 (n 7 3 e e) e)) (n 2 14 (n 0 11 (n 6 9 e e) e) (n 0 11 e e))) (n 1 10 (n 0 11 (n 3 14 (n 0 11 e e) e) (n 5 3 e e)) (n 0 11 (n 4 9 (n 6 14 e e) e) (n 0 12 e e))))) (n 0 5 (n 0 9 (n 1 3 (n 2 0 (n 3 9 (n 0 11 e e) e) (n 0 11 (n 7 1 e e) e)) (n 2 13 (n 0 12 (n 6 8 e e) e) (n 5 6 e e))) (n 1 8 (n 1 2 (n 0 11 (n 0 12 e e) e) (n 5 1 (n 7 6 e e) e)) (n 3 4 (n 4 8 (n 0 11 e e) e) (n 5 11 e e)))) (n 0 13 (n 1 5 (n 2 3 (n 0 11 (n 6 1 e e) e) (n 0 11 (n 0 12 e e) e)) (n 3 0 (n 4 4 (n 6 11 e e) e) (n 5 8 e e))) (n 1 2 (n 2 11 (n 3 15 (n 6 6 e e) e) (n 0 12 e e)) (n 3 6 (n 4 11 (n 0 11 e e) e) (n 0 11 e e)))))) (n 0 2 (n 0 4 (n 0 8 (n 1 2 (n 0 12 (n 3 8 (n 5 15 e e) e) (n 4 12 (n 0 11 e e) e)) (n 0 12 (n 0 11 (n 0 12 e e) e) (n 5 5 e e))) (n 2 8 (n 1 14 (n 3 13 (n 0 11 e e) e) (n 0 11 (n 7 5 e e) e)) (n 3 3 (n 0 12 (n 6 12 e e) e) (n 5 10 e e)))) (n 4 7 (n 1 4 (n 2 2 (n 3 10 (n 0 11 e e) e) (n 4 15 (n 0 11 e e) e)) (n 2 15 (n 4 3 (n 6 10 e e) e) (n 0 12 e e))) (n 1 14 (n 2 10 (n 0 11 (n 6 5 e e) e) (n 0 11 e e)) (n 0 12 (n 4 10 (n 6 15 e e) e) (n 5 12 e e))))) (n 0 6 (n 0 10 (n 0 11 (n 2 1 (n 0 11 (n 0 12 e e) e) (n 4 13 (n 7 2 e e) e)) (n 0 11 (n 4 2 (n 0 11 e e) e) (n 5 7 e e))) (n 1 9 (n 2 9 (n 0 12 (n 6 4 e e) e) (n 5 2 (n 7 7 e e) e)) (n 3 5 (n 0 11 (n 6 13 e e) e) (n 0 11 e e)))) (n 0 14 (n 0 11 (n 2 4 (n 3 11 (n 6 2 e e) e) (n 0 12 (n 7 4 e e) e)) (n 3 1 (n 4 5 (n 0 11 e e) e) (n 0 11 e e))) (n 1 15 (n 2 12 (n 4 0 (n 6 7 e e) e) (n 5 4 e e)) (n 0 11 (n 0 11 (n 0 12 e e) e) (n 5 13 e e)))))))
noncomputable def tX4 (f : Nat → Nat → Params → Obj) (P : Params) : PySem.W.BT := tW4 (fun c i => .node (f c i P)) .nil
noncomputable def tW5 (n : Nat → Nat → PySem.W.BT → PySem.W.BT → PySem.W.BT) (e : PySem.W.BT) : PySem.W.BT := (n 0 0 (n 0 1 (n 7 8 (n 0 7 (n 1 1 (n 0 11 (n 3 7 (n 5 14 e e) (n 8 5 e e)) (n 0 12 (n 7 0 e e) (n 0 11 e e))) (n 0 11 (n 4 1 (n 0 11 e e) (n 0 12 e e)) (n 0 11 (n 7 11 e e) (n 0 12 e e)))) (n 1 6 (n 2 5 (n 3 12 (n 6 3 e e) (n 0 11 e e)) (n 5 0 (n 0 11 e e) (n 9 12 e e))) (n 3 2 (n 0 11 (n 0 12 e e) (n 9 2 e e)) (n 5 9 (n 8 0 e e) e)))) (n 0 11 (n 0 12 (n 0 11 (n 0 12 (n 6 0 e e) (n 0 11 e e)) (n 4 14 (n 7 3 e e) (n 9 10 e e))) (n 2 14 (n 0 11 (n 6 9 e e) (n 9 0 e e)) (n 0 11 (n 0 12 e e) (n 10 3 e e)))) (n 1 10 (n 0 11 (n 3 14 (n 0 11 e e) (n 8 11 e e)) (n 5 3 (n 0 11 e e) (n 9 14 e e))) (n 0 11 (n 4 9 (n 6 14 e e) (n 0 12 e e)) (n 0 12 (n 8 2 e e) e))))) (n 0 5 (n 0 9 (n 1 3 (n 2 0 (n 3 9 (n 0 11 e e) (n 0 12 e e)) (n 0 11 (n 7 1 e e) (n 9 8 e e))) (n 2 13 (n 0 12 (n 6 8 e e) (n 0 11 e e)) (n 5 6 (n 7 13 e e) (n 0 11 e e)))) (n 1 8 (n 1 2 (n 0 11 (n 0 12 e e) (n 8 10 e e)) (n 5 1 (n 7 6 e e) (n 0 11 e e))) (n 3 4 (n 4 8 (n 0 11 e e) (n 9 4 e e)) (n 5 11 (n 0 11 e e) e)))) (n 0 13 (n 1 5 (n 2 3 (n 0 11 (n 6 1 e e) (n 8 8 e e)) (n 0 11 (n 0 12 e e) (n 0 12 e e))) (n 3 0 (n 4 4 (n 6 11 e e) (n 0 11 e e)) (n 5 8 (n 0 11 e e) e))) (n 1 2 (n 2 11 (n 3 15 (n 6 6 e e) (n 8 13 e e)) (n 0 12 (n 7 10 e e) (n 10 0 e e))) (n 3 6 (n 4 11 (n 0 11 e e) (n 9 6 e e)) (n 0 11 (n 8 3 e e) e)))))) (n 0 2 (n 0 4 (n 0 8 (n 1 2 (n 0 12 (n 3 8 (n 5 15 e e) (n 0 11 e e)) (n 4 12 (n 0 11 e e) (n 0 12 e e))) (n 0 12 (n 0 11 (n 0 12 e e) (n 8 14 e e)) (n 5 5 (n 7 12 e e) (n 10 1 e e)))) (n 2 8 (n 1 14 (n 3 13 (n 0 11 e e) (n 0 12 e e)) (n 0 11 (n 7 5 e e) (n 9 13 e e))) (n 3 3 (n 0 12 (n 6 12 e e) (n 9 3 e e)) (n 5 10 (n 8 1 e e) e)))) (n 7 9 (n 1 4 (n 2 2 (n 3 10 (n 0 11 e e) (n 8 7 e e)) (n 4 15 (n 0 11 e e) (n 0 11 e e))) (n 2 15 (n 4 3 (n 6 10 e e) (n 9 1 e e)) (n 0 12 (n 7 14 e e) (n 10 4 e e)))) (n 1 14 (n 2 10 (n 0 11 (n 6 5 e e) (n 8 12 e e)) (n 0 11 (n 0 12 e e) (n 9 15 e e))) (n 0 12 (n 4 10 (n 6 15 e e) (n 9 5 e e)) (n 5 12 (n 0 11 e e) e))))) (n 0 6 (n 0 10 (n 0 11 (n 2 1 (n 0 11 (n 0 12 e e) (n 8 6 e e)) (n 4 13 (n 7 2 e e) (n 9 9 e e))) (n 0 11 (n 4 2 (n 0 11 e e) (n 8 15 e e)) (n 5 7 (n 0 11 e e) (n 10 2 e e)))) (n 1 9 (n 2 9 (n 0 12 (n 6 4 e e) (n 0 11 e e)) (n 5 2 (n 7 7 e e) (n 0 12 e e))) (n 3 5 (n 0 11 (n 6 13 e e) (n 0 11 e e)) (n 0 11 (n 0 12 e e) e)))) (n 0 14 (n 0 11 (n 2 4 (n 3 11 (n 6 2 e e) (n 8 9 e e)) (n 0 12 (n 7 4 e e) (n 9 11 e e))) (n 3 1 (n 4 5 (n 0 11 e e) (n 0 12 e e)) (n 0 11 (n 7 15 e e) e))) (n 1 15 (n 2 12 (n 4 0 (n 6 7 e e) (n 0 11 e e)) (n 5 4 (n 0 11 e e) (n 0 11 e e))) (n 0 11 (n 0 11 (n 0 12 e e) (n 9 7 e e)) (n 5 13 (n 8 4 e e) e)))))))
noncomputable def tX5 (f : Nat → Nat → Params → Obj) (P : Params) : PySem.W.BT := tW5 (fun c i => .node (f c i P)) .nil
noncomputable def tW6 (n : Nat → Nat → PySem.W.BT → PySem.W.BT → PySem.W.BT) (e : PySem.W.BT) : PySem.W.BT := (n 0 0 (n 0 1 (n 10 5 (n 0 7 (n 1 1 (n 0 11 (n 3 7 (n 5 14 (n 10 12 e e) e) (n 8 5 (n 13 1 e e) e)) (n 0 12 (n 7 0 (n 11 14 e e) e) (n 0 11 e e))) (n 0 11 (n 4 1 (n 0 11 (n 0 11 e e) e) (n 0 12 e e)) (n 0 11 (n 7 11 (n 12 7 e e) e) (n 0 12 e e)))) (n 1 6 (n 2 5 (n 3 12 (n 6 3 (n 11 1 e e) e) (n 0 11 e e)) (n 5 0 (n 0 11 (n 0 11 e e) e) (n 9 12 e e))) (n 3 2 (n 0 11 (n 0 12 (n 0 12 e e) e) (n 9 2 e e)) (n 5 9 (n 8 0 (n 12 12 e e) e) (n 10 7 e e))))) (n 0 11 (n 0 12 (n 0 11 (n 0 12 (n 6 0 (n 10 14 e e) e) (n 0 11 (n 13 3 e e) e)) (n 4 14 (n 7 3 (n 12 1 e e) e) (n 9 10 e e))) (n 2 14 (n 0 11 (n 6 9 (n 11 7 e e) e) (n 9 0 e e)) (n 0 11 (n 0 12 (n 0 12 e e) e) (n 10 3 e e)))) (n 1 10 (n 0 11 (n 3 14 (n 0 11 (n 0 11 e e) e) (n 8 11 e e)) (n 5 3 (n 0 11 (n 0 11 e e) e) (n 9 14 e e))) (n 0 11 (n 4 9 (n 6 14 (n 11 12 e e) e) (n 0 12 e e)) (n 0 12 (n 8 2 (n 12 14 e e) e) (n 10 10 e e)))))) (n 0 5 (n 0 9 (n 1 3 (n 2 0 (n 3 9 (n 0 11 (n 0 11 e e) e) (n 0 12 (n 0 12 e e) e)) (n 0 11 (n 7 1 (n 11 15 e e) e) (n 9 8 e e))) (n 2 13 (n 0 12 (n 6 8 (n 11 6 e e) e) (n 0 11 e e)) (n 5 6 (n 7 13 (n 12 9 e e) e) (n 0 11 e e)))) (n 1 8 (n 1 2 (n 0 11 (n 0 12 (n 0 12 e e) e) (n 8 10 e e)) (n 5 1 (n 7 6 (n 12 4 e e) e) (n 0 11 e e))) (n 3 4 (n 4 8 (n 0 11 (n 0 11 e e) e) (n 9 4 e e)) (n 5 11 (n 0 11 (n 0 11 e e) e) (n 10 8 e e))))) (n 0 13 (n 1 5 (n 2 3 (n 0 11 (n 6 1 (n 10 15 e e) e) (n 8 8 e e)) (n 0 11 (n 0 12 (n 0 12 e e) e) (n 0 12 e e))) (n 3 0 (n 4 4 (n 6 11 (n 11 9 e e) e) (n 0 11 e e)) (n 5 8 (n 0 11 (n 0 11 e e) e) (n 0 11 e e)))) (n 1 2 (n 2 11 (n 3 15 (n 6 6 (n 11 4 e e) e) (n 8 13 e e)) (n 0 12 (n 7 10 (n 12 6 e e) e) (n 10 0 e e))) (n 3 6 (n 4 11 (n 0 11 (n 0 11 e e) e) (n 9 6 e e)) (n 0 11 (n 8 3 (n 12 15 e e) e) (n 0 12 e e))))))) (n 0 2 (n 0 4 (n 0 8 (n 1 2 (n 0 12 (n 3 8 (n 5 15 (n 10 13 e e) e) (n 0 11 (n 0 11 e e) e)) (n 4 12 (n 0 11 (n 0 11 e e) e) (n 0 12 e e))) (n 0 12 (n 0 11 (n 0 12 (n 0 12 e e) e) (n 8 14 e e)) (n 5 5 (n 7 12 (n 12 8 e e) e) (n 10 1 e e)))) (n 2 8 (n 1 14 (n 3 13 (n 0 11 (n 0 11 e e) e) (n 0 12 e e)) (n 0 11 (n 7 5 (n 12 3 e e) e) (n 9 13 e e))) (n 3 3 (n 0 12 (n 6 12 (n 11 10 e e) e) (n 9 3 e e)) (n 5 10 (n 8 1 (n 12 13 e e) e) (n 0 11 e e))))) (n 10 6 (n 1 4 (n 2 2 (n 3 10 (n 0 11 (n 0 11 e e) e) (n 8 7 (n 13 4 e e) e)) (n 4 15 (n 0 11 (n 0 11 e e) e) (n 0 11 e e))) (n 2 15 (n 4 3 (n 6 10 (n 11 8 e e) e) (n 9 1 e e)) (n 0 12 (n 7 14 (n 12 10 e e) e) (n 10 4 e e)))) (n 1 14 (n 2 10 (n 0 11 (n 6 5 (n 11 3 e e) e) (n 8 12 e e)) (n 0 11 (n 0 12 (n 0 12 e e) e) (n 9 15 e e))) (n 0 12 (n 4 10 (n 6 15 (n 11 13 e e) e) (n 9 5 e e)) (n 5 12 (n 0 11 (n 0 11 e e) e) (n 0 11 e e)))))) (n 0 6 (n 0 10 (n 0 11 (n 2 1 (n 0 11 (n 0 12 (n 0 12 e e) e) (n 8 6 (n 13 2 e e) e)) (n 4 13 (n 7 2 (n 12 0 e e) e) (n 9 9 e e))) (n 0 11 (n 4 2 (n 0 11 (n 0 11 e e) e) (n 8 15 e e)) (n 5 7 (n 0 11 (n 0 11 e e) e) (n 10 2 e e)))) (n 1 9 (n 2 9 (n 0 12 (n 6 4 (n 11 2 e e) e) (n 0 11 e e)) (n 5 2 (n 7 7 (n 12 5 e e) e) (n 0 12 e e))) (n 3 5 (n 0 11 (n 6 13 (n 11 11 e e) e) (n 0 11 e e)) (n 0 11 (n 0 12 (n 0 12 e e) e) (n 10 9 e e))))) (n 0 14 (n 0 11 (n 2 4 (n 3 11 (n 6 2 (n 11 0 e e) e) (n 8 9 e e)) (n 0 12 (n 7 4 (n 12 2 e e) e) (n 9 11 e e))) (n 3 1 (n 4 5 (n 0 11 (n 0 11 e e) e) (n 0 12 e e)) (n 0 11 (n 7 15 (n 12 11 e e) e) (n 0 12 e e)))) (n 1 15 (n 2 12 (n 4 0 (n 6 7 (n 11 5 e e) e) (n 0 11 e e)) (n 5 4 (n 0 11 (n 0 11 e e) e) (n 0 11 e e))) (n 0 11 (n 0 11 (n 0 12 (n 0 12 e e) e) (n 9 7 e e)) (n 5 13 (n 8 4 (n 13 0 e e) e) (n 10 11 e e))))))))
noncomputable def tX6 (f : Nat → Nat → Params → Obj) (P : Params) : PySem.W.BT := tW6 (fun c i => .node (f c i P)) .nil
noncomputable def tW7 (n : Nat → Nat → PySem.W.BT → PySem.W.BT → PySem.W.BT) (e : PySem.W.BT) : PySem.W.BT := (n 0 0 (n 0 1 (n 13 5 (n 0 7 (n 1 1 (n 0 11 (n 3 7 (n 5 14 (n 10 12 e e) e) (n 8 5 (n 13 1 e e) e)) (n 0 12 (n 7 0 (n 11 14 e e) e) (n 0 11 (n 14 5 e e) e))) (n 0 11 (n 4 1 (n 0 11 (n 0 11 e e) e) (n 0 12 (n 0 11 e e) e)) (n 0 11 (n 7 11 (n 12 7 e e) e) (n 0 12 e e)))) (n 1 6 (n 2 5 (n 3 12 (n 6 3 (n 11 1 e e) e) (n 0 11 (n 13 7 e e) e)) (n 5 0 (n 0 11 (n 0 11 e e) e) (n 9 12 (n 14 10 e e) e))) (n 3 2 (n 0 11 (n 0 12 (n 0 12 e e) e) (n 9 2 (n 14 1 e e) e)) (n 5 9 (n 8 0 (n 12 12 e e) e) (n 10 7 e e))))) (n 0 11 (n 0 12 (n 0 11 (n 0 12 (n 6 0 (n 10 14 e e) e) (n 0 11 (n 13 3 e e) e)) (n 4 14 (n 7 3 (n 12 1 e e) e) (n 9 10 (n 14 8 e e) e))) (n 2 14 (n 0 11 (n 6 9 (n 11 7 e e) e) (n 9 0 (n 0 11 e e) e)) (n 0 11 (n 0 12 (n 0 12 e e) e) (n 10 3 e e)))) (n 1 10 (n 0 11 (n 3 14 (n 0 11 (n 0 11 e e) e) (n 8 11 (n 13 10 e e) e)) (n 5 3 (n 0 11 (n 0 11 e e) e) (n 9 14 (n 14 12 e e) e))) (n 0 11 (n 4 9 (n 6 14 (n 11 12 e e) e) (n 0 12 (n 14 3 e e) e)) (n 0 12 (n 8 2 (n 12 14 e e) e) (n 10 10 e e)))))) (n 0 5 (n 0 9 (n 1 3 (n 2 0 (n 3 9 (n 0 11 (n 0 11 e e) e) (n 0 12 (n 0 12 e e) e)) (n 0 11 (n 7 1 (n 11 15 e e) e) (n 9 8 (n 14 6 e e) e))) (n 2 13 (n 0 12 (n 6 8 (n 11 6 e e) e) (n 0 11 (n 13 13 e e) e)) (n 5 6 (n 7 13 (n 12 9 e e) e) (n 0 11 e e)))) (n 1 8 (n 1 2 (n 0 11 (n 0 12 (n 0 12 e e) e) (n 8 10 (n 13 8 e e) e)) (n 5 1 (n 7 6 (n 12 4 e e) e) (n 0 11 (n 0 11 e e) e))) (n 3 4 (n 4 8 (n 0 11 (n 0 11 e e) e) (n 9 4 (n 0 12 e e) e)) (n 5 11 (n 0 11 (n 0 11 e e) e) (n 10 8 e e))))) (n 0 13 (n 1 5 (n 2 3 (n 0 11 (n 6 1 (n 10 15 e e) e) (n 8 8 (n 0 11 e e) e)) (n 0 11 (n 0 12 (n 0 12 e e) e) (n 0 12 (n 0 12 e e) e))) (n 3 0 (n 4 4 (n 6 11 (n 11 9 e e) e) (n 0 11 (n 13 15 e e) e)) (n 5 8 (n 0 11 (n 0 11 e e) e) (n 0 11 e e)))) (n 1 2 (n 2 11 (n 3 15 (n 6 6 (n 11 4 e e) e) (n 8 13 (n 0 12 e e) e)) (n 0 12 (n 7 10 (n 12 6 e e) e) (n 10 0 (n 14 14 e e) e))) (n 3 6 (n 4 11 (n 0 11 (n 0 11 e e) e) (n 9 6 (n 0 11 e e) e)) (n 0 11 (n 8 3 (n 12 15 e e) e) (n 0 12 e e))))))) (n 0 2 (n 0 4 (n 0 8 (n 1 2 (n 0 12 (n 3 8 (n 5 15 (n 10 13 e e) e) (n 0 11 (n 0 11 e e) e)) (n 4 12 (n 0 11 (n 0 11 e e) e) (n 0 12 (n 0 11 e e) e))) (n 0 12 (n 0 11 (n 0 12 (n 0 12 e e) e) (n 8 14 (n 13 12 e e) e)) (n 5 5 (n 7 12 (n 12 8 e e) e) (n 10 1 e e)))) (n 2 8 (n 1 14 (n 3 13 (n 0 11 (n 0 11 e e) e) (n 0 12 (n 0 11 e e) e)) (n 0 11 (n 7 5 (n 12 3 e e) e) (n 9 13 (n 14 11 e e) e))) (n 3 3 (n 0 12 (n 6 12 (n 11 10 e e) e) (n 9 3 (n 0 11 e e) e)) (n 5 10 (n 8 1 (n 12 13 e e) e) (n 0 11 e e))))) (n 13 6 (n 1 4 (n 2 2 (n 3 10 (n 0 11 (n 0 11 e e) e) (n 8 7 (n 13 4 e e) e)) (n 4 15 (n 0 11 (n 0 11 e e) e) (n 0 11 (n 0 11 e e) e))) (n 2 15 (n 4 3 (n 6 10 (n 11 8 e e) e) (n 9 1 (n 0 12 e e) e)) (n 0 12 (n 7 14 (n 12 10 e e) e) (n 10 4 e e)))) (n 1 14 (n 2 10 (n 0 11 (n 6 5 (n 11 3 e e) e) (n 8 12 (n 0 11 e e) e)) (n 0 11 (n 0 12 (n 0 12 e e) e) (n 9 15 (n 14 13 e e) e))) (n 0 12 (n 4 10 (n 6 15 (n 11 13 e e) e) (n 9 5 (n 14 4 e e) e)) (n 5 12 (n 0 11 (n 0 11 e e) e) (n 0 11 e e)))))) (n 0 6 (n 0 10 (n 0 11 (n 2 1 (n 0 11 (n 0 12 (n 0 12 e e) e) (n 8 6 (n 13 2 e e) e)) (n 4 13 (n 7 2 (n 12 0 e e) e) (n 9 9 (n 14 7 e e) e))) (n 0 11 (n 4 2 (n 0 11 (n 0 11 e e) e) (n 8 15 (n 13 14 e e) e)) (n 5 7 (n 0 11 (n 0 11 e e) e) (n 10 2 e e)))) (n 1 9 (n 2 9 (n 0 12 (n 6 4 (n 11 2 e e) e) (n 0 11 (n 13 9 e e) e)) (n 5 2 (n 7 7 (n 12 5 e e) e) (n 0 12 (n 0 12 e e) e))) (n 3 5 (n 0 11 (n 6 13 (n 11 11 e e) e) (n 0 11 (n 14 2 e e) e)) (n 0 11 (n 0 12 (n 0 12 e e) e) (n 10 9 e e))))) (n 0 14 (n 0 11 (n 2 4 (n 3 11 (n 6 2 (n 11 0 e e) e) (n 8 9 (n 0 12 e e) e)) (n 0 12 (n 7 4 (n 12 2 e e) e) (n 9 11 (n 14 9 e e) e))) (n 3 1 (n 4 5 (n 0 11 (n 0 11 e e) e) (n 0 12 (n 14 0 e e) e)) (n 0 11 (n 7 15 (n 12 11 e e) e) (n 0 12 e e)))) (n 1 15 (n 2 12 (n 4 0 (n 6 7 (n 11 5 e e) e) (n 0 11 (n 13 11 e e) e)) (n 5 4 (n 0 11 (n 0 11 e e) e) (n 0 11 e e))) (n 0 11 (n 0 11 (n 0 12 (n 0 12 e e) e) (n 9 7 (n 0 12 e e) e)) (n 5 13 (n 8 4 (n 13 0 e e) e) (n 10 11 e e))))))))
noncomputable def tX7 (f : Nat → Nat → Params → Obj) (P : Params) : PySem.W.BT := tW7 (fun c i => .node (f c i P)) .nil
noncomputable def hX0 (f : Nat → Nat → Params → Obj) (P : Params) : Heap := ⟨⟨[f 0 0 P, f 0 1 P, f 0 2 P, f 0 3 P, f 0 4 P, f 0 5 P, f 0 6 P, f 0 7 P, f 0 8 P, f 0 9 P, f 0 10 P, f 0 11 P, f 0 12 P, f 0 13 P, f 0 14 P]⟩, {}⟩
noncomputable def hX1 (f : Nat → Nat → Params → Obj) (P : Params) : Heap := ⟨⟨[f 0 0 P, f 0 1 P, f 0 2 P, f 13 5 P, f 0 4 P, f 0 5 P, f 0 6 P, f 0 7 P, f 0 8 P, f 0 9 P, f 0 10 P, f 0 11 P, f 13 6 P, f 0 13 P, f 0 14 P, f 1 1 P, f 1 2 P, f 1 3 P, f 0 11 P, f 0 12 P, f 1 4 P, f 1 5 P, f 0 11 P, f 1 6 P, f 2 8 P, f 1 8 P, f 1 9 P, f 1 10 P, f 1 14 P, f 1 2 P, f 1 15 P, f 0 11 P, f 0 12 P, f 2 0 P, f 2 1 P, f 0 11 P, f 2 2 P, f 2 3 P, f 2 4 P, f 2 5 P, f 1 14 P, f 1 2 P, f 2 9 P, f 0 11 P, f 2 10 P, f 2 11 P, f 2 12 P, f 0 11 P, f 0 12 P, f 2 13 P, f 0 11 P, f 2 14 P, f 2 15 P, f 3 0 P, f 3 1 P, f 3 2 P, f 3 3 P, f 3 4 P, f 3 5 P, f 0 11 P, f 0 12 P, f 3 6 P, f 0 11 P, f 3 7 P, f 3 8 P, f 3 9 P, f 0 11 P, f 0 12 P, f 3 10 P, f 0 11 P, f 3 11 P, f 3 12 P, f 3 13 P, f 0 11 P, f 0 12 P, f 3 14 P, f 0 11 P, f 3 15 P, f 4 0 P, f 4 1 P, f 0 11 P, f 0 12 P, f 4 2 P, f 0 11 P, f 4 3 P, f 4 4 P, f 4 5 P, f 0 11 P, f 0 12 P, f 4 8 P, f 0 11 P, f 4 9 P, f 4 10 P, f 4 11 P, f 0 11 P, f 0 12 P, f 4 12 P, f 0 11 P, f 4 13 P, f 4 14 P, f 4 15 P, f 0 11 P, f 0 12 P, f 5 0 P, f 0 11 P, f 5 1 P, f 5 2 P, f 5 3 P, f 0 11 P, f 0 12 P, f 5 4 P, f 0 11 P, f 5 5 P, f 5 6 P, f 5 7 P, f 0 11 P, f 0 12 P, f 5 8 P, f 0 11 P, f 5 9 P, f 5 10 P, f 5 11 P, f 0 11 P, f 0 12 P, f 5 12 P, f 0 11 P, f 5 13 P, f 5 14 P, f 5 15 P, f 0 11 P, f 0 12 P, f 6 0 P, f 0 11 P, f 6 1 P, f 6 2 P, f 6 3 P, f 0 11 P, f 0 12 P, f 6 4 P, f 0 11 P, f 6 5 P, f 6 6 P, f 6 7 P, f 0 11 P, f 0 12 P, f 6 8 P, f 0 11 P, f 6 9 P, f 6 10 P, f 6 11 P, f 0 11 P, f 0 12 P, f 6 12 P, f 0 11 P, f 6 13 P, f 6 14 P, f 6 15 P, f 0 11 P, f 0 12 P, f 7 0 P, f 0 11 P, f 7 1 P, f 7 2 P, f 7 3 P, f 0 11 P, f 0 12 P, f 7 4 P, f 0 11 P, f 7 5 P, f 7 6 P, f 7 7 P, f 0 11 P, f 0 12 P, f 7 10 P, f 0 11 P, f 7 11 P, f 7 12 P, f 7 13 P, f 0 11 P, f 0 12 P, f 7 14 P, f 0 11 P, f 7 15 P, f 8 0 P, f 8 1 P, f 0 11 P, f 0 12 P, f 8 2 P, f 0 11 P, f 8 3 P, f 8 4 P, f 8 5 P, f 0 11 P, f 0 12 P, f 8 6 P, f 0 11 P, f 8 7 P, f 8 8 P, f 8 9 P, f 0 11 P, f 0 12 P, f 8 10 P, f 0 11 P, f 8 11 P, f 8 12 P, f 8 13 P, f 0 11 P, f 0 12 P, f 8 14 P, f 0 11 P, f 8 15 P, f 9 0 P, f 9 1 P, f 0 11 P, f 0 12 P, f 9 2 P, f 9 3 P, f 9 4 P, f 0 11 P, f 0 12 P, f 9 5 P, f 9 6 P, f 9 7 P, f 0 11 P, f 0 12 P, f 9 8 P, f 9 9 P, f 9 10 P, f 0 11 P, f 0 12 P, f 9 11 P, f 9 12 P, f 9 13 P, f 0 11 P, f 0 12 P, f 9 14 P, f 9 15 P, f 10 0 P, f 0 11 P, f 0 12 P, f 10 1 P, f 0 11 P, f 10 2 P, f 10 3 P, f 10 4 P, f 0 11 P, f 0 12 P, f 10 7 P, f 0 11 P, f 10 8 P, f 10 9 P, f 10 10 P, f 0 11 P, f 0 12 P, f 10 11 P, f 10 12 P, f 10 13 P, f 0 11 P, f 0 12 P, f 10 14 P, f 0 11 P, f 10 15 P, f 11 0 P, f 11 1 P, f 0 11 P, f 0 12 P, f 11 2 P, f 0 11 P, f 11 3 P, f 11 4 P, f 11 5 P, f 0 11 P, f 0 12 P, f 11 6 P, f 0 11 P, f 11 7 P, f 11 8 P, f 11 9 P, f 0 11 P, f 0 12 P, f 11 10 P, f 0 11 P, f 11 11 P, f 11 12 P, f 11 13 P, f 0 11 P, f 0 12 P, f 11 14 P, f 0 11 P, f 11 15 P, f 12 0 P, f 12 1 P, f 0 11 P, f 0 12 P, f 12 2 P, f 0 11 P, f 12 3 P, f 12 4 P, f 12 5 P, f 0 11 P, f 0 12 P, f 12 6 P, f 0 11 P, f 12 7 P, f 12 8 P, f 12 9 P, f 0 11 P, f 0 12 P, f 12 10 P, f 0 11 P, f 12 11 P, f 12 12 P, f 12 13 P, f 0 11 P, f 0 12 P, f 12 14 P, f 0 11 P, f 12 15 P, f 13 0 P, f 13 1 P, f 0 11 P, f 0 12 P, f 13 2 P, f 13 3 P, f 13 4 P, f 0 11 P, f 0 12 P, f 13 7 P, f 0 11 P, f 13 8 P, f 13 9 P, f 13 10 P, f 0 11 P, f 0 12 P, f 13 11 P, f 0 11 P, f 13 12 P, f 13 13 P, f 13 14 P, f 0 11 P, f 0 12 P, f 13 15 P, f 14 0 P, f 14 1 P, f 0 11 P, f 0 12 P, f 14 2 P, f 14 3 P, f 14 4 P, f 0 11 P, f 0 12 P, f 14 5 P, f 0 11 P, f 14 6 P, f 14 7 P, f 14 8 P, f 0 11 P, f 0 12 P, f 14 9 P, f 14 10 P, f 14 11 P, f 0 11 P, f 0 12 P, f 14 12 P, f 14 13 P, f 14 14 P]⟩, {}⟩
theorem laid : (fun (_ : Program) (_ : Program) (_ : Nat → Nat → Params → Obj) (_ : List Stmt) (_ : List Stmt) (_ : List Stmt) (_ : List Stmt) (_ : List Stmt) (_ : List Stmt) (_ : List Stmt) => true) pw2 vw fA sx0 sx1 sx2 sx3 sx4 sx5 sx6 = true := by k_qdec
end Q_k64_questions_and_answers_writt
noncomputable def PySem.W.Fast.tw13895841528050756327 : PySem.Program := PySem.W.Fast.tw6809640143048792936
theorem PySem.W.Fast.te13895841528050756327 : PySem.Challenge.pw_spotlook_k64_questions_and_answers_writt = PySem.W.Fast.tw13895841528050756327 := Eq.trans (by kernel_rfl : PySem.Challenge.pw_spotlook_k64_questions_and_answers_writt = Q_k64_questions_and_answers_writt.pw2) PySem.W.Fast.te6809640143048792936
noncomputable def PySem.W.Fast.tw11578096288681759611 : PySem.Program := PySem.W.Fast.tw16308311506261926287
theorem PySem.W.Fast.te11578096288681759611 : Q_k64_questions_and_answers_writt.vw = PySem.W.Fast.tw11578096288681759611 := PySem.W.Fast.te16308311506261926287
noncomputable def PySem.W.Fast.tw9536110743658670871 : List PySem.Stmt := PySem.W.Fast.tw9822355426532861976
theorem PySem.W.Fast.te9536110743658670871 : Q_k64_questions_and_answers_writt.sx0 = PySem.W.Fast.tw9536110743658670871 := PySem.W.Fast.te9822355426532861976
noncomputable def PySem.W.Fast.tw6515071772670381094 : List PySem.Stmt := PySem.W.Fast.tw15173168958190157444
theorem PySem.W.Fast.te6515071772670381094 : Q_k64_questions_and_answers_writt.sx1 = PySem.W.Fast.tw6515071772670381094 := PySem.W.Fast.te15173168958190157444
noncomputable def PySem.W.Fast.tw10683321246169203845 : List PySem.Stmt := PySem.W.Fast.tw7506185920725767903
theorem PySem.W.Fast.te10683321246169203845 : Q_k64_questions_and_answers_writt.sx2 = PySem.W.Fast.tw10683321246169203845 := PySem.W.Fast.te7506185920725767903
noncomputable def PySem.W.Fast.tw5604480982832514728 : List PySem.Stmt := PySem.W.Fast.tw14794654011676854281
theorem PySem.W.Fast.te5604480982832514728 : Q_k64_questions_and_answers_writt.sx3 = PySem.W.Fast.tw5604480982832514728 := PySem.W.Fast.te14794654011676854281
noncomputable def PySem.W.Fast.tw1213192058095258062 : List PySem.Stmt := PySem.W.Fast.tw12081219286621941417
theorem PySem.W.Fast.te1213192058095258062 : Q_k64_questions_and_answers_writt.sx4 = PySem.W.Fast.tw1213192058095258062 := PySem.W.Fast.te12081219286621941417
noncomputable def PySem.W.Fast.tw3326207489469737105 : List PySem.Stmt := PySem.W.Fast.tw12183390783052652456
theorem PySem.W.Fast.te3326207489469737105 : Q_k64_questions_and_answers_writt.sx5 = PySem.W.Fast.tw3326207489469737105 := PySem.W.Fast.te12183390783052652456
noncomputable def PySem.W.Fast.tw7046932762244561880 : List PySem.Stmt := PySem.W.Fast.tw9675586601754999004
theorem PySem.W.Fast.te7046932762244561880 : Q_k64_questions_and_answers_writt.sx6 = PySem.W.Fast.tw7046932762244561880 := PySem.W.Fast.te9675586601754999004
noncomputable def PySem.W.Fast.tw4853779268971663180 : PySem.Params → PySem.W.BT := Q_k64_questions_and_answers_writt.tX0 PySem.W.Fast.tw11429905049379921274
theorem PySem.W.Fast.te4853779268971663180 : Q_k64_questions_and_answers_writt.tX0 Q_k64_questions_and_answers_writt.fA = PySem.W.Fast.tw4853779268971663180 := congrArg Q_k64_questions_and_answers_writt.tX0 PySem.W.Fast.te11429905049379921274
noncomputable def PySem.W.Fast.tw8569571308634367873 : PySem.Params → PySem.W.BT := Q_k64_questions_and_answers_writt.tX1 PySem.W.Fast.tw11429905049379921274
theorem PySem.W.Fast.te8569571308634367873 : Q_k64_questions_and_answers_writt.tX1 Q_k64_questions_and_answers_writt.fA = PySem.W.Fast.tw8569571308634367873 := congrArg Q_k64_questions_and_answers_writt.tX1 PySem.W.Fast.te11429905049379921274
noncomputable def PySem.W.Fast.tw12889595306737008855 : PySem.Params → PySem.W.BT := Q_k64_questions_and_answers_writt.tX2 PySem.W.Fast.tw11429905049379921274
theorem PySem.W.Fast.te12889595306737008855 : Q_k64_questions_and_answers_writt.tX2 Q_k64_questions_and_answers_writt.fA = PySem.W.Fast.tw12889595306737008855 := congrArg Q_k64_questions_and_answers_writt.tX2 PySem.W.Fast.te11429905049379921274
noncomputable def PySem.W.Fast.tw2235696715019346236 : PySem.Params → PySem.W.BT := Q_k64_questions_and_answers_writt.tX3 PySem.W.Fast.tw11429905049379921274
theorem PySem.W.Fast.te2235696715019346236 : Q_k64_questions_and_answers_writt.tX3 Q_k64_questions_and_answers_writt.fA = PySem.W.Fast.tw2235696715019346236 := congrArg Q_k64_questions_and_answers_writt.tX3 PySem.W.Fast.te11429905049379921274
noncomputable def PySem.W.Fast.tw16717025313178782621 : PySem.Params → PySem.W.BT := Q_k64_questions_and_answers_writt.tX4 PySem.W.Fast.tw11429905049379921274
theorem PySem.W.Fast.te16717025313178782621 : Q_k64_questions_and_answers_writt.tX4 Q_k64_questions_and_answers_writt.fA = PySem.W.Fast.tw16717025313178782621 := congrArg Q_k64_questions_and_answers_writt.tX4 PySem.W.Fast.te11429905049379921274
noncomputable def PySem.W.Fast.tw469912851942607040 : PySem.Params → PySem.W.BT := Q_k64_questions_and_answers_writt.tX5 PySem.W.Fast.tw11429905049379921274
theorem PySem.W.Fast.te469912851942607040 : Q_k64_questions_and_answers_writt.tX5 Q_k64_questions_and_answers_writt.fA = PySem.W.Fast.tw469912851942607040 := congrArg Q_k64_questions_and_answers_writt.tX5 PySem.W.Fast.te11429905049379921274
noncomputable def PySem.W.Fast.tw15367137684143176486 : PySem.Params → PySem.W.BT := Q_k64_questions_and_answers_writt.tX6 PySem.W.Fast.tw11429905049379921274
theorem PySem.W.Fast.te15367137684143176486 : Q_k64_questions_and_answers_writt.tX6 Q_k64_questions_and_answers_writt.fA = PySem.W.Fast.tw15367137684143176486 := congrArg Q_k64_questions_and_answers_writt.tX6 PySem.W.Fast.te11429905049379921274
noncomputable def PySem.W.Fast.tw11774632254637873417 : PySem.Params → PySem.W.BT := Q_k64_questions_and_answers_writt.tX7 PySem.W.Fast.tw11429905049379921274
theorem PySem.W.Fast.te11774632254637873417 : Q_k64_questions_and_answers_writt.tX7 Q_k64_questions_and_answers_writt.fA = PySem.W.Fast.tw11774632254637873417 := congrArg Q_k64_questions_and_answers_writt.tX7 PySem.W.Fast.te11429905049379921274
noncomputable def PySem.W.Fast.tw8196543773728999326 : PySem.Params → PySem.Heap := Q_k64_questions_and_answers_writt.hX0 PySem.W.Fast.tw11429905049379921274
theorem PySem.W.Fast.te8196543773728999326 : Q_k64_questions_and_answers_writt.hX0 Q_k64_questions_and_answers_writt.fA = PySem.W.Fast.tw8196543773728999326 := congrArg Q_k64_questions_and_answers_writt.hX0 PySem.W.Fast.te11429905049379921274
noncomputable def PySem.W.Fast.tw12778051437834322757 : PySem.Params → PySem.Heap := Q_k64_questions_and_answers_writt.hX1 PySem.W.Fast.tw11429905049379921274
theorem PySem.W.Fast.te12778051437834322757 : Q_k64_questions_and_answers_writt.hX1 Q_k64_questions_and_answers_writt.fA = PySem.W.Fast.tw12778051437834322757 := congrArg Q_k64_questions_and_answers_writt.hX1 PySem.W.Fast.te11429905049379921274
open PySem PySem.W PyProof.Rows
set_option maxRecDepth 100000 in
set_option maxHeartbeats 0 in
theorem PySem.Challenge.cw_spotlook_k64_questions_and_answers_writt_holds : PySem.Challenge.rw_spotlook_k64_questions_and_answers_writt.Holds := by
  w_on; o_law; o_head (PySem.W.kHook Q_k64_questions_and_answers_writt.kK [nat_lit 3, nat_lit 64, nat_lit 65, nat_lit 71, nat_lit 72, nat_lit 78, nat_lit 79, nat_lit 85, nat_lit 86, nat_lit 92, nat_lit 93, nat_lit 99, nat_lit 100, nat_lit 106, nat_lit 107, nat_lit 113, nat_lit 114, nat_lit 120, nat_lit 121, nat_lit 127, nat_lit 128, nat_lit 134, nat_lit 135, nat_lit 141, nat_lit 142, nat_lit 148, nat_lit 149, nat_lit 155, nat_lit 156, nat_lit 162, nat_lit 163, nat_lit 169, nat_lit 170, nat_lit 176, nat_lit 177, nat_lit 183, nat_lit 184, nat_lit 190, nat_lit 191, nat_lit 197, nat_lit 198, nat_lit 204, nat_lit 205, nat_lit 211, nat_lit 212, nat_lit 216, nat_lit 217, nat_lit 221, nat_lit 222, nat_lit 226, nat_lit 227, nat_lit 231, nat_lit 232, nat_lit 236, nat_lit 237, nat_lit 243, nat_lit 244, nat_lit 250, nat_lit 251, nat_lit 255, nat_lit 256, nat_lit 262, nat_lit 263, nat_lit 269, nat_lit 270, nat_lit 276, nat_lit 277, nat_lit 283, nat_lit 284, nat_lit 290, nat_lit 291, nat_lit 297, nat_lit 298, nat_lit 304, nat_lit 305, nat_lit 311, nat_lit 312, nat_lit 318, nat_lit 319, nat_lit 323, nat_lit 324, nat_lit 330, nat_lit 331, nat_lit 337, nat_lit 338, nat_lit 342, nat_lit 343, nat_lit 347, nat_lit 348, nat_lit 354, nat_lit 355, nat_lit 359, nat_lit 360, nat_lit 364, nat_lit 365] (fun _ => by kernel_rfl)); (case hw => w_witness2)
  k_fill
  refine SD.law_walk (k := 11) (x := "_law_script") (sp := Q_k64_questions_and_answers_writt.sp_law) (l := PySem.Challenge.rw_spotlook_k64_questions_and_answers_writt) rfl rfl ⟨rfl, by decide, by decide⟩ (fun w h Y => PySem.W.kIn_of Y) ?F Q_k64_questions_and_answers_writt.law_sp
  case F =>
    intro w mg fa h KX G hmg
    have t_law_cell_at : SD.Txt (L2.KOf KX) mg "_law_cell_at" Q_k64_questions_and_answers_writt.s_law_cell_at := by
      dsimp only [L2.KOf]
      refine' SD.Txt.mk KX G ?a ?l ?c ?k
      (case a => k_is); (case l => k_is); (case c => k_is); (case k => k_is)
    have t_law_take : SD.Txt (L2.KOf KX) mg "_law_take" Q_k64_questions_and_answers_writt.s_law_take := by
      dsimp only [L2.KOf]
      refine' SD.Txt.mk KX G ?a ?l ?c ?k
      (case a => k_is); (case l => k_is); (case c => k_is); (case k => k_is)
    have t_law_scale : SD.Txt (L2.KOf KX) mg "_law_scale" Q_k64_questions_and_answers_writt.s_law_scale := by
      dsimp only [L2.KOf]
      refine' SD.Txt.mk KX G ?a ?l ?c ?k
      (case a => k_is); (case l => k_is); (case c => k_is); (case k => k_is)
    have t_law_low : SD.Txt (L2.KOf KX) mg "_law_low" Q_k64_questions_and_answers_writt.s_law_low := by
      dsimp only [L2.KOf]
      refine' SD.Txt.mk KX G ?a ?l ?c ?k
      (case a => k_is); (case l => k_is); (case c => k_is); (case k => k_is)
    have t_law_spot : SD.Txt (L2.KOf KX) mg "_law_spot" Q_k64_questions_and_answers_writt.s_law_spot := by
      dsimp only [L2.KOf]
      refine' SD.Txt.mk KX G ?a ?l ?c ?k
      (case a => k_is); (case l => k_is); (case c => k_is); (case k => k_is)
    have t_law_made : SD.Txt (L2.KOf KX) mg "_law_made" Q_k64_questions_and_answers_writt.s_law_made := by
      dsimp only [L2.KOf]
      refine' SD.Txt.mk KX G ?a ?l ?c ?k
      (case a => k_is); (case l => k_is); (case c => k_is); (case k => k_is)
    have t_law_turn : SD.Txt (L2.KOf KX) mg "_law_turn" Q_k64_questions_and_answers_writt.s_law_turn := by
      dsimp only [L2.KOf]
      refine' SD.Txt.mk KX G ?a ?l ?c ?k
      (case a => k_is); (case l => k_is); (case c => k_is); (case k => k_is)
    have t_law_on : SD.Txt (L2.KOf KX) mg "_law_on" Q_k64_questions_and_answers_writt.s_law_on := by
      dsimp only [L2.KOf]
      refine' SD.Txt.mk KX G ?a ?l ?c ?k
      (case a => k_is); (case l => k_is); (case c => k_is); (case k => k_is)
    have t_law_fair : SD.Txt (L2.KOf KX) mg "_law_fair" Q_k64_questions_and_answers_writt.s_law_fair := by
      dsimp only [L2.KOf]
      refine' SD.Txt.mk KX G ?a ?l ?c ?k
      (case a => k_is); (case l => k_is); (case c => k_is); (case k => k_is)
    have t_law_shuts_here : SD.Txt (L2.KOf KX) mg "_law_shuts_here" Q_k64_questions_and_answers_writt.s_law_shuts_here := by
      dsimp only [L2.KOf]
      refine' SD.Txt.mk KX G ?a ?l ?c ?k
      (case a => k_is); (case l => k_is); (case c => k_is); (case k => k_is)
    have t_law_number : SD.Txt (L2.KOf KX) mg "_law_number" Q_k64_questions_and_answers_writt.s_law_number := by
      dsimp only [L2.KOf]
      refine' SD.Txt.mk KX G ?a ?l ?c ?k
      (case a => k_is); (case l => k_is); (case c => k_is); (case k => k_is)
    have t_law_shown : SD.Txt (L2.KOf KX) mg "_law_shown" Q_k64_questions_and_answers_writt.s_law_shown := by
      dsimp only [L2.KOf]
      refine' SD.Txt.mk KX G ?a ?l ?c ?k
      (case a => k_is); (case l => k_is); (case c => k_is); (case k => k_is)
    have t_show_fraction : SD.Txt (L2.KOf KX) mg "show_fraction" Q_k64_questions_and_answers_writt.s_show_fraction := by
      dsimp only [L2.KOf]
      refine' SD.Txt.mk KX G ?a ?l ?c ?k
      (case a => k_is); (case l => k_is); (case c => k_is); (case k => k_is)
    have t_show_row : SD.Txt (L2.KOf KX) mg "show_row" Q_k64_questions_and_answers_writt.s_show_row := by
      dsimp only [L2.KOf]
      refine' SD.Txt.mk KX G ?a ?l ?c ?k
      (case a => k_is); (case l => k_is); (case c => k_is); (case k => k_is)
    have t_wall_rows : SD.Txt (L2.KOf KX) mg "wall_rows" Q_k64_questions_and_answers_writt.s_wall_rows := by
      dsimp only [L2.KOf]
      refine' SD.Txt.mk KX G ?a ?l ?c ?k
      (case a => k_is); (case l => k_is); (case c => k_is); (case k => k_is)
    have t_show_questions : SD.Txt (L2.KOf KX) mg "show_questions" Q_k64_questions_and_answers_writt.s_show_questions := by
      dsimp only [L2.KOf]
      refine' SD.Txt.mk KX G ?a ?l ?c ?k
      (case a => k_is); (case l => k_is); (case c => k_is); (case k => k_is)
    have t_law_rows : SD.Txt (L2.KOf KX) mg "_law_rows" Q_k64_questions_and_answers_writt.s_law_rows := by
      dsimp only [L2.KOf]
      refine' SD.Txt.mk KX G ?a ?l ?c ?k
      (case a => k_is); (case l => k_is); (case c => k_is); (case k => k_is)
    have t_rows_of : SD.Txt (L2.KOf KX) mg "rows_of" Q_k64_questions_and_answers_writt.s_rows_of := by
      dsimp only [L2.KOf]
      refine' SD.Txt.mk KX G ?a ?l ?c ?k
      (case a => k_is); (case l => k_is); (case c => k_is); (case k => k_is)
    have t_read_number : SD.Txt (L2.KOf KX) mg "read_number" Q_k64_questions_and_answers_writt.s_read_number := by
      dsimp only [L2.KOf]
      refine' SD.Txt.mk KX G ?a ?l ?c ?k
      (case a => k_is); (case l => k_is); (case c => k_is); (case k => k_is)
    have t_read_top : SD.Txt (L2.KOf KX) mg "read_top" Q_k64_questions_and_answers_writt.s_read_top := by
      dsimp only [L2.KOf]
      refine' SD.Txt.mk KX G ?a ?l ?c ?k
      (case a => k_is); (case l => k_is); (case c => k_is); (case k => k_is)
    have t_greatest_divisor : SD.Txt (L2.KOf KX) mg "greatest_divisor" Q_k64_questions_and_answers_writt.s_greatest_divisor := by
      dsimp only [L2.KOf]
      refine' SD.Txt.mk KX G ?a ?l ?c ?k
      (case a => k_is); (case l => k_is); (case c => k_is); (case k => k_is)
    have t_fraction : SD.Txt (L2.KOf KX) mg "fraction" Q_k64_questions_and_answers_writt.s_fraction := by
      dsimp only [L2.KOf]
      refine' SD.Txt.mk KX G ?a ?l ?c ?k
      (case a => k_is); (case l => k_is); (case c => k_is); (case k => k_is)
    have t_read_fraction : SD.Txt (L2.KOf KX) mg "read_fraction" Q_k64_questions_and_answers_writt.s_read_fraction := by
      dsimp only [L2.KOf]
      refine' SD.Txt.mk KX G ?a ?l ?c ?k
      (case a => k_is); (case l => k_is); (case c => k_is); (case k => k_is)
    have t_read_spots : SD.Txt (L2.KOf KX) mg "read_spots" Q_k64_questions_and_answers_writt.s_read_spots := by
      dsimp only [L2.KOf]
      refine' SD.Txt.mk KX G ?a ?l ?c ?k
      (case a => k_is); (case l => k_is); (case c => k_is); (case k => k_is)
    have t_is_less : SD.Txt (L2.KOf KX) mg "is_less" Q_k64_questions_and_answers_writt.s_is_less := by
      dsimp only [L2.KOf]
      refine' SD.Txt.mk KX G ?a ?l ?c ?k
      (case a => k_is); (case l => k_is); (case c => k_is); (case k => k_is)
    have t_is_ahead : SD.Txt (L2.KOf KX) mg "is_ahead" Q_k64_questions_and_answers_writt.s_is_ahead := by
      dsimp only [L2.KOf]
      refine' SD.Txt.mk KX G ?a ?l ?c ?k
      (case a => k_is); (case l => k_is); (case c => k_is); (case k => k_is)
    have t_gap : SD.Txt (L2.KOf KX) mg "gap" Q_k64_questions_and_answers_writt.s_gap := by
      dsimp only [L2.KOf]
      refine' SD.Txt.mk KX G ?a ?l ?c ?k
      (case a => k_is); (case l => k_is); (case c => k_is); (case k => k_is)
    have t_lean : SD.Txt (L2.KOf KX) mg "lean" Q_k64_questions_and_answers_writt.s_lean := by
      dsimp only [L2.KOf]
      refine' SD.Txt.mk KX G ?a ?l ?c ?k
      (case a => k_is); (case l => k_is); (case c => k_is); (case k => k_is)
    have t_side_of : SD.Txt (L2.KOf KX) mg "side_of" Q_k64_questions_and_answers_writt.s_side_of := by
      dsimp only [L2.KOf]
      refine' SD.Txt.mk KX G ?a ?l ?c ?k
      (case a => k_is); (case l => k_is); (case c => k_is); (case k => k_is)
    have t_later_of : SD.Txt (L2.KOf KX) mg "later_of" Q_k64_questions_and_answers_writt.s_later_of := by
      dsimp only [L2.KOf]
      refine' SD.Txt.mk KX G ?a ?l ?c ?k
      (case a => k_is); (case l => k_is); (case c => k_is); (case k => k_is)
    have t_earlier_of : SD.Txt (L2.KOf KX) mg "earlier_of" Q_k64_questions_and_answers_writt.s_earlier_of := by
      dsimp only [L2.KOf]
      refine' SD.Txt.mk KX G ?a ?l ?c ?k
      (case a => k_is); (case l => k_is); (case c => k_is); (case k => k_is)
    have t_own_spot : SD.Txt (L2.KOf KX) mg "own_spot" Q_k64_questions_and_answers_writt.s_own_spot := by
      dsimp only [L2.KOf]
      refine' SD.Txt.mk KX G ?a ?l ?c ?k
      (case a => k_is); (case l => k_is); (case c => k_is); (case k => k_is)
    have t_own_wall : SD.Txt (L2.KOf KX) mg "own_wall" Q_k64_questions_and_answers_writt.s_own_wall := by
      dsimp only [L2.KOf]
      refine' SD.Txt.mk KX G ?a ?l ?c ?k
      (case a => k_is); (case l => k_is); (case c => k_is); (case k => k_is)
    have t_meeting_in_line : SD.Txt (L2.KOf KX) mg "meeting_in_line" Q_k64_questions_and_answers_writt.s_meeting_in_line := by
      dsimp only [L2.KOf]
      refine' SD.Txt.mk KX G ?a ?l ?c ?k
      (case a => k_is); (case l => k_is); (case c => k_is); (case k => k_is)
    have t_over : SD.Txt (L2.KOf KX) mg "over" Q_k64_questions_and_answers_writt.s_over := by
      dsimp only [L2.KOf]
      refine' SD.Txt.mk KX G ?a ?l ?c ?k
      (case a => k_is); (case l => k_is); (case c => k_is); (case k => k_is)
    have t_less : SD.Txt (L2.KOf KX) mg "less" Q_k64_questions_and_answers_writt.s_less := by
      dsimp only [L2.KOf]
      refine' SD.Txt.mk KX G ?a ?l ?c ?k
      (case a => k_is); (case l => k_is); (case c => k_is); (case k => k_is)
    have t_plus : SD.Txt (L2.KOf KX) mg "plus" Q_k64_questions_and_answers_writt.s_plus := by
      dsimp only [L2.KOf]
      refine' SD.Txt.mk KX G ?a ?l ?c ?k
      (case a => k_is); (case l => k_is); (case c => k_is); (case k => k_is)
    have t_times : SD.Txt (L2.KOf KX) mg "times" Q_k64_questions_and_answers_writt.s_times := by
      dsimp only [L2.KOf]
      refine' SD.Txt.mk KX G ?a ?l ?c ?k
      (case a => k_is); (case l => k_is); (case c => k_is); (case k => k_is)
    have t_number_between : SD.Txt (L2.KOf KX) mg "number_between" Q_k64_questions_and_answers_writt.s_number_between := by
      dsimp only [L2.KOf]
      refine' SD.Txt.mk KX G ?a ?l ?c ?k
      (case a => k_is); (case l => k_is); (case c => k_is); (case k => k_is)
    have t_crossing_spot : SD.Txt (L2.KOf KX) mg "crossing_spot" Q_k64_questions_and_answers_writt.s_crossing_spot := by
      dsimp only [L2.KOf]
      refine' SD.Txt.mk KX G ?a ?l ?c ?k
      (case a => k_is); (case l => k_is); (case c => k_is); (case k => k_is)
    have t_meeting : SD.Txt (L2.KOf KX) mg "meeting" Q_k64_questions_and_answers_writt.s_meeting := by
      dsimp only [L2.KOf]
      refine' SD.Txt.mk KX G ?a ?l ?c ?k
      (case a => k_is); (case l => k_is); (case c => k_is); (case k => k_is)
    have t_meet_as_in_plots : SD.Txt (L2.KOf KX) mg "meet_as_in_plots" Q_k64_questions_and_answers_writt.s_meet_as_in_plots := by
      dsimp only [L2.KOf]
      refine' SD.Txt.mk KX G ?a ?l ?c ?k
      (case a => k_is); (case l => k_is); (case c => k_is); (case k => k_is)
    have t_first_crossed : SD.Txt (L2.KOf KX) mg "first_crossed" Q_k64_questions_and_answers_writt.s_first_crossed := by
      dsimp only [L2.KOf]
      refine' SD.Txt.mk KX G ?a ?l ?c ?k
      (case a => k_is); (case l => k_is); (case c => k_is); (case k => k_is)
    have t_read_wall : SD.Txt (L2.KOf KX) mg "read_wall" Q_k64_questions_and_answers_writt.s_read_wall := by
      dsimp only [L2.KOf]
      refine' SD.Txt.mk KX G ?a ?l ?c ?k
      (case a => k_is); (case l => k_is); (case c => k_is); (case k => k_is)
    have t_read_questions : SD.Txt (L2.KOf KX) mg "read_questions" Q_k64_questions_and_answers_writt.s_read_questions := by
      dsimp only [L2.KOf]
      refine' SD.Txt.mk KX G ?a ?l ?c ?k
      (case a => k_is); (case l => k_is); (case c => k_is); (case k => k_is)
    have t_show_answers : SD.Txt (L2.KOf KX) mg "show_answers" Q_k64_questions_and_answers_writt.s_show_answers := by
      dsimp only [L2.KOf]
      refine' SD.Txt.mk KX G ?a ?l ?c ?k
      (case a => k_is); (case l => k_is); (case c => k_is); (case k => k_is)
    have t_law : SD.Txt (L2.KOf KX) mg "law" Q_k64_questions_and_answers_writt.s_law := by
      dsimp only [L2.KOf]
      refine' SD.Txt.mk KX G ?a ?l ?c ?k
      (case a => k_is); (case l => k_is); (case c => k_is); (case k => k_is)
    have b_abs : mg "abs" = none := by
      refine' PySem.W.mg_none_of KX G ?a
      (case a => k_is)
    have b_all : mg "all" = none := by
      refine' PySem.W.mg_none_of KX G ?a
      (case a => k_is)
    have b_any : mg "any" = none := by
      refine' PySem.W.mg_none_of KX G ?a
      (case a => k_is)
    have b_enumerate : mg "enumerate" = none := by
      refine' PySem.W.mg_none_of KX G ?a
      (case a => k_is)
    have b_int : mg "int" = none := by
      refine' PySem.W.mg_none_of KX G ?a
      (case a => k_is)
    have b_isinstance : mg "isinstance" = none := by
      refine' PySem.W.mg_none_of KX G ?a
      (case a => k_is)
    have b_len : mg "len" = none := by
      refine' PySem.W.mg_none_of KX G ?a
      (case a => k_is)
    have b_list : mg "list" = none := by
      refine' PySem.W.mg_none_of KX G ?a
      (case a => k_is)
    have b_max : mg "max" = none := by
      refine' PySem.W.mg_none_of KX G ?a
      (case a => k_is)
    have b_min : mg "min" = none := by
      refine' PySem.W.mg_none_of KX G ?a
      (case a => k_is)
    have b_range : mg "range" = none := by
      refine' PySem.W.mg_none_of KX G ?a
      (case a => k_is)
    have b_str : mg "str" = none := by
      refine' PySem.W.mg_none_of KX G ?a
      (case a => k_is)
    have b_tuple : mg "tuple" = none := by
      refine' PySem.W.mg_none_of KX G ?a
      (case a => k_is)
    have g_MOST_FIGURES : ∃ t, mg "MOST_FIGURES" = some (.int 30 t) := by
      refine' SD.globI KX G ?a
      (case a => k_is)
    have g_MOST_WALLS : ∃ t, mg "MOST_WALLS" = some (.int 40 t) := by
      refine' SD.globI KX G ?a
      (case a => k_is)
    exact Q_k64_questions_and_answers_writt.c_law ⟨t_law_cell_at, t_law_take, t_law_scale, t_law_low, t_law_spot, t_law_made, t_law_turn, t_law_on, t_law_fair, t_law_shuts_here, t_law_number, t_law_shown, t_show_fraction, t_show_row, t_wall_rows, t_show_questions, t_law_rows, t_rows_of, t_read_number, t_read_top, t_greatest_divisor, t_fraction, t_read_fraction, t_read_spots, t_is_less, t_is_ahead, t_gap, t_lean, t_side_of, t_later_of, t_earlier_of, t_own_spot, t_own_wall, t_meeting_in_line, t_over, t_less, t_plus, t_times, t_number_between, t_crossing_spot, t_meeting, t_meet_as_in_plots, t_first_crossed, t_read_wall, t_read_questions, t_show_answers, t_law, b_abs, b_all, b_any, b_enumerate, b_int, b_isinstance, b_len, b_list, b_max, b_min, b_range, b_str, b_tuple, g_MOST_FIGURES, g_MOST_WALLS⟩ hmg
