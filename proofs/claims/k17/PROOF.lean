import PyProof.Rows.All
import Wide.All
import OpenK.AllK
import Wide.FinOn
import Lean
import PyProof.EqAt
import PyProof.EqKinds
import PyProof.TupleCall
import PySem.Challenge.RW_spotlook_k17_what_comes_behind_a_face
set_option Elab.async false
set_option linter.all false
set_option maxRecDepth 100000
/-! THE HAND LAYER, for ints, bools, texts, own classes, LISTS and tuples (index, slices, in, append, pop ..), calls, loops. Paste it whole ahead of your own text; what your proof does not reach may be deleted. -/
namespace L2
open PySem PySem.Spec PyProof.Rows

/-- a key: an int or a str -/
noncomputable abbrev Key := Sum Int Str
noncomputable def keyIs : Key → Value → Bool
  | .inl k, v => Value.isInt k v
  | .inr x, v => Value.isStrOf x v
noncomputable def keyH (w : World) : Key → Int
  | .inl k => hashInt k
  | .inr x => hashStr w x
theorem keyIs_shape : ∀ {k : Key} {v : Value}, keyIs k v = true → (∃ i t, k = Sum.inl i ∧ v = Value.int i t) ∨ (∃ x t, k = Sum.inr x ∧ v = Value.str x t)
  | .inl i, v, h => by
    obtain ⟨t, e⟩ := Value.isInt_shape (k := i) (v := v) h
    exact .inl ⟨i, t, rfl, e⟩
  | .inr x, v, h => by
    obtain ⟨t, e⟩ := Value.isStrOf_shape (x := x) (v := v) h
    exact .inr ⟨x, t, rfl, e⟩
theorem key_ll (a b : Int) : decide ((Sum.inl a : Key) = Sum.inl b) = (a == b) := by
  by_cases e : a = b
  · subst e; simp
  · have h : ¬ (Sum.inl a : Key) = Sum.inl b := fun q => e (Sum.inl.inj q)
    rw [decide_eq_false h]
    exact (beq_eq_false_iff_ne.mpr e).symm
theorem key_rr (a b : Str) : decide ((Sum.inr a : Key) = Sum.inr b) = decide (a = b) := by
  by_cases e : a = b
  · subst e; simp
  · have h : ¬ (Sum.inr a : Key) = Sum.inr b := fun q => e (Sum.inr.inj q)
    rw [decide_eq_false h, decide_eq_false e]
theorem key_lr (a : Int) (b : Str) : decide ((Sum.inl a : Key) = Sum.inr b) = false := decide_eq_false (fun q => nomatch q)
theorem key_rl (a : Str) (b : Int) : decide ((Sum.inr a : Key) = Sum.inl b) = false := decide_eq_false (fun q => nomatch q)

noncomputable def mixKind (prog : Program) (w : World) : PySem.KeyKind prog w Key where
  is := keyIs
  hash := keyH w
  inj := fun v a b ha hb => by
    rcases keyIs_shape ha with ⟨i, t, rfl, rfl⟩ | ⟨x, t, rfl, rfl⟩
    · rcases keyIs_shape hb with ⟨j, u, rfl, e⟩ | ⟨y, u, rfl, e⟩
      · injection e with e1 _; rw [e1]
      · exact nomatch e
    · rcases keyIs_shape hb with ⟨j, u, rfl, e⟩ | ⟨y, u, rfl, e⟩
      · exact nomatch e
      · injection e with e1 _; rw [e1]
  byValue := fun k v h => by
    rcases keyIs_shape h with ⟨i, t, rfl, rfl⟩ | ⟨x, t, rfl, rfl⟩ <;> rfl
  pyHash := fun hv h => by
    rcases keyIs_shape hv with ⟨i, t, rfl, rfl⟩ | ⟨x, t, rfl, rfl⟩
    · exact wpAny_pyHash_int h
    · exact wpAny_pyHash_str h
  eqBool := fun hu hv h => by
    rcases keyIs_shape hu with ⟨i, t, rfl, rfl⟩ | ⟨x, t, rfl, rfl⟩
    · rcases keyIs_shape hv with ⟨j, u, rfl, rfl⟩ | ⟨y, u, rfl, rfl⟩
      · rw [key_ll] at h; exact wpAny_eqBool_int h
      · rw [key_lr] at h; exact SeqAt.EqAt.int_str i t y u _ _ _ _ h
    · rcases keyIs_shape hv with ⟨j, u, rfl, rfl⟩ | ⟨y, u, rfl, rfl⟩
      · rw [key_rl] at h; exact SeqAt.EqAt.str_int x t j u _ _ _ _ h
      · rw [key_rr] at h; exact wpAny_eqBool_str h
  «strs» := fun k x t v h => by
    rcases keyIs_shape h with ⟨i, u, rfl, e⟩ | ⟨y, u, rfl, e⟩
    · exact nomatch e
    · injection e with e1 _
      subst e1
      cases v <;> rfl

end L2

namespace L2
open PySem PySem.Spec PyProof.Rows

/-- a value, without the heap -/
inductive V where
  | non | bl (b : Bool) | int (i : Int) | str (x : Str) | byt (b : Array UInt8) | flt (b : UInt64) | ref (a : Addr) | ty (n : String)
  deriving DecidableEq

noncomputable def RelV : V → Value → Prop
  | .non, u => u = Value.none
  | .bl b, u => u = Value.bool b
  | .int i, u => ∃ t, u = Value.int i t
  | .str x, u => ∃ t, u = Value.str x t
  | .byt b, u => ∃ t, u = Value.bytes b t
  | .flt b, u => ∃ t, u = Value.float b t
  | .ref a, u => u = Value.ref a
  | .ty n, u => u = Value.type n

noncomputable abbrev Vals : List V → List Value → Prop := Paired RelV
theorem Vals.length {xs : List V} {us : List Value} (r : Vals xs us) : xs.length = us.length := Paired.length r
theorem Vals.get : ∀ {xs : List V} {us : List Value} {i : Nat} {x : V}, Vals xs us → xs[i]? = some x → ∃ u, us[i]? = some u ∧ RelV x u
  | _, _, _, _, .nil, e => by simp at e
  | _, _, 0, _, .cons r _, e => by simp at e; subst e; exact ⟨_, rfl, r⟩
  | _, _, i + 1, x, .cons _ t, e => by
    obtain ⟨u, h1, h2⟩ := Vals.get (i := i) (x := x) t (by simpa using e)
    exact ⟨u, by simpa using h1, h2⟩
theorem Vals.set {x : V} {u : Value} (r : RelV x u) : ∀ {xs : List V} {us : List Value} (i : Nat), Vals xs us → Vals (xs.set i x) (us.set i u)
  | _, _, _, .nil => .nil
  | _, _, 0, .cons _ t => .cons r t
  | _, _, i + 1, .cons q t => .cons q (Vals.set r i t)
theorem Vals.append : ∀ {xs ys : List V} {us ws : List Value}, Vals xs us → Vals ys ws → Vals (xs ++ ys) (us ++ ws)
  | _, _, _, _, .nil, s => s
  | _, _, _, _, .cons r t, s => .cons r (Vals.append t s)
theorem Vals.take : ∀ {xs : List V} {us : List Value} (n : Nat), Vals xs us → Vals (xs.take n) (us.take n)
  | _, _, 0, _ => .nil
  | _, _, _ + 1, .nil => .nil
  | _, _, n + 1, .cons r t => .cons r (Vals.take n t)
theorem Vals.drop : ∀ {xs : List V} {us : List Value} (n : Nat), Vals xs us → Vals (xs.drop n) (us.drop n)
  | _, _, 0, r => r
  | _, _, _ + 1, .nil => .nil
  | _, _, n + 1, .cons _ t => Vals.drop n t

noncomputable def RelO : Option V → Option Value → Prop
  | some v, some u => RelV v u
  | none, none => True
  | _, _ => False
noncomputable def KV {κ : Type} : List (κ × V) → List (κ × Value) → Prop := Paired fun (p : κ × V) (q : κ × Value) => p.1 = q.1 ∧ RelV p.2 q.2

/-- a key of a dict (00_mix): an int or a text -/
noncomputable def kV : Key → V
  | .inl i => .int i
  | .inr x => .str x

/-- what stands at a tracked address -/
inductive HO where
  /-- a list -/
  | lst (xs : List V)
  /-- a tuple (never changes) -/
  | tup (xs : List V)
  /-- a dict whose keys are ints and texts; one whose keys are tuples of ints and texts (the empty one is both) -/
  | dK (kvs : List (Key × V)) | dT (kvs : List (List Key × V))
  /-- a set of ints: its members, its size -/
  | set (S : Int → Bool) (n : Nat)
  /-- an instance of the class at C, its dict at dx, its attributes -/
  | ins (C dx : Addr) (fs : List (Str × V))
  /-- the dict of the instance at x -/
  | own (x : Addr)
  /-- the dict of an exception -/
  | xd (fs : List (Str × V))
  /-- a bound method, f of x -/
  | met (f x : Addr)
  /-- a range object lo, lo + 1, .. below hi -/
  | rng (lo hi : Int)
  /-- a thing that is known to the object (the script; a dict while a loop walks it): read, never written while it is so -/
  | frz (o : Obj) (u : HO)
  /-- a code object's table -/
  | tbl (ps : Array Value)
  /-- any other thing, by what is true of its one object (a def of one's own: SetO a S n := HO.ext fun h => ..) -/
  | ext (φ : Heap → Prop)

noncomputable abbrev Hp := Addr → Option HO
noncomputable def upd (H : Hp) (a : Addr) (o : HO) : Hp := fun b => if b = a then some o else H b
theorem upd_same {H : Hp} {a : Addr} {o : HO} : upd H a o a = some o := by unfold upd; rw [if_pos rfl]
theorem upd_ne {H : Hp} {a b : Addr} {o : HO} (h : b ≠ a) : upd H a o b = H b := by unfold upd; rw [if_neg h]
theorem ne_of_none {H : Hp} {a b : Addr} {o : HO} (h : H a = some o) (h' : H b = none) : a ≠ b := by
  intro e; subst e; rw [h] at h'; cases h'

section
variable (P : Program) (w : World)
noncomputable def ObjOk (H : Hp) (h : Heap) (a : Addr) : HO → Prop
  | .lst xs => xs.length ≤ sizeLine ∧ ∃ (its : List Value) (n : Nat), Vals xs its ∧ h.get? a = some { cls := .type "list", data := .seq its.toArray n }
  | .tup xs => xs.length ≤ sizeLine ∧ ∃ its : List Value, Vals xs its ∧ IsTup h a its.toArray
  | .dK kvs => kvs.length ≤ sizeLine ∧ (a == sysModules) = false ∧ ∃ vs, KV kvs vs ∧ h.DictOf (mixKind P w) a vs
  | .dT kvs => kvs.length ≤ sizeLine ∧ (a == sysModules) = false ∧ ∃ xs : List (List Key × Addr × Value),
      Paired (fun (p : List Key × V) (q : List Key × Addr × Value) => p.1 = q.1 ∧ H q.2.1 = some (.tup (p.1.map kV)) ∧ RelV p.2 q.2.2) kvs xs ∧
      ∃ o es ep, h.get? a = some o ∧ o.ExactDict ∧ o.data = .dict es ep ∧ es.toList = xs.map (entryOfKey (tupleKind (mixKind P w))) ∧ (xs.map (·.1)).Nodup
  | .set S n => h.SetOf (intKind P w) a S n
  | .ins C dx fs => H dx = some (.own a) ∧ fs.length ≤ 1000 ∧ dx ≠ a ∧ h.get? a = some (PySem.W.instObj C dx) ∧
      ∃ mA, h.Ns1 dx mA ∧ (∀ f, RelO (fs.lookup f) (mA f)) ∧ PySem.Within mA (fs.map (·.1))
  | .own _ => ∃ o, h.get? a = some o
  | .xd fs => ∃ mA, h.Ns1 a mA ∧ ∀ f, RelO (fs.lookup f) (mA f)
  | .rng lo hi => ∃ t u v, h.get? a = some { cls := .type "range", data := .fields #[.int lo t, .int hi u, .int 1 v] }
  | .frz o u => h.get? a = some o ∧ ObjOk H h a u
  | .tbl ps => h.get? a = some { cls := .none, data := .fields ps }
  | .met f x => h.get? a = some (PySem.W.methodObj (.ref f) (.ref x))
  | .ext φ => φ h ∧ (∃ o, h.get? a = some o) ∧ ∀ h1 h2 : Heap, φ h1 → (∀ o, h1.get? a = some o → h2.get? a = some o) → φ h2
/-- the abstract heap is held -/
noncomputable def HOk (H : Hp) (h : Heap) : Prop := ∀ a o, H a = some o → ObjOk P w H h a o
end

section
variable {P : Program} {w : World} {H H' : Hp} {h h' : Heap} {a : Addr} {o : HO}
theorem ObjOk.lt (x : ObjOk P w H h a o) : a < h.objs.size := by
  cases o with
  | lst xs => obtain ⟨_, _, _, _, e⟩ := x; exact Heap.lt_size e
  | tup xs => obtain ⟨_, _, _, p⟩ := x; exact p.lt
  | dK kvs => obtain ⟨_, _, _, _, o, _, _, e, _⟩ := x; exact Heap.lt_size e
  | dT kvs => obtain ⟨_, _, _, _, o, _, _, e, _⟩ := x; exact Heap.lt_size e
  | set S n => obtain ⟨o, _, _, _, e, _⟩ := x; exact Heap.lt_size e
  | ins C dx fs => obtain ⟨_, _, _, e, _⟩ := x; exact Heap.lt_size e
  | own y => obtain ⟨_, e⟩ := x; exact Heap.lt_size e
  | xd fs => obtain ⟨_, ⟨_, _, _, e, _⟩, _⟩ := x; exact Heap.lt_size e
  | rng lo hi => obtain ⟨_, _, _, e⟩ := x; exact Heap.lt_size e
  | frz ob u => obtain ⟨e, _⟩ := x; exact Heap.lt_size e
  | tbl ps => exact Heap.lt_size (show h.get? a = some _ from x)
  | met f y => exact Heap.lt_size (show h.get? a = some _ from x)
  | ext φ => obtain ⟨_, ⟨_, e⟩, _⟩ := x; exact Heap.lt_size e
theorem Paired.mapP {α β : Type} {F G : α → β → Prop} : ∀ {l₁ : List α} {l₂ : List β}, Paired F l₁ l₂ → (∀ a b, F a b → G a b) → Paired G l₁ l₂
  | _, _, .nil, _ => .nil
  | _, _, .cons r t, f => .cons (f _ _ r) (Paired.mapP t f)
/-- what an object's description leans on: its own object, its own dict, the tuples -/
theorem ObjOk.stay (x : ObjOk P w H h a o) (k : ∀ b u, (b = a ∨ H b = some (.own a)) → h.get? b = some u → h'.get? b = some u)
    (ho : ∀ b, H b = some (.own a) → H' b = some (.own a)) (ht : ∀ b xs, H b = some (.tup xs) → H' b = some (.tup xs)) : ObjOk P w H' h' a o := by
  induction o with
  | lst xs => obtain ⟨z, its, n, r, e⟩ := x; exact ⟨z, its, n, r, k _ _ (.inl rfl) e⟩
  | tup xs => obtain ⟨z, its, r, ob, e, c⟩ := x; exact ⟨z, its, r, ob, k _ _ (.inl rfl) e, c⟩
  | dK kvs => obtain ⟨z, y, vs, r, ob, es, ep, e, c⟩ := x; exact ⟨z, y, vs, r, ob, es, ep, k _ _ (.inl rfl) e, c⟩
  | dT kvs =>
    obtain ⟨z, y, xs, r, ob, es, ep, e, c⟩ := x
    exact ⟨z, y, xs, Paired.mapP r fun p q z => ⟨z.1, ht _ _ z.2.1, z.2.2⟩, ob, es, ep, k _ _ (.inl rfl) e, c⟩
  | set S n => obtain ⟨ob, es, ep, t, e, c⟩ := x; exact ⟨ob, es, ep, t, k _ _ (.inl rfl) e, c⟩
  | ins C dx fs =>
    obtain ⟨d, z, ne, e, mA, ⟨od, es, ep, e2, c⟩, r⟩ := x
    exact ⟨ho _ d, z, ne, k _ _ (.inl rfl) e, mA, ⟨od, es, ep, k _ _ (.inr d) e2, c⟩, r⟩
  | own y => obtain ⟨ob, e⟩ := x; exact ⟨ob, k _ _ (.inl rfl) e⟩
  | xd fs => obtain ⟨mA, ⟨od, es, ep, e, c⟩, r⟩ := x; exact ⟨mA, ⟨od, es, ep, k _ _ (.inl rfl) e, c⟩, r⟩
  | rng lo hi => obtain ⟨t, u, v, e⟩ := x; exact ⟨t, u, v, k _ _ (.inl rfl) e⟩
  | frz ob u ih => obtain ⟨e, q⟩ := x; exact ⟨k _ _ (.inl rfl) e, ih q⟩
  | tbl ps =>
    have e : h.get? a = some { cls := .none, data := .fields ps } := x
    show h'.get? a = some { cls := .none, data := .fields ps }
    exact k a _ (.inl rfl) e
  | met f y =>
    have e : h.get? a = some (PySem.W.methodObj (.ref f) (.ref y)) := x
    show h'.get? a = some (PySem.W.methodObj (.ref f) (.ref y))
    exact k a _ (.inl rfl) e
  | ext φ => obtain ⟨p, ⟨o, e⟩, st⟩ := x; exact ⟨st _ _ p fun o q => k _ _ (.inl rfl) q, ⟨o, k _ _ (.inl rfl) e⟩, st⟩
theorem HOk.lt (x : HOk P w H h) (e : H a = some o) : a < h.objs.size := (x a o e).lt
theorem HOk.fresh (x : HOk P w H h) (e : h.objs.size ≤ a) : H a = none := by
  cases q : H a with
  | none => rfl
  | some u => exact absurd (Nat.lt_of_lt_of_le (x.lt q) e) (Nat.lt_irrefl _)
/-- every object of the heap is kept -/
theorem HOk.kept (x : HOk P w H h) (k : ∀ b u, h.get? b = some u → h'.get? b = some u) : HOk P w H h' := fun a o e =>
  (x a o e).stay (fun b u _ q => k b u q) (fun _ q => q) fun _ _ q => q
/-- a new object is laid and tracked -/
theorem HOk.laid (x : HOk P w H h) (k : ∀ b u, h.get? b = some u → h'.get? b = some u) (hp : h.objs.size ≤ a) (new : ObjOk P w (upd H a o) h' a o) : HOk P w (upd H a o) h' := fun b u e => by
  have hn := x.fresh hp
  by_cases hb : b = a
  · subst hb; rw [upd_same] at e; cases e; exact new
  · rw [upd_ne hb] at e
    exact (x b u e).stay (fun c v _ q => k c v q) (fun c q => by rw [upd_ne (ne_of_none q hn)]; exact q) fun c xs q => by rw [upd_ne (ne_of_none q hn)]; exact q
end

/-- what may be read as u: it is u, or a known u -/
noncomputable def Rd (H : Hp) (a : Addr) (u : HO) : Prop := H a = some u ∨ ∃ o, H a = some (.frz o u)
theorem Rd.of {H : Hp} {a : Addr} {u : HO} (h : H a = some u) : Rd H a u := .inl h
theorem Rd.ok {P : Program} {w : World} {H : Hp} {h : Heap} {a : Addr} {u : HO} (r : Rd H a u) (x : HOk P w H h) : ObjOk P w H h a u := by
  rcases r with r | ⟨o, r⟩
  · exact x a u r
  · obtain ⟨_, q⟩ := x a _ r
    exact q
/-- what may be written -/
noncomputable def Mut : Option HO → Prop
  | some (.lst _) => True
  | some (.dK _) => True
  | some (.dT _) => True
  | some (.set _ _) => True
  | some (.ins _ _ _) => True
  | some (.ext _) => True
  | _ => False
section
variable {P : Program} {w : World} {H : Hp} {h h' : Heap} {x e : Addr} {o' : HO}
/-- the object at e is changed: x itself, or the dict of the instance x -/
theorem HOk.write (ok : HOk P w H h) (mu : Mut (H x)) (he : e = x ∨ H e = some (.own x)) (k : ∀ b u, b ≠ e → h.get? b = some u → h'.get? b = some u) (heo : ∃ u, h'.get? e = some u)
    (new : ObjOk P w (upd H x o') h' x o') : HOk P w (upd H x o') h' := fun b u q => by
  have nown : ∀ c y, H c = some (.own y) → c ≠ x := fun c y r z => by subst z; rw [r] at mu; exact mu
  have ntup : ∀ c xs, H c = some (.tup xs) → c ≠ x := fun c xs r z => by subst z; rw [r] at mu; exact mu
  by_cases hb : b = x
  · subst hb; rw [upd_same] at q; cases q; exact new
  · rw [upd_ne hb] at q
    by_cases hbe : b = e
    · have q' : H b = some (.own x) := by
        rcases he with z | z
        · exact absurd (hbe.trans z) hb
        · rw [hbe]; exact z
      rw [q] at q'; cases q'
      obtain ⟨v, hv⟩ := heo
      exact ⟨v, by rw [hbe]; exact hv⟩
    · refine (ok b u q).stay (fun c v hc r => k c v ?_ r) (fun c r => by rw [upd_ne (nown c b r)]; exact r) fun c xs r => by rw [upd_ne (ntup c xs r)]; exact r
      rcases hc with rfl | hc
      · exact hbe
      · rintro rfl
        rcases he with z | z
        · exact nown c b hc z
        · rw [hc] at z; cases z; exact hb rfl
end

/-! ### kept unless tracked; of the frames at fs (the callers') the slots may change (an exception that passes writes there); of the records at ex (iterators) nothing is said -/
structure Un (fs ex : List Addr) (H H' : Hp) (h h' : Heap) : Prop where
  keep : ∀ b o, h.get? b = some o → H b = none → b ∉ fs → b ∉ ex → h'.get? b = some o
  slot : ∀ b o, h.get? b = some o → H b = none → b ∈ fs → b ∉ ex → ∃ sl, h'.get? b = some { o with slots := sl }
  free : ∀ b o, h.get? b = some o → H b = none → b ∉ ex → H' b = none
  there : ∀ b o, h.get? b = some o → b ∉ ex → ∃ o', h'.get? b = some o'
  tups : ∀ b xs, H b = some (.tup xs) → H' b = some (.tup xs)
  frzs : ∀ b o u, H b = some (.frz o u) → H' b = some (.frz o u)
  tbls : ∀ b ps, H b = some (.tbl ps) → ∃ more, H' b = some (.tbl (ps ++ more))
section
variable {fs fs' ex ex' : List Addr} {H H1 H2 : Hp} {h h1 h2 h' : Heap} {a x e : Addr} {o : HO}
theorem Un.any (u : Un fs ex H H1 h h1) {b : Addr} {ob : Obj} (q : h.get? b = some ob) (n : H b = none) (hx : b ∉ ex) : ∃ sl, h1.get? b = some { ob with slots := sl } := by
  by_cases hb : b ∈ fs
  · exact u.slot b ob q n hb hx
  · exact ⟨ob.slots, u.keep b ob q n hb hx⟩
theorem Un.trans (a : Un fs ex H H1 h h1) (b : Un fs ex H1 H2 h1 h2) : Un fs ex H H2 h h2 where
  keep := fun c ob q n hc hx => b.keep c ob (a.keep c ob q n hc hx) (a.free c ob q n hx) hc hx
  slot := fun c ob q n hc hx => by
    obtain ⟨sl, e1⟩ := a.slot c ob q n hc hx
    obtain ⟨sl', e2⟩ := b.slot c _ e1 (a.free c ob q n hx) hc hx
    exact ⟨sl', e2⟩
  free := fun c ob q n hx => by
    obtain ⟨o', e1⟩ := a.there c ob q hx
    exact b.free c o' e1 (a.free c ob q n hx) hx
  there := fun c ob q hx => by
    obtain ⟨o', e1⟩ := a.there c ob q hx
    exact b.there c o' e1 hx
  tups := fun c xs q => b.tups c xs (a.tups c xs q)
  frzs := fun c ob xs q => b.frzs c ob xs (a.frzs c ob xs q)
  tbls := fun c ps q => by
    obtain ⟨m1, e1⟩ := a.tbls c ps q
    obtain ⟨m2, e2⟩ := b.tbls c _ e1
    exact ⟨m1 ++ m2, by rw [e2, Array.append_assoc]⟩
theorem Un.kept (k : ∀ b u, h.get? b = some u → h'.get? b = some u) : Un fs ex H H h h' :=
  ⟨fun b ob q _ _ _ => k b ob q, fun b ob q _ _ _ => ⟨ob.slots, k b ob q⟩, fun _ _ _ n _ => n, fun b ob q _ => ⟨ob, k b ob q⟩, fun _ _ q => q, fun _ _ _ q => q, fun _ ps q => ⟨#[], by rw [q]; simp⟩⟩
theorem Un.refl : Un fs ex H H h h := Un.kept fun _ _ q => q
theorem Un.laid (k : ∀ b u, h.get? b = some u → h'.get? b = some u) (hp : h.objs.size ≤ a) (hn : H a = none) : Un fs ex H (upd H a o) h h' where
  keep := fun b u q _ _ _ => k b u q
  slot := fun b u q _ _ _ => ⟨u.slots, k b u q⟩
  free := fun b u q n _ => by rw [upd_ne (Nat.ne_of_lt (Nat.lt_of_lt_of_le (Heap.lt_size q) hp))]; exact n
  there := fun b u q _ => ⟨u, k b u q⟩
  tups := fun b xs q => by rw [upd_ne (ne_of_none q hn)]; exact q
  frzs := fun b u xs q => by rw [upd_ne (ne_of_none q hn)]; exact q
  tbls := fun b ps q => ⟨#[], by rw [upd_ne (ne_of_none q hn), q]; simp⟩
theorem Un.write (mu : Mut (H x)) (he : e = x ∨ H e = some (.own x)) (k : ∀ b u, b ≠ e → h.get? b = some u → h'.get? b = some u) (heo : ∃ u, h'.get? e = some u) : Un fs ex H (upd H x o) h h' := by
  have hx : ∀ b, H b = none → b ≠ x := fun b n z => by subst z; rw [n] at mu; exact mu
  have hb : ∀ b, H b = none → b ≠ e := fun b n z => by
    subst z
    rcases he with r | r
    · exact hx b n r
    · rw [n] at r; cases r
  have hm : ∀ b u, H b = some u → ¬ Mut (some u) → b ≠ x := fun b u q nm z => by subst z; rw [q] at mu; exact nm mu
  refine ⟨fun b u q n _ _ => k b u (hb b n) q, fun b u q n _ _ => ⟨u.slots, k b u (hb b n) q⟩, fun b u q n _ => by rw [upd_ne (hx b n)]; exact n, fun b u q _ => ?_,
    fun b xs q => by rw [upd_ne (hm b _ q fun z => z)]; exact q, fun b u xs q => by rw [upd_ne (hm b _ q fun z => z)]; exact q, fun b ps q => ⟨#[], by rw [upd_ne (hm b _ q fun z => z), q]; simp⟩⟩
  by_cases hbe : b = e
  · subst hbe; exact heo
  · exact ⟨u, k b u hbe q⟩
theorem Un.mono (u : Un fs ex H H1 h h1) (hs : ∀ b ∈ fs, b ∈ fs') (hx : ∀ b ∈ ex, b ∈ ex') : Un fs' ex' H H1 h h1 :=
  ⟨fun b ob q n hb he => u.keep b ob q n (fun z => hb (hs b z)) fun z => he (hx b z), fun _ _ q n _ he => u.any q n fun z => he (hx _ z), fun b ob q n he => u.free b ob q n fun z => he (hx b z), fun b ob q he => u.there b ob q fun z => he (hx b z), u.tups, u.frzs, u.tbls⟩
end

/-! ### the heap without what is tracked -/
noncomputable def trk (h : Heap) (H : Hp) : List Addr := (List.range h.objs.size).filter fun a => (H a).isSome
noncomputable def hidT (h : Heap) (H : Hp) : Heap := PySem.W.hideAll h (trk h H)
theorem hidT_size (h : Heap) (H : Hp) : (hidT h H).objs.size = h.objs.size := PySem.W.hideAll_size _ _
theorem hidT_get {h : Heap} {H : Hp} {b : Addr} {o : Obj} (e : h.get? b = some o) (n : H b = none) : (hidT h H).get? b = some o :=
  PySem.W.hideAll_get _ e fun hm => by
    have q : (H b).isSome = true := (List.mem_filter.mp hm).2
    rw [n] at q; simp at q
theorem of_hidT {h : Heap} {H : Hp} {b : Addr} {o : Obj} (e : (hidT h H).get? b = some o) : h.get? b = some o ∧ H b = none := by
  have e' : h.get? b = some o := PySem.W.of_hideAll (trk h H) e
  refine ⟨e', ?_⟩
  cases q : H b with
  | none => rfl
  | some x =>
    have hm : b ∈ trk h H := List.mem_filter.mpr ⟨List.mem_range.mpr (Heap.lt_size e'), by simp [q]⟩
    have z : (hidT h H).get? b = none := PySem.W.hideAll_none (trk h H) hm
    rw [z] at e; cases e

/-! ### OpenK's ledger, filled with every new object but one -/
noncomputable def allNews (g h : Heap) (L : Addr) : List (Addr × Obj) := (List.range h.objs.size).filterMap fun a => if a = L ∨ (g.get? a).isSome = true then none else (h.get? a).map fun o => (a, o)
noncomputable def rest (g h : Heap) (L d : Addr) : List (Addr × Obj) := (allNews g h L).filter fun p => decide (p.1 ≠ d)
end L2

namespace L2
open PySem PySem.Spec PyProof.Rows

/-- the module's facts, over the base: the heap at the law's entry without what is tracked there -/
structure Mod (K : PySem.W.Frag) (mg : Str → Option Value) (base : Heap) : Prop where
  kin : K.In base
  glob : base.Ns mainGlobals mg
  blt : ∃ mb, base.Ns builtinsNs mb ∧ ∀ x : Str, x ≠ "__name__" → mb x = bootBuiltins x
  nolimit : base.NoLimit

/-- the context: a def's body (or a comprehension's block) running. base: fixed through the whole law; s₀, H₀: the entry; outer: the frames whose slots others may change (a def's callers); stack: all frames that run;
   ex: iterators that were made ahead of the entry and are walked here (a comprehension's); fn: the names whose cells were made at the entry (a def: all; a comprehension's block: its own); calm: not within an except suite; pn: pins that every state bears; xe: what is wanted of an exception that leaves the code -/
structure Cx where
  prog : Program
  w : World
  K : PySem.W.Frag
  mg : Str → Option Value
  base : Heap
  A : Around
  N : List Str
  s₀ : Shared
  H₀ : Hp
  env : Env
  outer : List Env
  stack : List Env
  ex : List Addr
  fn : Str → Bool
  calm : Bool
  pn : List (Addr × Obj)
  xe : Value → Shared → Prop
/-- the callers' frames -/
noncomputable def frs (l : List Env) : List Addr := l.filterMap (·.frame)
noncomputable abbrev Cx.fs (X : Cx) : List Addr := frs X.outer

noncomputable def Vis (sc : Scope) (x : Str) : Prop := sc.names.lookup x = some .local ∨ sc.names.lookup x = some .cell ∨ sc.names.lookup x = some .free
noncomputable def Loc (sc : Scope) (x : Str) : Prop := sc.names.lookup x = some .local ∨ sc.names.lookup x = some .cell
noncomputable def Look (env : Env) (h : Heap) (m : Str → Option Value) (x : Str) (u : Value) : Prop :=
  (env.kindOf x = some .local ∧ m x = some u) ∨ ((env.kindOf x = some .cell ∨ env.kindOf x = some .free) ∧ ∃ c, env.cells.lookup x = some c ∧ h.IsCell c (some u))

structure Cx.Ok (X : Cx) : Prop where
  mod : Mod X.K X.mg X.base
  kind : X.env.scope.kind = .function
  glob : X.env.globals = mainGlobals
  blt : X.env.builtins = builtinsNs
  above : X.s₀.heap.objs.size ≤ X.env.locals
  inj : ∀ x y c, X.env.cells.lookup x = some c → X.env.cells.lookup y = some c → x = y
  has : ∀ x, (X.env.kindOf x = some .cell ∨ X.env.kindOf x = some .free) → ∃ c, X.env.cells.lookup x = some c
  cab : ∀ x c, X.fn x = true → X.env.cells.lookup x = some c → X.s₀.heap.objs.size ≤ c
  hd : X.calm = true → X.A.handled = none
  frames : X.A.frames = some X.stack
  stk : X.stack = X.outer ∨ (X.stack = X.env :: X.outer ∧ X.env.frame = some X.env.locals)
  exf : ∀ b ∈ X.ex, b ≠ X.env.locals ∧ ∀ x c, X.env.cells.lookup x = some c → c ≠ b
  bs : ∀ b o, X.base.get? b = some o → X.s₀.heap.get? b = some o ∧ X.H₀ b = none
  bsz : X.base.objs.size ≤ X.s₀.heap.objs.size
  noex : ∀ b o, X.base.get? b = some o → b ∉ X.ex
  exfs : ∀ b ∈ X.ex, b ∉ X.fs
  funs : X.s₀.heap.FunFrames X.base X.outer
  frf : ∀ b ∈ X.fs, X.H₀ b = none

structure Inv (X : Cx) (pins : List (Addr × Obj)) (σ : List (Option V)) (H : Hp) (s : Shared) : Prop where
  ok : X.Ok
  os : s.os = X.s₀.os
  bare : AllBare s.gens
  base : Un X.fs X.ex X.H₀ H X.s₀.heap s.heap
  loc : ∃ m, s.heap.Ns X.env.locals m ∧ ∀ (i : Nat) (x : Str) (v : V), X.N[i]? = some x → σ[i]? = some (some v) → Vis X.env.scope x → ∃ u, RelV v u ∧ Look X.env s.heap m x u
  cell : ∀ x c, X.env.cells.lookup x = some c → ∃ v, s.heap.IsCell c v
  free : H X.env.locals = none
  freeC : ∀ x c, X.env.cells.lookup x = some c → H c = none
  pin : ∀ p ∈ X.pn ++ pins, s.heap.get? p.1 = some p.2 ∧ H p.1 = none ∧ p.1 ≠ X.env.locals ∧ p.1 ∉ X.fs ∧ ∀ v, p.2.data ≠ .cell v
  hok : HOk X.prog X.w H s.heap
  len : σ.length = X.N.length

section
variable {X : Cx} {pins : List (Addr × Obj)} {σ : List (Option V)} {H H' : Hp} {s : Shared} {h' : Heap}

theorem Cx.Ok.nofr (ok : X.Ok) {b : Addr} {o : Obj} (e : X.base.get? b = some o) : b ∉ X.fs := fun hb => by
  have := (ok.funs.mem hb).1
  rw [e] at this; cases this
theorem Inv.bs (I : Inv X pins σ H s) : ∀ b o, X.base.get? b = some o → s.heap.get? b = some o ∧ H b = none := fun b o e =>
  ⟨I.base.keep b o (I.ok.bs b o e).1 (I.ok.bs b o e).2 (I.ok.nofr e) (I.ok.noex b o e), I.base.free b o (I.ok.bs b o e).1 (I.ok.bs b o e).2 (I.ok.noex b o e)⟩
theorem Inv.bk (I : Inv X pins σ H s) : ∀ b o, X.base.get? b = some o → s.heap.get? b = some o := fun b o e => (I.bs b o e).1
theorem Inv.mod (I : Inv X pins σ H s) : Mod X.K X.mg X.base := I.ok.mod
theorem Inv.kIn (I : Inv X pins σ H s) : X.K.In s.heap := I.ok.mod.kin.keeps I.bk
theorem Inv.nolimit (I : Inv X pins σ H s) : s.heap.NoLimit := I.ok.mod.nolimit.keeps I.bk
/-- the frame over the base: for OpenK's rules (K.In X.base is I.mod.kin) -/
theorem Inv.fr (I : Inv X pins σ H s) : ∃ m, Fr X.base X.env.locals s.heap m :=
  let ⟨m, hn, _⟩ := I.loc
  ⟨m, hn, I.bk, Nat.le_trans I.ok.bsz I.ok.above⟩
theorem Inv.lt (I : Inv X pins σ H s) : X.env.locals < s.heap.objs.size := let ⟨_, hn, _⟩ := I.loc; hn.lt
theorem Inv.sz (I : Inv X pins σ H s) : X.s₀.heap.objs.size ≤ s.heap.objs.size := Nat.le_trans I.ok.above (Nat.le_of_lt I.lt)
theorem Inv.nofs (I : Inv X pins σ H s) {a : Addr} (h : s.heap.objs.size ≤ a) : a ∉ X.fs := fun hb => by
  obtain ⟨_, o, ho, _⟩ := I.ok.funs.mem hb
  exact absurd (Nat.lt_of_lt_of_le (Heap.lt_size ho) (Nat.le_trans I.sz h)) (Nat.lt_irrefl _)
theorem Inv.cne (I : Inv X pins σ H s) : ∀ x c, X.env.cells.lookup x = some c → c ≠ X.env.locals := fun x c e z => by
  obtain ⟨v, o, ho, hd⟩ := I.cell x c e
  obtain ⟨m, ⟨o', es, ep, ho', hd', _⟩, _⟩ := I.loc
  rw [z, ho'] at ho; cases ho; rw [hd'] at hd; cases hd
theorem Inv.funs (I : Inv X pins σ H s) : s.heap.FunFrames X.base X.outer := by
  have all : ∀ (l : List Env), (∀ b ∈ frs l, b ∈ X.fs) → X.s₀.heap.FunFrames X.base l → s.heap.FunFrames X.base l := by
    intro l
    induction l with
    | nil => intro _ _; trivial
    | cons env r ih =>
      intro hs hl
      obtain ⟨hk, ⟨L, o, hf, hn, ho, hd⟩, hr⟩ := hl
      have hL : L ∈ X.fs := hs L (by unfold frs; rw [List.filterMap_cons, hf]; exact List.mem_cons_self)
      obtain ⟨sl, e⟩ := I.base.slot L o ho (I.ok.frf L hL) hL fun z => I.ok.exfs L z hL
      exact ⟨hk, ⟨L, _, hf, hn, e, hd⟩, ih (fun b hb => hs b (by unfold frs; rw [List.filterMap_cons, hf]; exact List.mem_cons_of_mem _ hb)) hr⟩
  exact all X.outer (fun _ hb => hb) I.ok.funs

/-- the frames that run, for a call -/
theorem Inv.stack (I : Inv X pins σ H s) : s.heap.FunFrames X.base X.stack := by
  rcases I.ok.stk with e | ⟨e, hf⟩
  · rw [e]; exact I.funs
  · rw [e]
    obtain ⟨m, hn, _⟩ := I.loc
    refine .cons (by rw [I.ok.kind]; decide) hf hn ?_ I.funs
    exact Heap.get?_none_of_le (Nat.le_trans I.ok.bsz I.ok.above)
theorem Inv.stkSub (I : Inv X pins σ H s) : ∀ b ∈ frs X.stack, b ∈ X.env.locals :: X.fs := fun b hb => by
  rcases I.ok.stk with e | ⟨e, hf⟩
  · rw [e] at hb; exact List.mem_cons_of_mem _ hb
  · rw [e] at hb
    unfold frs at hb
    rw [List.filterMap_cons, hf] at hb
    exact hb
theorem Inv.stkFree (I : Inv X pins σ H s) : ∀ b ∈ frs X.stack, H b = none := fun b hb => by
  rcases List.mem_cons.mp (I.stkSub b hb) with e | hb
  · rw [e]; exact I.free
  · obtain ⟨_, o, ho, _⟩ := I.ok.funs.mem hb
    exact I.base.free b o ho (I.ok.frf b hb) fun z => I.ok.exfs b z hb

/-- THE STEP: the untracked objects but the frame and the records at ch are kept (the callers' frames up to slots), the frame's map is kept, the new abstract heap is held -/
theorem Inv.step {g' : Array GenState} {t' : Nat} {d' : Drawn} {ch : List Addr} (I : Inv X pins σ H s)
    (hch : ∀ b ∈ ch, (b ∈ X.ex ∨ X.s₀.heap.objs.size ≤ b) ∧ b ≠ X.env.locals ∧ (∀ x c, X.env.cells.lookup x = some c → c ≠ b) ∧ ∀ p ∈ X.pn ++ pins, p.1 ≠ b)
    (keep : ∀ b o, b ≠ X.env.locals → b ∉ X.fs → b ∉ ch → s.heap.get? b = some o → H b = none → h'.get? b = some o)
    (slot : ∀ b o, b ≠ X.env.locals → b ∈ X.fs → b ∉ ch → s.heap.get? b = some o → H b = none → ∃ sl, h'.get? b = some { o with slots := sl }) (free : ∀ b o, b ∉ ch → s.heap.get? b = some o → H b = none → H' b = none)
    (there : ∀ b o, b ∉ ch → s.heap.get? b = some o → ∃ o', h'.get? b = some o')
    (tups : ∀ b xs, H b = some (.tup xs) → H' b = some (.tup xs)) (frzs : ∀ b o u, H b = some (.frz o u) → H' b = some (.frz o u)) (tbls : ∀ b ps, H b = some (.tbl ps) → ∃ more, H' b = some (.tbl (ps ++ more)))
    (ns : ∀ m, s.heap.Ns X.env.locals m → h'.Ns X.env.locals m) (hok : HOk X.prog X.w H' h') (hg : AllBare g') :
    Inv X pins σ H' { s with heap := h', gens := g', drawn := d', toks := t' } := by
  have neL : ∀ b o, X.s₀.heap.get? b = some o → b ≠ X.env.locals := fun b o e => Nat.ne_of_lt (Nat.lt_of_lt_of_le (Heap.lt_size e) I.ok.above)
  have neC : ∀ b o, X.s₀.heap.get? b = some o → b ∉ X.ex → b ∉ ch := fun b o e hx hb => by
    rcases (hch b hb).1 with z | z
    · exact hx z
    · exact absurd (Nat.lt_of_lt_of_le (Heap.lt_size e) z) (Nat.lt_irrefl _)
  have cellK : ∀ x c, X.env.cells.lookup x = some c → ∀ v, s.heap.IsCell c v → h'.IsCell c v := fun x c e v ⟨o, ho, hd⟩ => by
    have nch : c ∉ ch := fun z => (hch c z).2.2.1 x c e rfl
    by_cases hc : c ∈ X.fs
    · obtain ⟨sl, q⟩ := slot c o (I.cne x c e) hc nch ho (I.freeC x c e)
      exact ⟨_, q, hd⟩
    · exact ⟨o, keep c o (I.cne x c e) hc nch ho (I.freeC x c e), hd⟩
  refine ⟨I.ok, I.os, hg, ⟨fun b o e n hb hx => ?_, fun b o e n hb hx => ?_, fun b o e n hx => ?_, fun b o e hx => ?_, fun b xs e => tups b xs (I.base.tups b xs e), fun b o xs e => frzs b o xs (I.base.frzs b o xs e), fun b ps e => ?_⟩, ?_, fun x c e => ?_, ?_, fun x c e => ?_, fun p hp => ?_, hok, I.len⟩
  · exact keep b o (neL b o e) hb (neC b o e hx) (I.base.keep b o e n hb hx) (I.base.free b o e n hx)
  · obtain ⟨sl, e1⟩ := I.base.slot b o e n hb hx
    obtain ⟨sl', e2⟩ := slot b _ (neL b o e) hb (neC b o e hx) e1 (I.base.free b o e n hx)
    exact ⟨sl', e2⟩
  · obtain ⟨o', e1⟩ := I.base.there b o e hx
    exact free b o' (neC b o e hx) e1 (I.base.free b o e n hx)
  · obtain ⟨o', e1⟩ := I.base.there b o e hx
    exact there b o' (neC b o e hx) e1
  · obtain ⟨m1, e1⟩ := I.base.tbls b ps e
    obtain ⟨m2, e2⟩ := tbls b _ e1
    exact ⟨m1 ++ m2, by rw [e2, Array.append_assoc]⟩
  · obtain ⟨m, hn, hl⟩ := I.loc
    refine ⟨m, ns m hn, fun i x v e1 e2 e3 => ?_⟩
    obtain ⟨u, r, l⟩ := hl i x v e1 e2 e3
    refine ⟨u, r, ?_⟩
    rcases l with l | ⟨k, c, e, z⟩
    · exact .inl l
    · exact .inr ⟨k, c, e, cellK x c e _ z⟩
  · obtain ⟨v, z⟩ := I.cell x c e
    exact ⟨v, cellK x c e v z⟩
  · obtain ⟨m, ⟨o, _, _, ho, _⟩, _⟩ := I.loc
    exact free _ o (fun z => (hch _ z).2.1 rfl) ho I.free
  · obtain ⟨v, o, ho, hd⟩ := I.cell x c e
    exact free c o (fun z => (hch c z).2.2.1 x c e rfl) ho (I.freeC x c e)
  · obtain ⟨e, n, ne, nf, d⟩ := I.pin p hp
    have nch : p.1 ∉ ch := fun z => (hch p.1 z).2.2.2 p hp rfl
    exact ⟨keep p.1 p.2 ne nf nch e n, free p.1 p.2 nch e n, ne, nf, d⟩
/-- .. where the frame's own object is kept too -/
theorem Inv.un {t' : Nat} (I : Inv X pins σ H s) (u : Un X.fs [] H H' s.heap h') (hok : HOk X.prog X.w H' h') : Inv X pins σ H' { s with heap := h', toks := t' } := by
  obtain ⟨m, ⟨o, es, ep, ho, r⟩, _⟩ := id I.loc
  obtain ⟨sl, hL⟩ := u.any ho I.free (by simp)
  exact I.step (g' := s.gens) (d' := s.drawn) (ch := []) (fun _ z => nomatch z) (fun b o _ hb _ e n => u.keep b o e n hb (by simp)) (fun b o _ hb _ e n => u.slot b o e n hb (by simp)) (fun b o _ e n => u.free b o e n (by simp)) (fun b o _ e => u.there b o e (by simp)) u.tups u.frzs u.tbls (fun m' hm => by
    obtain ⟨o', es', ep', ho', r'⟩ := hm
    rw [ho] at ho'; cases ho'
    exact ⟨_, es', ep', hL, r'⟩) hok I.bare
/-- behind a call (or a comprehension's block): the slots of this frame may have changed too, the records at ch may have turned -/
theorem Inv.call {g' : Array GenState} {t' : Nat} {d' : Drawn} {ch : List Addr} (I : Inv X pins σ H s) (u : Un (frs X.stack) ch H H' s.heap h') (hok : HOk X.prog X.w H' h') (hg : AllBare g')
    (hch : ∀ b ∈ ch, (b ∈ X.ex ∨ X.s₀.heap.objs.size ≤ b) ∧ b ≠ X.env.locals ∧ (∀ x c, X.env.cells.lookup x = some c → c ≠ b) ∧ ∀ p ∈ X.pn ++ pins, p.1 ≠ b) :
    Inv X pins σ H' { s with heap := h', gens := g', drawn := d', toks := t' } := by
  obtain ⟨m, ⟨o, es, ep, ho, r⟩, _⟩ := id I.loc
  obtain ⟨sl, hL⟩ := u.any ho I.free fun z => (hch _ z).2.1 rfl
  exact I.step (ch := ch) hch (fun b o hL hb hc e n => u.keep b o e n (fun z => (List.mem_cons.mp (I.stkSub b z)).elim hL hb) hc) (fun b o _ _ hc e n => u.any e n hc) (fun b o hc e n => u.free b o e n hc) (fun b o hc e => u.there b o e hc) u.tups u.frzs u.tbls (fun m' hm => by
    obtain ⟨o', es', ep', ho', r'⟩ := hm
    rw [ho] at ho'; cases ho'
    exact ⟨_, es', ep', hL, r'⟩) hok hg
/-- an untracked record of ours (an iterator) has turned -/
theorem Inv.turned {t' : Nat} {it : Addr} (I : Inv X pins σ H s) (k : ∀ b o, b ≠ it → s.heap.get? b = some o → h'.get? b = some o) (hn : H it = none) (hL : it ≠ X.env.locals)
    (h1 : it ∈ X.ex ∨ X.s₀.heap.objs.size ≤ it) (h2 : ∀ x c, X.env.cells.lookup x = some c → c ≠ it) (h3 : ∀ p ∈ X.pn ++ pins, p.1 ≠ it) : Inv X pins σ H { s with heap := h', toks := t' } := by
  have nit : ∀ b u, H b = some u → b ≠ it := fun b u e z => by rw [z, hn] at e; cases e
  refine I.step (g' := s.gens) (d' := s.drawn) (ch := [it]) (fun b hb => ?_) (fun b o _ _ hc e _ => k b o (fun z => hc (by simp [z])) e) (fun b o _ _ hc e _ => ⟨o.slots, k b o (fun z => hc (by simp [z])) e⟩) (fun _ _ _ _ n => n)
    (fun b o hc e => ⟨o, k b o (fun z => hc (by simp [z])) e⟩) (fun _ _ e => e) (fun _ _ _ e => e) (fun b ps e => ⟨#[], by rw [e]; simp⟩) (fun m hm => ?_) (fun b u e => ?_) I.bare
  · have e : b = it := by simpa using hb
    subst e
    exact ⟨h1, hL, h2, h3⟩
  · obtain ⟨o, es, ep, ho, r⟩ := hm
    exact ⟨o, es, ep, k _ o (Ne.symm hL) ho, r⟩
  · refine (I.hok b u e).stay (fun c v hc q => k c v ?_ q) (fun _ q => q) fun _ _ q => q
    rcases hc with z | z
    · rw [z]; exact nit b u e
    · exact nit c _ z
theorem Inv.tok (I : Inv X pins σ H s) (t : Nat) : Inv X pins σ H { s with toks := t } := I.un (h' := s.heap) (t' := t) Un.refl I.hok
/-- all objects kept -/
theorem Inv.kept {t' : Nat} (I : Inv X pins σ H s) (k : ∀ b u, s.heap.get? b = some u → h'.get? b = some u) : Inv X pins σ H { s with heap := h', toks := t' } := I.un (Un.kept k) (I.hok.kept k)
/-- a new object laid and tracked -/
theorem Inv.laid {a : Addr} {o : HO} {t' : Nat} (I : Inv X pins σ H s) (k : ∀ b u, s.heap.get? b = some u → h'.get? b = some u) (hp : s.heap.objs.size ≤ a) (new : ObjOk X.prog X.w (upd H a o) h' a o) :
    Inv X pins σ (upd H a o) { s with heap := h', toks := t' } := I.un (Un.laid k hp (I.hok.fresh hp)) (I.hok.laid k hp new)
/-- an object written -/
theorem Inv.write {x e : Addr} {o : HO} {t' : Nat} (I : Inv X pins σ H s) (mu : Mut (H x)) (he : e = x ∨ H e = some (.own x)) (k : ∀ b u, b ≠ e → s.heap.get? b = some u → h'.get? b = some u) (heo : ∃ u, h'.get? e = some u)
    (new : ObjOk X.prog X.w (upd H x o) h' x o) : Inv X pins σ (upd H x o) { s with heap := h', toks := t' } := I.un (Un.write mu he k heo) (I.hok.write mu he k heo new)
theorem Inv.pins_of {pins' : List (Addr × Obj)} (I : Inv X pins σ H s) (h : ∀ p ∈ pins', s.heap.get? p.1 = some p.2 ∧ H p.1 = none ∧ p.1 ≠ X.env.locals ∧ p.1 ∉ X.fs ∧ ∀ v, p.2.data ≠ .cell v) : Inv X pins' σ H s :=
  ⟨I.ok, I.os, I.bare, I.base, I.loc, I.cell, I.free, I.freeC, fun p hp => (List.mem_append.mp hp).elim (fun z => I.pin p (List.mem_append_left _ z)) (h p), I.hok, I.len⟩

theorem nodup_ix {N : List Str} (hN : N.Nodup) {i j : Nat} {x : Str} (a : N[i]? = some x) (b : N[j]? = some x) : i = j := by
  obtain ⟨h1, e1⟩ := List.getElem?_eq_some_iff.mp a
  obtain ⟨h2, e2⟩ := List.getElem?_eq_some_iff.mp b
  exact (List.getElem_inj hN).mp (e1.trans e2.symm)

/-- a name is stored; what changed -/
theorem store_ok2 {M : Model} {A : Around} {E : Value → Shared → Prop} {i : Nat} {x : Str} {v : V} {u : Value} {Q : Unit → Shared → Prop} (I : Inv X pins σ H s) (hN : X.N.Nodup) (hi : X.N[i]? = some x) (hx : Loc X.env.scope x) (r : RelV v u)
    (h : ∀ s', Inv X pins (σ.set i (some v)) H s' → (∃ a, Heap.SameBut a s.heap s'.heap ∧ (a = X.env.locals ∨ X.env.cells.lookup x = some a)) → Q () s') (hf : X.fn x = true ∨ X.env.scope.names.lookup x = some .local := by first | exact .inl rfl | exact .inr rfl | assumption) : wpAny M A (storeName X.env x u) Q E s := by
  obtain ⟨m, hn, hl⟩ := id I.loc
  have hcls : (X.env.scope.kind == .class || (X.env.scope.kind == .module && X.env.locals != X.env.globals)) = false := by rw [I.ok.kind]; rfl
  have hiσ : i < σ.length := by rw [I.len]; exact (List.getElem?_eq_some_iff.mp hi).1
  have cne := I.cne
  have tracked : ∀ {a : Addr} {h' : Heap}, (∃ o, s.heap.get? a = some o ∧ H a = none) → Heap.SameBut a s.heap h' → HOk X.prog X.w H h' := fun {a h'} ha hs b ob e => by
    obtain ⟨_, _, hfree⟩ := ha
    refine (I.hok b ob e).stay (fun c w' hc q => (hs.2 c ?_).trans q) (fun _ q => q) fun _ _ q => q
    rintro rfl
    rcases hc with rfl | hc
    · rw [hfree] at e; cases e
    · rw [hfree] at hc; cases hc
  rcases hx with hk | hk
  · refine wpAny_storeName_local hk hn (fun h' hn' hs => ?_) hcls
    obtain ⟨oL, _, _, hoL, _⟩ := id hn
    refine h _ ⟨I.ok, I.os, I.bare, ⟨fun b o e n hb hx => ?_, fun b o e n hb hx => ?_, I.base.free, fun b o e hx => ?_, I.base.tups, I.base.frzs, I.base.tbls⟩, ⟨_, hn', fun j y v' e1 e2 e3 => ?_⟩, fun y c e => ?_, I.free, I.freeC, fun p hp => ?_, tracked ⟨oL, hoL, I.free⟩ hs, by simpa using I.len⟩ ⟨_, hs, .inl rfl⟩
    · exact (hs.2 b (Nat.ne_of_lt (Nat.lt_of_lt_of_le (Heap.lt_size e) I.ok.above))).trans (I.base.keep b o e n hb hx)
    · obtain ⟨sl, e1⟩ := I.base.slot b o e n hb hx
      exact ⟨sl, (hs.2 b (Nat.ne_of_lt (Nat.lt_of_lt_of_le (Heap.lt_size e) I.ok.above))).trans e1⟩
    · obtain ⟨o', e1⟩ := I.base.there b o e hx
      exact ⟨o', (hs.2 b (Nat.ne_of_lt (Nat.lt_of_lt_of_le (Heap.lt_size e) I.ok.above))).trans e1⟩
    · by_cases hj : j = i
      · subst hj
        rw [hi] at e1; cases e1
        rw [List.getElem?_set_self hiσ] at e2
        cases e2
        exact ⟨u, r, .inl ⟨hk, by simp⟩⟩
      · rw [List.getElem?_set_ne (Ne.symm hj)] at e2
        obtain ⟨u', r', q⟩ := hl j y v' e1 e2 e3
        refine ⟨u', r', ?_⟩
        rcases q with ⟨k, e⟩ | ⟨k, c, e, z⟩
        · refine .inl ⟨k, ?_⟩
          have : y ≠ x := fun e => hj (nodup_ix hN e1 (e ▸ hi))
          simp [this, e]
        · exact .inr ⟨k, c, e, z.sameBut hs (cne y c e)⟩
    · obtain ⟨w', z⟩ := I.cell y c e
      exact ⟨w', z.sameBut hs (cne y c e)⟩
    · obtain ⟨e, n, ne, nf, d⟩ := I.pin p hp
      exact ⟨(hs.2 p.1 ne).trans e, n, ne, nf, d⟩
  · have hfn : X.fn x = true := by
      rcases hf with z | z
      · exact z
      · rw [z] at hk; cases hk
    obtain ⟨c, hc⟩ := I.ok.has x (.inl hk)
    obtain ⟨w', z⟩ := I.cell x c hc
    refine wpAny_storeName_cell I.ok.kind hk hc z (fun h' hc' hs => ?_)
    obtain ⟨oc, hoc, hocd⟩ := id z
    refine h { s with heap := h' } ⟨I.ok, I.os, I.bare, ⟨fun b o e n hb hx => ?_, fun b o e n hb hx => ?_, I.base.free, fun b o e hx => ?_, I.base.tups, I.base.frzs, I.base.tbls⟩, ⟨m, hn.sameBut hs (Ne.symm (cne x c hc)), fun j y v' e1 e2 e3 => ?_⟩, fun y c' e => ?_, I.free, I.freeC, fun p hp => ?_, tracked ⟨oc, hoc, I.freeC x c hc⟩ hs, by simpa using I.len⟩ ⟨c, hs, .inr hc⟩
    · exact (hs.2 b (Nat.ne_of_lt (Nat.lt_of_lt_of_le (Heap.lt_size e) (I.ok.cab x c hfn hc)))).trans (I.base.keep b o e n hb hx)
    · obtain ⟨sl, e1⟩ := I.base.slot b o e n hb hx
      exact ⟨sl, (hs.2 b (Nat.ne_of_lt (Nat.lt_of_lt_of_le (Heap.lt_size e) (I.ok.cab x c hfn hc)))).trans e1⟩
    · obtain ⟨o', e1⟩ := I.base.there b o e hx
      exact ⟨o', (hs.2 b (Nat.ne_of_lt (Nat.lt_of_lt_of_le (Heap.lt_size e) (I.ok.cab x c hfn hc)))).trans e1⟩
    · by_cases hj : j = i
      · subst hj
        rw [hi] at e1; cases e1
        rw [List.getElem?_set_self hiσ] at e2
        cases e2
        exact ⟨u, r, .inr ⟨.inl hk, c, hc, hc'⟩⟩
      · rw [List.getElem?_set_ne (Ne.symm hj)] at e2
        obtain ⟨u', r', q⟩ := hl j y v' e1 e2 e3
        refine ⟨u', r', ?_⟩
        rcases q with q | ⟨k, c', e, z'⟩
        · exact .inl q
        · refine .inr ⟨k, c', e, z'.sameBut hs ?_⟩
          rintro rfl
          exact hj (nodup_ix hN e1 (I.ok.inj _ _ _ e hc ▸ hi))
    · by_cases hcc : c' = c
      · subst hcc; exact ⟨_, hc'⟩
      · obtain ⟨w2, z2⟩ := I.cell y c' e
        exact ⟨w2, z2.sameBut hs hcc⟩
    · obtain ⟨e, n, ne, nf, d⟩ := I.pin p hp
      refine ⟨(hs.2 p.1 ?_).trans e, n, ne, nf, d⟩
      intro q
      rw [q, hoc] at e
      have q' : oc = p.2 := Option.some.inj e
      exact d w' (by rw [← q']; exact hocd)
theorem store_ok {M : Model} {A : Around} {E : Value → Shared → Prop} {i : Nat} {x : Str} {v : V} {u : Value} {Q : Unit → Shared → Prop} (I : Inv X pins σ H s) (hN : X.N.Nodup) (hi : X.N[i]? = some x) (hx : Loc X.env.scope x) (r : RelV v u)
    (h : ∀ s', Inv X pins (σ.set i (some v)) H s' → Q () s') (hf : X.fn x = true ∨ X.env.scope.names.lookup x = some .local := by first | exact .inl rfl | exact .inr rfl | assumption) : wpAny M A (storeName X.env x u) Q E s :=
  store_ok2 I hN hi hx r (fun s' I' _ => h s' I') hf
/-- behind a call or a block, the state as it is -/
theorem Inv.call' {s' : Shared} {ch : List Addr} (I : Inv X pins σ H s) (ho : s'.os = s.os) (u : Un (frs X.stack) ch H H' s.heap s'.heap) (hok : HOk X.prog X.w H' s'.heap) (hg : AllBare s'.gens)
    (hch : ∀ b ∈ ch, (b ∈ X.ex ∨ X.s₀.heap.objs.size ≤ b) ∧ b ≠ X.env.locals ∧ (∀ x c, X.env.cells.lookup x = some c → c ≠ b) ∧ ∀ p ∈ X.pn ++ pins, p.1 ≠ b) : Inv X pins σ H' s' := by
  obtain ⟨h', g', d', t', o'⟩ := s'
  have e : o' = s.os := ho
  subst e
  exact I.call (g' := g') (t' := t') (d' := d') u hok hg hch
end

/-! ### the judgements -/
/-- an exception: its class, its own dict's address (where it has one), the abstract heap behind it -/
noncomputable abbrev XK := Value → Option Addr → Hp → Prop
noncomputable abbrev St := List (Option V)
noncomputable abbrev VK := V → Hp → Prop
/-- an expression's reading; a test's; an argument list's -/
noncomputable abbrev TE := St → Hp → VK → Prop
noncomputable abbrev TT := St → Hp → (Bool → Hp → Prop) → Prop
noncomputable abbrev TA := St → Hp → (List V → Hp → Prop) → Prop
/-- what is wanted behind a statement -/
structure Ends where
  nx : St → Hp → Prop
  rt : VK
  bk : St → Hp → Prop := fun _ _ => False
  ct : St → Hp → Prop := fun _ _ => False
noncomputable abbrev TS := Ends → St → Hp → Prop

noncomputable def EP (X : Cx) (pins : List (Addr × Obj)) (σ : St) (Q : VK) (u : Value) (s' : Shared) : Prop := ∃ v H', Inv X pins σ H' s' ∧ RelV v u ∧ Q v H'
noncomputable def TP (X : Cx) (pins : List (Addr × Obj)) (σ : St) (Q : Bool → Hp → Prop) (b : Bool) (s' : Shared) : Prop := ∃ H', Inv X pins σ H' s' ∧ Q b H'
noncomputable def AP (X : Cx) (pins : List (Addr × Obj)) (σ : St) (Q : List V → Hp → Prop) (us : List Value) (s' : Shared) : Prop := ∃ vs H', Inv X pins σ H' s' ∧ Vals vs us ∧ Q vs H'
noncomputable def SP (X : Cx) (pins : List (Addr × Obj)) (D : Ends) (f : Flow) (s' : Shared) : Prop :=
  match f with
  | .next => ∃ σ' H', Inv X pins σ' H' s' ∧ D.nx σ' H'
  | .brk => ∃ σ' H', Inv X pins σ' H' s' ∧ D.bk σ' H'
  | .cont => ∃ σ' H', Inv X pins σ' H' s' ∧ D.ct σ' H'
  | .ret u => ∃ v σ' H', Inv X pins σ' H' s' ∧ RelV v u ∧ D.rt v H'

noncomputable def PE (X : Cx) (e : Expr) (t : TE) : Prop :=
  ∀ (pins : List (Addr × Obj)) (s : Shared) (σ : St) (H : Hp) (Q : VK), Inv X pins σ H s → t σ H Q → wpAny (model X.prog X.w) X.A (eval e X.env) (EP X pins σ Q) X.xe s
noncomputable def PT (X : Cx) (e : Expr) (t : TT) : Prop :=
  ∀ (pins : List (Addr × Obj)) (s : Shared) (σ : St) (H : Hp) (Q : Bool → Hp → Prop), Inv X pins σ H s → t σ H Q → wpAny (model X.prog X.w) X.A (isTrue e X.env (eval e X.env)) (TP X pins σ Q) X.xe s
/-- a test whatever its 'whole' is (and, or) -/
noncomputable def PW (X : Cx) (e : Expr) (t : TT) : Prop :=
  ∀ (whole : Sem Value) (pins : List (Addr × Obj)) (s : Shared) (σ : St) (H : Hp) (Q : Bool → Hp → Prop), Inv X pins σ H s → t σ H Q → wpAny (model X.prog X.w) X.A (isTrue e X.env whole) (TP X pins σ Q) X.xe s
theorem PW.pt {X : Cx} {e : Expr} {t : TT} (h : PW X e t) : PT X e t := h _
/-- an argument list (no star), from the left -/
noncomputable def PA (X : Cx) (es : List Expr) (t : TA) : Prop :=
  ∀ (pos : Pos) (pins : List (Addr × Obj)) (s : Shared) (σ : St) (H : Hp) (Q : List V → Hp → Prop), Inv X pins σ H s → t σ H Q → wpAny (model X.prog X.w) X.A (spliced (backTo pos (starEach es X.env))) (AP X pins σ Q) X.xe s
noncomputable def PS (X : Cx) (st : Stmt) (t : TS) : Prop :=
  ∀ (pins : List (Addr × Obj)) (s : Shared) (σ : St) (H : Hp) (D : Ends), Inv X pins σ H s → t D σ H → wpAny (model X.prog X.w) X.A (exec st X.env) (SP X pins D) X.xe s
noncomputable def PSs (X : Cx) (st : List Stmt) (t : TS) : Prop :=
  ∀ (pins : List (Addr × Obj)) (s : Shared) (σ : St) (H : Hp) (D : Ends), Inv X pins σ H s → t D σ H → wpAny (model X.prog X.w) X.A (execs st X.env) (SP X pins D) X.xe s
/-- weaken the end -/
theorem thn {α : Type} {t : Sem α} {Q Q' : α → Shared → Prop} {M : Model} {A : Around} {E : Value → Shared → Prop} {s : Shared} (h : wpAny M A t Q E s) (hQ : ∀ a s, Q a s → Q' a s) : wpAny M A t Q' E s := wpAny_mono h hQ fun _ _ x => x
end L2

namespace L2
open PySem PySem.Spec PyProof.Rows
section
variable {X : Cx}


/-! ### names and constants -/
noncomputable def tVar (i : Nat) : TE := fun σ H Q => ∃ v, σ[i]? = some (some v) ∧ Q v H
noncomputable def tC (v : V) : TE := fun _ H Q => Q v H
theorem pe_var {i : Nat} {x : Str} {pos : Pos} (hN : X.N[i]? = some x) (hv : Vis X.env.scope x) (hd : (x == ("__debug__" : Str)) = false := by decide) (hcd : (x == ("__classdict__" : Str)) = false := by decide) : PE X (.Name x pos) (tVar i) := by
  intro pins s σ H Q I h
  obtain ⟨v, e, h⟩ := h
  obtain ⟨m, hn, hl⟩ := I.loc
  obtain ⟨u, r, l⟩ := hl i x v hN e hv
  have fin : EP X pins σ Q u s := ⟨v, H, I, r, h⟩
  rcases l with ⟨hk, hm⟩ | ⟨hk, c, hc, hcell⟩
  · exact wpAny_Name (wpAny_loadName_local I.ok.kind hk hn hm fin) hd
  · rcases hk with hk | hk
    · exact wpAny_Name (wpAny_loadName_cell I.ok.kind hk hc hcell fin) hd
    · exact wpAny_Name (wpAny_loadName_free I.ok.kind hk hc hcell fin hcd) hd
theorem pe_int {i j pos} : PE X (.Constant (.int i) j pos) (tC (.int i)) := fun _ _ _ H _ I h => wpAny_Constant_int ⟨.int i, H, I.tok _, ⟨_, rfl⟩, h⟩
theorem pe_bl {b j pos} : PE X (.Constant (.bool b) j pos) (tC (.bl b)) := fun _ _ _ H _ I h => Constant_bool ⟨.bl b, H, I, rfl, h⟩
theorem pe_non {j pos} : PE X (.Constant .none j pos) (tC .non) := fun _ _ _ H _ I h => Constant_none ⟨.non, H, I, rfl, h⟩

/-- a global name of the def -/
noncomputable def Gl (X : Cx) (x : Str) : Prop := X.env.kindOf x = some .globalImplicit
theorem ld_glob {E : Value → Shared → Prop} {pins : List (Addr × Obj)} {s : Shared} {σ : St} {H : Hp} {x : Str} {u : Value} {pos : Pos} {Q : Value → Shared → Prop} (I : Inv X pins σ H s) (hg : Gl X x) (hm : X.mg x = some u) (h : Q u s)
    (hd : (x == ("__debug__" : Str)) = false := by decide) : wpAny (model X.prog X.w) X.A (eval (.Name x pos) X.env) Q E s :=
  Calls.Name_function_global I.ok.kind hg (Calls.loadGlobal_global (by rw [I.ok.glob]; exact I.mod.glob.keeps I.bk) hm h) hd
theorem ld_blt {E : Value → Shared → Prop} {pins : List (Addr × Obj)} {s : Shared} {σ : St} {H : Hp} {x : Str} {u : Value} {pos : Pos} {Q : Value → Shared → Prop} (I : Inv X pins σ H s) (hg : Gl X x) (hm : X.mg x = none) (hv : bootBuiltins x = some u) (h : Q u s)
    (hn : x ≠ "__name__" := by decide) (hd : (x == ("__debug__" : Str)) = false := by decide) : wpAny (model X.prog X.w) X.A (eval (.Name x pos) X.env) Q E s := by
  obtain ⟨mb, h1, h2⟩ := I.mod.blt
  exact Calls.Name_function_global I.ok.kind hg (Calls.loadGlobal_builtin (by rw [I.ok.glob]; exact I.mod.glob.keeps I.bk) hm (by rw [I.ok.blt]; exact h1.keeps I.bk) ((h2 x hn).trans hv) h) hd
theorem pe_bltn {x : Str} {v : V} {u : Value} {pos : Pos} (hg : Gl X x) (hm : X.mg x = none) (hv : bootBuiltins x = some u) (r : RelV v u) (hn : x ≠ "__name__" := by decide) (hd : (x == ("__debug__" : Str)) = false := by decide) : PE X (.Name x pos) (tC v) :=
  fun _ _ _ H _ I h => ld_blt I hg hm hv ⟨v, H, I, r, h⟩ hn hd

/-! ### arithmetic -/
/-- two ints -/
noncomputable def t2I (ta tb : TE) (k : Int → Int → Hp → Prop) : St → Hp → Prop := fun σ H => ta σ H fun x H1 => tb σ H1 fun y H2 => ∃ i j, x = .int i ∧ y = .int j ∧ k i j H2
noncomputable def tAdd (ta tb : TE) : TE := fun σ H Q => t2I ta tb (fun i j H2 => Q (.int (i + j)) H2) σ H
noncomputable def tSub (ta tb : TE) : TE := fun σ H Q => t2I ta tb (fun i j H2 => Q (.int (i - j)) H2) σ H
/-- the left factor below 2^64 -/
noncomputable def tMul (ta tb : TE) : TE := fun σ H Q => t2I ta tb (fun i j H2 => (-(2 ^ 64) < i ∧ i < 2 ^ 64) ∧ Q (.int (i * j)) H2) σ H
variable {a b : Expr} {ta tb : TE} {pos : Pos}

/-! ### comparisons -/
noncomputable def PC (X : Cx) (op : CmpOp) (a b : Expr) (t : TE) : Prop :=
  ∀ (pins : List (Addr × Obj)) (s : Shared) (σ : St) (H : Hp) (Q : VK), Inv X pins σ H s → t σ H Q →
    wpAny (model X.prog X.w) X.A (eval a X.env) (fun v s₁ => wpAny (model X.prog X.w) X.A (eval b X.env) (fun u s₂ => wpAny (model X.prog X.w) X.A (compareOp op v u) (EP X pins σ Q) X.xe s₂) X.xe s₁) X.xe s
noncomputable def tCmp (p : Int → Int → Bool) (ta tb : TE) : TE := fun σ H Q => t2I ta tb (fun i j H2 => Q (.bl (p i j)) H2) σ H
noncomputable abbrev tLt : TE → TE → TE := tCmp fun i j => decide (i < j)
noncomputable abbrev tLe : TE → TE → TE := tCmp fun i j => decide (i ≤ j)
noncomputable abbrev tGt : TE → TE → TE := tCmp fun i j => decide (j < i)
noncomputable abbrev tGe : TE → TE → TE := tCmp fun i j => decide (j ≤ i)
noncomputable abbrev tEqI : TE → TE → TE := tCmp fun i j => decide (i = j)
noncomputable abbrev tNeI : TE → TE → TE := tCmp fun i j => !decide (i = j)
/-- is None -/
noncomputable def tIsN (ta : TE) : TE := fun σ H Q => ta σ H fun x H1 => Q (.bl (decide (x = .non))) H1
noncomputable def tNotN (ta : TE) : TE := fun σ H Q => ta σ H fun x H1 => Q (.bl (!decide (x = .non))) H1
/-- a comparison as a value, as a test -/
noncomputable def tB (t : TE) : TT := fun σ H Q => t σ H fun x H1 => ∃ c, x = .bl c ∧ Q c H1
/-- an expression whose value is a bool, as a test -/
theorem pt_val {e : Expr} {t : TE} (h : PE X e t) (he : ∀ whole, isTrue e X.env whole = (do let v ← whole; standAt e.pos; holding [v] (truthy v)) := by intro _; rfl) : PT X e (tB t) := by
  intro pins s σ H Q I hw
  refine isTrue_plain (thn (h pins s σ H _ I hw) fun v s1 ⟨x, H1, I1, r1, q1⟩ => ?_) (he _)
  obtain ⟨d, rfl, q⟩ := q1
  cases r1
  exact wpAny_truthy_bool ⟨H1, I1, q⟩

/-! ### and, or, not -/
variable {tA tB' : TT} {rest : List Expr}
noncomputable def tAnd (t u : TT) : TT := fun σ H Q => t σ H fun c H1 => if c = true then u σ H1 Q else Q false H1
noncomputable def tOr (t u : TT) : TT := fun σ H Q => t σ H fun c H1 => if c = true then Q true H1 else u σ H1 Q
noncomputable def tNot (t : TT) : TT := fun σ H Q => t σ H fun c H1 => Q (!c) H1
theorem pw_and1 (ha : PT X a tA) : PW X (.BoolOp .And [a] pos) tA := by
  intro wh pins s σ H Q I h
  refine isTrue_and (thn (ha pins s σ H Q I h) fun c s1 e => ?_)
  cases c with
  | true => exact isTrue_and_nil e
  | false => exact e
theorem pw_or1 (ha : PT X a tA) : PW X (.BoolOp .Or [a] pos) tA := by
  intro wh pins s σ H Q I h
  refine isTrue_or (thn (ha pins s σ H Q I h) fun c s1 e => ?_)
  cases c with
  | false => exact isTrue_or_nil e
  | true => exact e
theorem pw_and (ha : PT X a tA) (hb : PW X (.BoolOp .And (b :: rest) pos) tB') : PW X (.BoolOp .And (a :: b :: rest) pos) (tAnd tA tB') := by
  intro wh pins s σ H Q I h
  refine isTrue_and (thn (ha pins s σ H _ I h) fun c s1 ⟨H1, I1, q1⟩ => ?_)
  cases c with
  | true => exact hb wh pins s1 σ H1 Q I1 q1
  | false => exact ⟨H1, I1, q1⟩
theorem pw_or (ha : PT X a tA) (hb : PW X (.BoolOp .Or (b :: rest) pos) tB') : PW X (.BoolOp .Or (a :: b :: rest) pos) (tOr tA tB') := by
  intro wh pins s σ H Q I h
  refine isTrue_or (thn (ha pins s σ H _ I h) fun c s1 ⟨H1, I1, q1⟩ => ?_)
  cases c with
  | true => exact ⟨H1, I1, q1⟩
  | false => exact hb wh pins s1 σ H1 Q I1 q1
/-- .. as values (bools) -/
noncomputable def tAndV (ta tb : TE) : TE := fun σ H Q => ta σ H fun x H1 => ∃ c, x = .bl c ∧ if c = true then tb σ H1 Q else Q (.bl false) H1
noncomputable def tOrV (ta tb : TE) : TE := fun σ H Q => ta σ H fun x H1 => ∃ c, x = .bl c ∧ if c = true then Q (.bl true) H1 else tb σ H1 Q
noncomputable def tNotV (ta : TE) : TE := fun σ H Q => ta σ H fun x H1 => ∃ c, x = .bl c ∧ Q (.bl (!c)) H1
theorem pe_one {op} {t : TE} (h : PE X a t) : PE X (.BoolOp op [a] pos) t := fun pins s σ H Q I hw => BoolOp_one (h pins s σ H Q I hw)
theorem pe_and (ha : PE X a ta) (hb : PE X (.BoolOp .And (b :: rest) pos) tb) : PE X (.BoolOp .And (a :: b :: rest) pos) (tAndV ta tb) := by
  intro pins s σ H Q I h
  refine BoolOp_and (thn (ha pins s σ H _ I h) fun v s1 ⟨x, H1, I1, r1, q1⟩ => ?_)
  obtain ⟨c, rfl, q1⟩ := q1
  cases r1
  refine wpAny_truthy_bool ?_
  cases c with
  | true => exact hb pins s1 σ H1 Q I1 q1
  | false => exact ⟨.bl false, H1, I1, rfl, q1⟩
theorem pe_or (ha : PE X a ta) (hb : PE X (.BoolOp .Or (b :: rest) pos) tb) : PE X (.BoolOp .Or (a :: b :: rest) pos) (tOrV ta tb) := by
  intro pins s σ H Q I h
  refine BoolOp_or (thn (ha pins s σ H _ I h) fun v s1 ⟨x, H1, I1, r1, q1⟩ => ?_)
  obtain ⟨c, rfl, q1⟩ := q1
  cases r1
  refine wpAny_truthy_bool ?_
  cases c with
  | false => exact hb pins s1 σ H1 Q I1 q1
  | true => exact ⟨.bl true, H1, I1, rfl, q1⟩
/-- a if t else b -/
noncomputable def tIf (t : TT) (ta tb : TE) : TE := fun σ H Q => t σ H fun c H1 => if c = true then ta σ H1 Q else tb σ H1 Q
theorem pe_ifExp {c : Expr} (hc : PT X c tA) (ha : PE X a ta) (hb : PE X b tb) : PE X (.IfExp c a b pos) (tIf tA ta tb) := by
  intro pins s σ H Q I h
  refine wpAny_IfExp (thn (hc pins s σ H _ I h) fun d s1 ⟨H1, I1, q1⟩ => ?_)
  cases d with
  | true => exact ha pins s1 σ H1 Q I1 q1
  | false => exact hb pins s1 σ H1 Q I1 q1
end
end L2

namespace L2
open PySem PySem.Spec PyProof.Rows

/-! ### a list, a tuple that is read: tracked, frozen, or an object of the module -/
noncomputable def SqL (K : PySem.W.Frag) (H : Hp) (a : Addr) (xs : List V) : Prop :=
  Rd H a (.lst xs) ∨
    ∃ (o : Obj) (its : Array Value) (n : Nat), K.lookup a = some o ∧ o.cls = .type "list" ∧ o.dict = none ∧ o.data = .seq its n ∧ its.size ≤ sizeLine ∧ Vals xs its.toList
noncomputable def SqT (K : PySem.W.Frag) (H : Hp) (a : Addr) (xs : List V) : Prop :=
  Rd H a (.tup xs) ∨
    ∃ (o : Obj) (its : Array Value) (n : Nat), K.lookup a = some o ∧ o.cls = .type "tuple" ∧ o.data = .seq its n ∧ its.size ≤ sizeLine ∧ Vals xs its.toList
noncomputable def absV : Value → Option V
  | .none => some .non
  | .bool b => some (.bl b)
  | .int i _ => some (.int i)
  | .str x _ => some (.str x)
  | .bytes b _ => some (.byt b)
  | .float b _ => some (.flt b)
  | .ref a => some (.ref a)
  | .type n => some (.ty n)
  | _ => none
theorem RelV.abs {x : V} {u : Value} (r : RelV x u) : absV u = some x := by
  cases x with
  | non => cases r; rfl
  | bl _ => cases r; rfl
  | int _ => obtain ⟨t, rfl⟩ := r; rfl
  | str _ => obtain ⟨t, rfl⟩ := r; rfl
  | byt _ => obtain ⟨t, rfl⟩ := r; rfl
  | flt _ => obtain ⟨t, rfl⟩ := r; rfl
  | ref _ => cases r; rfl
  | ty _ => cases r; rfl
theorem RelV.inj {x y : V} {u : Value} (r : RelV x u) (q : RelV y u) : x = y := Option.some.inj (r.abs.symm.trans q.abs)
theorem Vals.inj : ∀ {xs ys : List V} {us : List Value}, Vals xs us → Vals ys us → xs = ys
  | _, _, _, .nil, .nil => rfl
  | _, _, _, .cons r t, .cons r' t' => by rw [r.inj r', Vals.inj t t']
section
variable {X : Cx} {pins : List (Addr × Obj)} {σ : St} {H : Hp} {s : Shared} {a : Addr} {xs ys : List V}
theorem SqL.of {K : PySem.W.Frag} (h : H a = some (.lst xs)) : SqL K H a xs := .inl (.inl h)
theorem SqT.of {K : PySem.W.Frag} (h : H a = some (.tup xs)) : SqT K H a xs := .inl (.inl h)
theorem Inv.list (I : Inv X pins σ H s) (h : SqL X.K H a xs) : ∃ its : List Value, Vals xs its ∧ PlainL s.heap a its.toArray ∧ xs.length ≤ sizeLine := by
  rcases h with h | ⟨o, its, n, hk, hc, hd, hs, hz, r⟩
  · obtain ⟨z, its, n, r, e⟩ := h.ok I.hok
    exact ⟨its, r, ⟨_, n, e, rfl, rfl, rfl⟩, z⟩
  · refine ⟨its.toList, r, ⟨o, n, I.kIn a o hk, hc, hd, by simpa using hs⟩, ?_⟩
    have e := r.length
    simp only [Array.length_toList] at e
    omega
theorem Inv.tuple (I : Inv X pins σ H s) (h : SqT X.K H a xs) : ∃ its : List Value, Vals xs its ∧ IsTup s.heap a its.toArray ∧ xs.length ≤ sizeLine := by
  rcases h with h | ⟨o, its, n, hk, hc, hs, hz, r⟩
  · obtain ⟨z, its, r, p⟩ := h.ok I.hok
    exact ⟨its, r, p, z⟩
  · refine ⟨its.toList, r, ⟨o, I.kIn a o hk, hc, n, by simpa using hs⟩, ?_⟩
    have e := r.length
    simp only [Array.length_toList] at e
    omega
theorem Inv.list_inj (I : Inv X pins σ H s) (h : SqL X.K H a xs) (h' : SqL X.K H a ys) : xs = ys := by
  obtain ⟨its, r, ⟨o, n, e, _, _, d⟩, _⟩ := I.list h
  obtain ⟨its', r', ⟨o', n', e', _, _, d'⟩, _⟩ := I.list h'
  rw [e] at e'; cases e'
  rw [d] at d'
  injection d' with d1 _
  have : its = its' := by simpa using congrArg Array.toList d1
  subst this
  exact r.inj r'
theorem Inv.tuple_inj (I : Inv X pins σ H s) (h : SqT X.K H a xs) (h' : SqT X.K H a ys) : xs = ys := by
  obtain ⟨its, r, ⟨o, e, _, n, d⟩, _⟩ := I.tuple h
  obtain ⟨its', r', ⟨o', e', _, n', d'⟩, _⟩ := I.tuple h'
  rw [e] at e'; cases e'
  rw [d] at d'
  injection d' with d1 _
  have : its = its' := by simpa using congrArg Array.toList d1
  subst this
  exact r.inj r'
end

/-! ### another wish about exceptions -/
noncomputable abbrev Cx.wish (X : Cx) (E : Value → Shared → Prop) : Cx := { X with xe := E }
/-- no exception leaves -/
noncomputable abbrev Cx.nox (X : Cx) : Cx := X.wish fun _ _ => False
theorem Cx.Ok.wish {X : Cx} (ok : X.Ok) (E : Value → Shared → Prop) : (X.wish E).Ok :=
  ⟨ok.mod, ok.kind, ok.glob, ok.blt, ok.above, ok.inj, ok.has, ok.cab, ok.hd, ok.frames, ok.stk, ok.exf, ok.bs, ok.bsz, ok.noex, ok.exfs, ok.funs, ok.frf⟩
theorem Cx.Ok.unwish {X : Cx} {E : Value → Shared → Prop} (ok : (X.wish E).Ok) : X.Ok :=
  ⟨ok.mod, ok.kind, ok.glob, ok.blt, ok.above, ok.inj, ok.has, ok.cab, ok.hd, ok.frames, ok.stk, ok.exf, ok.bs, ok.bsz, ok.noex, ok.exfs, ok.funs, ok.frf⟩
section
variable {X : Cx} {pins : List (Addr × Obj)} {σ : St} {H : Hp} {s : Shared} {E : Value → Shared → Prop}
theorem Inv.wish (I : Inv X pins σ H s) (E : Value → Shared → Prop) : Inv (X.wish E) pins σ H s := ⟨I.ok.wish E, I.os, I.bare, I.base, I.loc, I.cell, I.free, I.freeC, I.pin, I.hok, I.len⟩
theorem Inv.unwish (I : Inv (X.wish E) pins σ H s) : Inv X pins σ H s := ⟨I.ok.unwish, I.os, I.bare, I.base, I.loc, I.cell, I.free, I.freeC, I.pin, I.hok, I.len⟩
theorem SP.unwish {D : Ends} {f : Flow} {s' : Shared} (h : SP (X.wish E) pins D f s') : SP X pins D f s' := by
  cases f with
  | next => obtain ⟨σ', H', I, q⟩ := h; exact ⟨σ', H', I.unwish, q⟩
  | brk => obtain ⟨σ', H', I, q⟩ := h; exact ⟨σ', H', I.unwish, q⟩
  | cont => obtain ⟨σ', H', I, q⟩ := h; exact ⟨σ', H', I.unwish, q⟩
  | ret u => obtain ⟨v, σ', H', I, r, q⟩ := h; exact ⟨v, σ', H', I.unwish, r, q⟩
theorem PE.nox {e : Expr} {t : TE} (h : PE X.nox e t) : PE X e t := fun pins s σ H Q I hw =>
  wpAny_mono (h pins s σ H Q (I.wish _) hw) (fun _ _ ⟨v, H', I', r, q⟩ => ⟨v, H', I'.unwish, r, q⟩) fun _ _ z => False.elim z
theorem PT.nox {e : Expr} {t : TT} (h : PT X.nox e t) : PT X e t := fun pins s σ H Q I hw =>
  wpAny_mono (h pins s σ H Q (I.wish _) hw) (fun _ _ ⟨H', I', q⟩ => ⟨H', I'.unwish, q⟩) fun _ _ z => False.elim z
theorem PSs.nox {st : List Stmt} {t : TS} (h : PSs X.nox st t) : PSs X st t := fun pins s σ H D I hw =>
  wpAny_mono (h pins s σ H D (I.wish _) hw) (fun _ _ q => q.unwish) fun _ _ z => False.elim z
end

/-! ### blocks and small statements -/
section
variable {X : Cx} {st : Stmt} {rest : List Stmt} {t u : TS} {e : Expr} {te : TE} {pos : Pos}
noncomputable def tNext : TS := fun D σ H => D.nx σ H
noncomputable def tSeq (t u : TS) : TS := fun D σ H => t { D with nx := u D } σ H
theorem pss_nil : PSs X [] tNext := fun _ _ σ H _ I h => wpAny_execs_nil ⟨σ, H, I, h⟩
theorem pss_cons (h1 : PS X st t) (h2 : PSs X rest u) : PSs X (st :: rest) (tSeq t u) := by
  intro pins s σ H D I h
  refine wpAny_execs_cons (thn (h1 pins s σ H { D with nx := u D } I h) fun f s1 q => ?_)
  cases f with
  | next =>
    obtain ⟨σ', H', I', q⟩ := q
    exact h2 pins s1 σ' H' D I' q
  | ret v => exact q
  | brk => exact q
  | cont => exact q
theorem pss_one (h1 : PS X st t) : PSs X [st] t := by
  intro pins s σ H D I h
  refine wpAny_execs_cons (thn (h1 pins s σ H D I h) fun f s1 q => ?_)
  cases f with
  | next => exact wpAny_execs_nil q
  | ret v => exact q
  | brk => exact q
  | cont => exact q
noncomputable def tBreak : TS := fun D σ H => D.bk σ H
noncomputable def tCont : TS := fun D σ H => D.ct σ H
/-- in a def's body nothing is shown -/
theorem Inv.quiet {pins : List (Addr × Obj)} {σ : St} {H : Hp} {s : Shared} (I : Inv X pins σ H s) : interactive X.env = false := by simp [interactive, I.ok.kind]
/-- an expression whose value is dropped -/
noncomputable def tDrop (te : TE) : TS := fun D σ H => te σ H fun _ H1 => D.nx σ H1
theorem ps_expr (he : PE X e te) (hs : swapsWith e none pos.line X.env = pure false := by rfl) : PS X (.Expr e pos) (tDrop te) := by
  intro pins s σ H D I h
  exact wpAny_Expr_any (thn (he pins s σ H _ I h) fun v s1 ⟨x, H1, I1, r1, q1⟩ => ⟨σ, H1, I1, q1⟩) I.quiet hs
noncomputable def tRet (te : TE) : TS := fun D σ H => te σ H D.rt
theorem ps_ret (he : PE X e te) : PS X (.Return (some e) pos) (tRet te) := by
  intro pins s σ H D I h
  exact wpAny_Return_some (thn (he pins s σ H _ I h) fun v s1 ⟨x, H1, I1, r1, q1⟩ => ⟨x, σ, H1, I1, r1, q1⟩)
noncomputable def tRetN : TS := fun D _ H => D.rt .non H
noncomputable def tIfS (c : TT) (t u : TS) : TS := fun D σ H => c σ H fun b H1 => if b = true then t D σ H1 else u D σ H1
theorem ps_if {c : Expr} {a b : List Stmt} {tc : TT} (hc : PT X c tc) (ha : PSs X a t) (hb : PSs X b u) : PS X (.If c a b pos) (tIfS tc t u) := by
  intro pins s σ H D I h
  refine wpAny_If (thn (hc pins s σ H _ I h) fun d s1 ⟨H1, I1, q1⟩ => ?_)
  cases d with
  | true => exact ha pins s1 σ H1 D I1 q1
  | false => exact hb pins s1 σ H1 D I1 q1
/-- code that the proof never comes to -/
noncomputable def tNever : TS := fun _ _ _ => False
end

/-! ### targets -/
noncomputable abbrev TG := V → St → Hp → (St → Hp → Prop) → Prop
noncomputable abbrev TGs := List V → St → Hp → (St → Hp → Prop) → Prop
noncomputable def PG (X : Cx) (target : Expr) (t : TG) : Prop :=
  ∀ (pins : List (Addr × Obj)) (s : Shared) (σ : St) (H : Hp) (v : V) (u : Value) (Q : St → Hp → Prop), Inv X pins σ H s → RelV v u → t v σ H Q →
    wpAny (model X.prog X.w) X.A (assign target X.env u) (fun _ s' => ∃ σ' H', Inv X pins σ' H' s' ∧ Q σ' H') X.xe s
/-- several targets, one after another -/
noncomputable def PGs (X : Cx) (ts : List Expr) (t : TGs) : Prop :=
  ∀ (pins : List (Addr × Obj)) (s : Shared) (σ : St) (H : Hp) (vs : List V) (us : List Value) (Q : St → Hp → Prop), Inv X pins σ H s → Vals vs us → t vs σ H Q →
    wpAny (model X.prog X.w) X.A (assignInOrder ((assignEach ts X.env).map (·.2)) us) (fun _ s' => ∃ σ' H', Inv X pins σ' H' s' ∧ Q σ' H') X.xe s
/-- o[i] = v, by values -/
noncomputable abbrev TSet := V → V → V → Hp → (Hp → Prop) → Prop
noncomputable def PSet (X : Cx) (t : TSet) : Prop :=
  ∀ (pins : List (Addr × Obj)) (s : Shared) (σ : St) (H : Hp) (o i v : V) (ov iv u : Value) (Q : Hp → Prop), Inv X pins σ H s → RelV o ov → RelV i iv → RelV v u → t o i v H Q →
    wpAny (model X.prog X.w) X.A (setItem ov iv u) (fun _ s' => ∃ H', Inv X pins σ H' s' ∧ Q H') X.xe s
/-- a op= b, by values -/
noncomputable abbrev TIp := V → V → Hp → VK → Prop
noncomputable def PIp (X : Cx) (op : Operator) (t : TIp) : Prop :=
  ∀ (pins : List (Addr × Obj)) (s : Shared) (σ : St) (H : Hp) (x y : V) (v u : Value) (Q : VK), Inv X pins σ H s → RelV x v → RelV y u → t x y H Q →
    wpAny (model X.prog X.w) X.A (inplaceOp op v u) (EP X pins σ Q) X.xe s
section
variable {X : Cx} {pos : Pos}
noncomputable def gName (i : Nat) : TG := fun v σ H Q => Q (σ.set i (some v)) H
theorem pg_name {i : Nat} {x : Str} (hN : X.N.Nodup) (hi : X.N[i]? = some x) (hx : Loc X.env.scope x) (hf : X.fn x = true ∨ X.env.scope.names.lookup x = some .local := by first | exact .inl rfl | exact .inr rfl | assumption) : PG X (.Name x pos) (gName i) := by
  intro pins s σ H v u Q I r h
  exact wpAny_assign_Name (store_ok I hN hi hx r (fun s' I' => ⟨_, H, I', h⟩) hf)
noncomputable def gNil : TGs := fun vs σ H Q => vs = [] ∧ Q σ H
noncomputable def gCons (t : TG) (u : TGs) : TGs := fun vs σ H Q => ∃ v r, vs = v :: r ∧ t v σ H fun σ' H' => u r σ' H' Q
theorem pgs_nil : PGs X [] gNil := by
  intro pins s σ H vs us Q I r h
  obtain ⟨e, h⟩ := h
  subst e
  cases r
  exact assignInOrder_nil ⟨σ, H, I, h⟩
theorem pgs_cons {e : Expr} {es : List Expr} {t : TG} {u : TGs} (h1 : PG X e t) (h2 : PGs X es u)
    (hs : (assignEach (e :: es) X.env).map (·.2) = assign e X.env :: (assignEach es X.env).map (·.2) := by rfl) : PGs X (e :: es) (gCons t u) := by
  intro pins s σ H vs us Q I r h
  obtain ⟨v, vr, e1, h⟩ := h
  subst e1
  cases r with
  | cons r rr =>
    rw [hs]
    refine assignInOrder_cons (thn (h1 pins s σ H _ _ _ I r h) fun _ s1 ⟨σ1, H1, I1, q1⟩ => ?_)
    exact h2 pins s1 σ1 H1 _ _ Q I1 rr q1
/-- (a, b, ..) = a tuple of that length -/
noncomputable def gTup (K : PySem.W.Frag) (n : Nat) (t : TGs) : TG := fun v σ H Q => ∃ a xs, v = .ref a ∧ SqT K H a xs ∧ xs.length = n ∧ t xs σ H Q
theorem pg_tup {es : List Expr} {k : Nat} {t : TGs} {n : Nat} (hc : X.calm = true) (h : PGs X es t)
    (hn : (assignEach es X.env).length = n := by rfl) (hst : (assignEach es X.env).findIdx? (·.1) = none := by rfl) : PG X (.Tuple es k pos) (gTup X.K n t) := by
  intro pins s σ H v u Q I r hw
  obtain ⟨a, xs, e1, hq, hl, hw⟩ := hw
  subst e1
  cases r
  obtain ⟨its, rv, ht, hz⟩ := I.tuple hq
  refine assign_Tuple_tuple (I.ok.hd hc) ht (by simp [hn, ← hl, rv.length]) hst fun h' hx => ?_
  have I1 : Inv X pins σ H { s with heap := h' } := I.kept (t' := s.toks) fun b o e => hx b o (Nat.ne_of_lt (Heap.lt_size e)) e
  exact h pins _ σ H xs _ Q I1 (by simpa using rv) hw
/-- o[i] = .. -/
noncomputable def gSub (to ti : TE) (t : TSet) : TG := fun v σ H Q => to σ H fun o H1 => ti σ H1 fun i H2 => t o i v H2 fun H3 => Q σ H3
theorem pg_sub {o i : Expr} {to ti : TE} {t : TSet} (ho : PE X o to) (hi : PE X i ti) (hs : PSet X t)
    (ha : ∀ v, assign (.Subscript o i pos) X.env v = (do
      let ov ← holding [v] (eval o X.env)
      let iv ← holding [v, ov] (eval i X.env)
      standAt pos
      holding [v, ov, iv] (setItem ov iv v)
      release [v, ov, iv] []) := by intro _; rfl) : PG X (.Subscript o i pos) (gSub to ti t) := by
  intro pins s σ H v u Q I r h
  rw [ha]
  refine wpAny_bind (wpAny_holding (thn (ho pins s σ H _ I h) fun ov s1 ⟨x, H1, I1, r1, q1⟩ => ?_))
  refine wpAny_bind (wpAny_holding (thn (hi pins s1 σ H1 _ I1 q1) fun iv s2 ⟨y, H2, I2, r2, q2⟩ => ?_))
  refine wpAny_bind (wpAny_standAt (wpAny_bind (wpAny_holding (thn (hs pins s2 σ H2 x y v ov iv u _ I2 r1 r2 r q2) fun _ s3 ⟨H3, I3, q3⟩ => ?_))))
  exact wpAny_release ⟨σ, H3, I3, q3⟩
/-- target = value -/
noncomputable def tAsg (te : TE) (g : TG) : TS := fun D σ H => te σ H fun x H1 => g x σ H1 D.nx
theorem ps_asg {tg e : Expr} {te : TE} {g : TG} (he : PE X e te) (hg : PG X tg g) (hs : swapsWithSole [tg] e pos.line X.env = pure false := by rfl) (hw : swappedStores [tg] e X.env = pure none := by rfl)
    (h1 : (assignEach [tg] X.env).map (·.2) = [assign tg X.env] := by rfl) : PS X (.Assign [tg] e pos) (tAsg te g) := by
  intro pins s σ H D I h
  refine wpAny_Assign_stores (thn (he pins s σ H _ I h) fun v s1 ⟨x, H1, I1, r1, q1⟩ => ?_) hs hw
  rw [h1]
  exact thn (hg pins s1 σ H1 x v _ I1 r1 q1) fun _ s2 q => q
/-- name = value -/
theorem ps_set {i : Nat} {x : Str} {e : Expr} {te : TE} {pos' : Pos} (hN : X.N.Nodup) (hi : X.N[i]? = some x) (hx : Loc X.env.scope x) (he : PE X e te) (hs : swapsWith e (some (.Name x pos')) pos.line X.env = pure false := by rfl) (hf : X.fn x = true ∨ X.env.scope.names.lookup x = some .local := by first | exact .inl rfl | exact .inr rfl | assumption) :
    PS X (.Assign [.Name x pos'] e pos) (tAsg te (gName i)) := by
  intro pins s σ H D I h
  refine wpAny_Assign_Name (thn (he pins s σ H _ I h) fun v s1 ⟨y, H1, I1, r1, q1⟩ => ?_) hs
  exact store_ok I1 hN hi hx r1 (fun s2 I2 => ⟨_, H1, I2, q1⟩) hf
/-- a, b = x, y with plain local names: stored from the right; the pair itself is not tracked (the opening rows as in PyProof/Rows/TupAssign.lean:23) -/
noncomputable def tPar (i j : Nat) (ta : TA) : TS := fun D σ H => ta σ H fun vs H1 => ∃ v w, vs = [v, w] ∧ D.nx ((σ.set i (some v)).set j (some w)) H1
theorem ps_par {i j : Nat} {x y : Str} {a b : Expr} {ta : TA} {px py pt : Pos} {kt k2 pt2} (hc : X.calm = true) (hN : X.N.Nodup) (hi : X.N[i]? = some x) (hj : X.N[j]? = some y) (hij : i ≠ j)
    (hx : X.env.scope.names.lookup x = some .local) (hy : X.env.scope.names.lookup y = some .local) (ha : PA X [a, b] ta)
    (hw : swappedStores [.Tuple [.Name x px, .Name y py] kt pt] (.Tuple [a, b] k2 pt2) X.env = pure (some [x, y]))
    (hs : swapsWithSole [.Tuple [.Name x px, .Name y py] kt pt] (.Tuple [a, b] k2 pt2) pos.line X.env = pure false := by rfl) :
    PS X (.Assign [.Tuple [.Name x px, .Name y py] kt pt] (.Tuple [a, b] k2 pt2) pos) (tPar i j ta) := by
  intro pins s σ H D I h
  rw [exec_Assign_arm]
  refine wpAny_bind (wpAny_standAt ?_)
  rw [hs]
  refine wpAny_bind (wpAny_pure ?_)
  rw [if_neg (by decide)]
  refine wpAny_bind (Tuple_ (thn (ha _ pins s σ H _ I h) fun us s1 ⟨vs, H1, I1, r1, q1⟩ => ?_))
  obtain ⟨v, w, e1, q1⟩ := q1
  subst e1
  obtain ⟨u1, u2, rfl, rv, rw'⟩ : ∃ u1 u2, us = [u1, u2] ∧ RelV v u1 ∧ RelV w u2 := by
    cases r1 with
    | cons p q =>
      cases q with
      | cons p' q' =>
        cases q'
        exact ⟨_, _, rfl, p, p'⟩
  refine wpAny_newObj_type ?_ (by show 2 ≤ sizeLine; decide)
  have I2 : Inv X pins σ H1 { s1 with heap := s1.heap.push { cls := .type "tuple", data := .seq [u1, u2].toArray } } := I1.kept (t' := s1.toks) fun b o e => Heap.get?_push_of_some _ e
  rw [hw]
  refine wpAny_bind (wpAny_pure ?_)
  show wpAny (model X.prog X.w) X.A (do rule "assign.swapped-stores"; let items ← unpackItems (.ref s1.heap.objs.size) 2 none; assignInOrder [fun v => bindName X.env y v, fun v => bindName X.env x v] items.reverse; pure Flow.next) _ _ _
  refine wpAny_bind (wpAny_rule (wpAny_bind (unpackItems_tuple (items := #[u1, u2]) (I.ok.hd hc) (IsTup.new s1.heap _) fun h' hx' => ?_)))
  have I3 := I2.kept (h' := h') (t' := s1.toks) fun b o e => hx' b o (Nat.ne_of_lt (Heap.lt_size e)) e
  show wpAny _ _ (assignInOrder [fun v => bindName X.env y v, fun v => bindName X.env x v] [u2, u1] >>= fun _ => pure Flow.next) _ _ _
  refine wpAny_bind (assignInOrder_cons (wpAny_bindName (store_ok I3 hN hj (.inl hy) rw' (fun s2 I4 => ?_) (.inr hy))))
  refine assignInOrder_cons (wpAny_bindName (store_ok I4 hN hi (.inl hx) rv (fun s3 I5 => assignInOrder_nil (wpAny_pure ?_)) (.inr hx)))
  rw [List.set_comm _ _ (Ne.symm hij)] at I5
  exact ⟨_, H1, I5, q1⟩
/-- name op= e -/
noncomputable def tAug (i : Nat) (te : TE) (ti : TIp) : TS := fun D σ H => ∃ x, σ[i]? = some (some x) ∧ te σ H fun y H1 => ti x y H1 fun z H2 => D.nx (σ.set i (some z)) H2
/-- o[i] op= e -/
noncomputable def tAugS (to ti te : TE) (tget : V → V → Hp → VK → Prop) (tip : TIp) (tset : TSet) : TS := fun D σ H => to σ H fun o H1 => ti σ H1 fun i H2 => tget o i H2 fun x H3 => te σ H3 fun y H4 => tip x y H4 fun z H5 => tset o i z H5 fun H6 => D.nx σ H6
/-- o[i], by values -/
noncomputable def PGet (X : Cx) (t : V → V → Hp → VK → Prop) : Prop :=
  ∀ (pins : List (Addr × Obj)) (s : Shared) (σ : St) (H : Hp) (o i : V) (ov iv : Value) (Q : VK), Inv X pins σ H s → RelV o ov → RelV i iv → t o i H Q →
    wpAny (model X.prog X.w) X.A (getItem ov iv) (EP X pins σ Q) X.xe s
/-- ints -/
noncomputable def ipI (f : Int → Int → Int) : TIp := fun x y H Q => ∃ i j, x = .int i ∧ y = .int j ∧ Q (.int (f i j)) H
end

/-! ### while -/
section
variable {X : Cx} {pos : Pos}
/-- the invariant W with its measure -/
noncomputable def tWhile (c : TT) (tb : TS) : TS := fun D σ H => ∃ W : Nat → St → Hp → Prop, (∃ m, W m σ H) ∧ ∀ m σ H, W m σ H →
  c σ H fun b H1 => if b = true then ∃ N : St → Hp → Prop, (∀ σ' H', N σ' H' → ∃ m', m' < m ∧ W m' σ' H') ∧ tb { D with nx := N, ct := N, bk := D.nx } σ H1 else D.nx σ H1
theorem ps_while {c : Expr} {body : List Stmt} {tc : TT} {tb : TS} (hp : PassesOwn (model X.prog X.w) X.A X.env X.xe) (hc : PT X c tc) (hb : PSs X body tb) : PS X (.While c body [] pos) (tWhile tc tb) := by
  intro pins s σ H D I h
  obtain ⟨W, ⟨m0, w0⟩, turn⟩ := h
  refine wpAny_While (codeAny_whileLoop (fun n s' => ∃ σ' H', Inv X pins σ' H' s' ∧ W n σ' H') ?_ m0 ⟨σ, H, I, w0⟩)
  rintro n s1 ⟨σ1, H1, I1, w1⟩
  refine wpAny_passesOwn hp (thn (hc pins s1 σ1 H1 _ I1 (turn n σ1 H1 w1)) fun b s2 ⟨H2, I2, q2⟩ => ?_)
  cases b with
  | true =>
    obtain ⟨N, hN, q2⟩ := q2
    rw [if_pos rfl]
    refine wpAny_passesOwn hp (thn (hb pins s2 σ1 H2 _ I2 q2) fun f s3 q3 => ?_)
    cases f with
    | next =>
      obtain ⟨σ3, H3, I3, n3⟩ := q3
      obtain ⟨m', hm, w3⟩ := hN σ3 H3 n3
      exact ⟨m', hm, σ3, H3, I3, w3⟩
    | cont =>
      obtain ⟨σ3, H3, I3, n3⟩ := q3
      obtain ⟨m', hm, w3⟩ := hN σ3 H3 n3
      exact ⟨m', hm, σ3, H3, I3, w3⟩
    | brk => exact q3
    | ret v => exact q3
  | false =>
    rw [if_neg Bool.false_ne_true]
    exact wpAny_execs_nil ⟨σ1, H2, I2, q2⟩
end

/-! ### what a loop or a comprehension walks -/
/-- at turn i: it yields x (the heap may grow), or it stops -/
structure It where
  go : Nat → Hp → Prop
  yld : Nat → Hp → V → Hp → Prop
  stop : Nat → Hp → Prop
/-- the iterator's own objects may turn: they are not the frame's, not pinned, younger than the entry (or a comprehension's own) -/
noncomputable def FpOk (X : Cx) (pins : List (Addr × Obj)) (H : Hp) (b : Addr) : Prop :=
  H b = none ∧ b ≠ X.env.locals ∧ b ∉ X.fs ∧ (b ∈ X.ex ∨ X.s₀.heap.objs.size ≤ b) ∧ (∀ x c, X.env.cells.lookup x = some c → c ≠ b) ∧ ∀ p ∈ X.pn ++ pins, p.1 ≠ b
theorem Inv.fpOk {X : Cx} {pins : List (Addr × Obj)} {σ : St} {H H' : Hp} {s : Shared} {b : Addr} (I : Inv X pins σ H s) (hb : s.heap.objs.size ≤ b) (hn : H' b = none) : FpOk X pins H' b := by
  refine ⟨hn, Nat.ne_of_gt (Nat.lt_of_lt_of_le I.lt hb), I.nofs hb, .inr (Nat.le_trans I.sz hb), fun x c e z => ?_, fun p hp z => ?_⟩
  · obtain ⟨v, q⟩ := I.cell x c e
    exact absurd (Nat.lt_of_lt_of_le q.lt (by rw [z]; exact hb)) (Nat.lt_irrefl _)
  · exact absurd (Nat.lt_of_lt_of_le (Heap.lt_size (I.pin p hp).1) (by rw [z]; exact hb)) (Nat.lt_irrefl _)
structure Turn (P : Program) (w : World) (K : PySem.W.Frag) (tg : Expr) (J : It) (fp : List Addr) (it : Addr) (tn : Nat → Heap → Prop) : Prop where
  mem : it ∈ fp
  obj : ∀ i h, tn i h → ∀ b ∈ fp, ∃ o, h.get? b = some o ∧ ∀ v, o.data ≠ .cell v
  keep : ∀ i h h', tn i h → (∀ b ∈ fp, ∀ o, h.get? b = some o → h'.get? b = some o) → tn i h'
  item : ∀ (X : Cx), X.prog = P → X.w = w → X.K = K → X.calm = true → ∀ (i : Nat) (pins : List (Addr × Obj)) (s : Shared) (σ : St) (H : Hp) (E : Value → Shared → Prop), Inv X pins σ H s → (∀ b ∈ fp, FpOk X pins H b) → tn i s.heap → J.go i H →
    wpAny (model P w) X.A (pyNext (.ref it)) (fun r s1 => ∃ u, r = some u ∧
      wpAny (model P w) X.A (letOwnedTupleGo tg (.ref it) u) (fun _ s2 => ∃ x H', Inv X pins σ H' s2 ∧ RelV x u ∧ J.yld i H x H' ∧ tn (i + 1) s2.heap ∧ ∀ b ∈ fp, H' b = none) E s1) E s
  done : ∀ (X : Cx), X.prog = P → X.w = w → X.K = K → X.calm = true → ∀ (i : Nat) (pins : List (Addr × Obj)) (s : Shared) (σ : St) (H : Hp) (E : Value → Shared → Prop), Inv X pins σ H s → (∀ b ∈ fp, FpOk X pins H b) → tn i s.heap → J.stop i H →
    wpAny (model P w) X.A (pyNext (.ref it)) (fun r s1 => r = none ∧ Inv X pins σ H s1) E s
  self : ∀ (A : Around) (i : Nat) (s : Shared) (Q : Value → Shared → Prop) (E : Value → Shared → Prop), tn i s.heap → Q (.ref it) s → wpAny (model P w) A (pyIter (.ref it)) Q E s
noncomputable abbrev TI := St → Hp → (It → Hp → Prop) → Prop
/-- an iterator has come -/
noncomputable def PIE (X : Cx) (pins : List (Addr × Obj)) (σ : St) (tg : Expr) (R : It → Hp → Prop) (itv : Value) (s2 : Shared) : Prop :=
  ∃ (it : Addr) (fp : List Addr) (tn : Nat → Heap → Prop) (J : It) (H' : Hp), itv = .ref it ∧ Inv X pins σ H' s2 ∧ Turn X.prog X.w X.K tg J fp it tn ∧ tn 0 s2.heap ∧ (∀ b ∈ fp, FpOk X pins H' b) ∧ R J H'
noncomputable def PI (X : Cx) (tg iter : Expr) (wi : TI) : Prop :=
  ∀ (pins : List (Addr × Obj)) (s : Shared) (σ : St) (H : Hp) (R : It → Hp → Prop), Inv X pins σ H s → wi σ H R →
    wpAny (model X.prog X.w) X.A (eval iter X.env) (fun v s1 => wpAny (model X.prog X.w) X.A (pyIter v) (PIE X pins σ tg R) X.xe s1) X.xe s

/-- the step ahead of the store is nothing for an iterator that keeps no tuple -/
theorem go_of {M : Model} {A : Around} {E : Value → Shared → Prop} {s : Shared} {tg : Expr} {it : Addr} {u : Value} {o : Obj} {n : String} {vs : Array Value} {Q : Unit → Shared → Prop} (ho : s.heap.get? it = some o) (hc : o.cls = .type n) (hd : o.data = .fields vs)
    (hn : ["enumerate", "zip", "dict_itemiterator", "dict_reverseitemiterator", "odict_iterator", "itertools.zip_longest", "itertools.pairwise"].contains n = false) (hQ : Q () s) : wpAny M A (letOwnedTupleGo tg (.ref it) u) Q E s := by
  unfold letOwnedTupleGo
  cases tg <;> first
    | exact wpAny_pure hQ
    | (cases u <;> first
        | exact wpAny_pure hQ
        | (refine wpAny_bind (wpAny_load ho ?_)
           rw [hc, hd]
           show wpAny M A (if (["enumerate", "zip", "dict_itemiterator", "dict_reverseitemiterator", "odict_iterator", "itertools.zip_longest", "itertools.pairwise"].contains n && vs[0]? == some (rawInt _)) = true then _ else _) Q E s
           rw [if_neg (by intro h; rw [hn, Bool.false_and] at h; cases h)]
           exact wpAny_pure hQ))

/-- the list at a, as it stands at each turn (a loop may append to it) -/
noncomputable def Itl (K : PySem.W.Frag) (a : Addr) : It :=
  ⟨fun i H => ∃ xs x, SqL K H a xs ∧ xs[i]? = some x, fun i H x H' => H' = H ∧ ∀ xs, SqL K H a xs → xs[i]? = some x, fun i H => ∃ xs, SqL K H a xs ∧ xs.length ≤ i⟩
noncomputable def Itt (K : PySem.W.Frag) (a : Addr) : It :=
  ⟨fun i H => ∃ xs x, SqT K H a xs ∧ xs[i]? = some x, fun i H x H' => H' = H ∧ ∀ xs, SqT K H a xs → xs[i]? = some x, fun i H => ∃ xs, SqT K H a xs ∧ xs.length ≤ i⟩
/-- lo, lo + 1, .. (n of them) -/
noncomputable def Itr (lo : Int) (n : Nat) : It := ⟨fun i _ => i < n, fun i H x H' => H' = H ∧ x = .int (lo + i), fun i _ => n ≤ i⟩
theorem turn_list {P : Program} {w : World} {K : PySem.W.Frag} {tg : Expr} (a it : Addr) : Turn P w K tg (Itl K a) [it] it (fun i h => h.IsListIter it a i) where
  mem := by simp
  obj := fun i h st b hb => by
    have e : b = it := by simpa using hb
    subst e
    obtain ⟨o, e, c, d⟩ := st
    exact ⟨o, e, fun v z => by rw [d] at z; cases z⟩
  keep := fun i h h' st k => st.at fun o e => k it (by simp) o e
  item := by
    intro X hP hw hK hc i pins s σ H E I hf st hg
    subst hP hw hK
    obtain ⟨xs, x, hq, hx⟩ := hg
    obtain ⟨its, rv, p, hz⟩ := I.list hq
    obtain ⟨u, hu, ru⟩ := rv.get hx
    obtain ⟨f0, f1, f2, f3, f4, f5⟩ := hf it (by simp)
    refine wpAny_pyNext_list_item st p.isList (x := u) (by simpa using hu) fun h' st' sb => ?_
    have I1 : Inv X pins σ H { s with heap := h' } := I.turned (t' := s.toks) (fun b o hb e => (sb.2 b hb).trans e) f0 f1 f3 f4 f5
    obtain ⟨o, e, c, d⟩ := id st'
    exact ⟨u, rfl, go_of (s := { s with heap := h' }) e c d (by decide) ⟨x, H, I1, ru, ⟨rfl, fun ys hy => by rw [I.list_inj hy hq]; exact hx⟩, st', fun b hb => (hf b hb).1⟩⟩
  done := by
    intro X hP hw hK hc i pins s σ H E I hf st hg
    subst hP hw hK
    obtain ⟨xs, hq, hx⟩ := hg
    obtain ⟨its, rv, p, hz⟩ := I.list hq
    obtain ⟨f0, f1, f2, f3, f4, f5⟩ := hf it (by simp)
    have hl := rv.length
    exact wpAny_pyNext_list_end (I.ok.hd hc) st p.isList (by simp; omega) fun h' eb => ⟨rfl, I.turned (t' := s.toks) (fun b o hb e => eb b o hb e) f0 f1 f3 f4 f5⟩
  self := fun _ _ _ _ _ st h => wpAny_pyIter_listiter st h
theorem turn_tuple {P : Program} {w : World} {K : PySem.W.Frag} {tg : Expr} (a it : Addr) : Turn P w K tg (Itt K a) [it] it (fun i h => h.IsTupleIter it a i) where
  mem := by simp
  obj := fun i h st b hb => by
    have e : b = it := by simpa using hb
    subst e
    obtain ⟨o, e, c, d⟩ := st
    exact ⟨o, e, fun v z => by rw [d] at z; cases z⟩
  keep := fun i h h' st k => st.at fun o e => k it (by simp) o e
  item := by
    intro X hP hw hK hc i pins s σ H E I hf st hg
    subst hP hw hK
    obtain ⟨xs, x, hq, hx⟩ := hg
    obtain ⟨its, rv, p, hz⟩ := I.tuple hq
    obtain ⟨u, hu, ru⟩ := rv.get hx
    obtain ⟨f0, f1, f2, f3, f4, f5⟩ := hf it (by simp)
    refine wpAny_pyNext_tuple_item st (show s.heap.IsTuple a its.toArray from p) (x := u) (by simpa using hu) fun h' st' sb => ?_
    have I1 : Inv X pins σ H { s with heap := h' } := I.turned (t' := s.toks) (fun b o hb e => (sb.2 b hb).trans e) f0 f1 f3 f4 f5
    obtain ⟨o, e, c, d⟩ := id st'
    exact ⟨u, rfl, go_of (s := { s with heap := h' }) e c d (by decide) ⟨x, H, I1, ru, ⟨rfl, fun ys hy => by rw [I.tuple_inj hy hq]; exact hx⟩, st', fun b hb => (hf b hb).1⟩⟩
  done := by
    intro X hP hw hK hc i pins s σ H E I hf st hg
    subst hP hw hK
    obtain ⟨xs, hq, hx⟩ := hg
    obtain ⟨its, rv, p, hz⟩ := I.tuple hq
    obtain ⟨f0, f1, f2, f3, f4, f5⟩ := hf it (by simp)
    have hl := rv.length
    exact wpAny_pyNext_tuple_end (I.ok.hd hc) st (show s.heap.IsTuple a its.toArray from p) (by simp; omega) fun h' eb => ⟨rfl, I.turned (t' := s.toks) (fun b o hb e => eb b o hb e) f0 f1 f3 f4 f5⟩
  self := fun _ _ _ _ _ st h => wpAny_pyIter_tupleiter st h
theorem turn_range {P : Program} {w : World} {K : PySem.W.Frag} {tg : Expr} (it : Addr) (lo : Int) (n : Nat) : Turn P w K tg (Itr lo n) [it] it (fun i h => IsRangeIter h it (lo + (i : Nat) * 1) ((n : Int) - (i : Nat)) 1) where
  mem := by simp
  obj := fun i h st b hb => by
    have e : b = it := by simpa using hb
    subst e
    exact ⟨_, st, fun v z => by
      have z' : Data.fields _ = Data.cell v := z
      cases z'⟩
  keep := fun i h h' st k => k it (by simp) _ st
  item := by
    intro X hP hw hK hc i pins s σ H E I hf st hg
    subst hP hw hK
    obtain ⟨f0, f1, f2, f3, f4, f5⟩ := hf it (by simp)
    have W := Walks.range (prog := X.prog) (w := X.w) (I.ok.hd hc) it lo 1 n
    refine W.item i s _ _ hg st fun v h' tk hv st' kk => ?_
    obtain ⟨t, rfl⟩ := hv
    have I1 : Inv X pins σ H { s with heap := h', toks := tk } := I.turned (fun b o hb e => kk b o (by simpa using hb) e) f0 f1 f3 f4 f5
    refine ⟨_, rfl, go_of (s := { s with heap := h', toks := tk }) (n := "range_iterator") st' rfl rfl (by decide) ⟨.int (lo + i), H, I1, ⟨t, ?_⟩, ⟨rfl, rfl⟩, st', fun b hb => (hf b hb).1⟩⟩
    rw [Int.mul_one]
  done := by
    intro X hP hw hK hc i pins s σ H E I hf st hg
    subst hP hw hK
    obtain ⟨f0, f1, f2, f3, f4, f5⟩ := hf it (by simp)
    exact wpAny_pyNext_range_end (I.ok.hd hc) st (by have : n ≤ i := hg; omega) fun h' eb => ⟨rfl, I.turned (t' := s.toks) (fun b o hb e => eb b o hb e) f0 f1 f3 f4 f5⟩
  self := fun _ _ _ _ _ st h => wpAny_pyIter_rangeiter st h
end L2

namespace L2
open PySem PySem.Spec PyProof.Rows
section
variable {X : Cx} {tg : Expr}
noncomputable def iList (K : PySem.W.Frag) (tl : TE) : TI := fun σ H R => tl σ H fun x H1 => ∃ a, x = .ref a ∧ (∃ xs, SqL K H1 a xs) ∧ R (Itl K a) H1
noncomputable def iTup (K : PySem.W.Frag) (tl : TE) : TI := fun σ H R => tl σ H fun x H1 => ∃ a, x = .ref a ∧ (∃ xs, SqT K H1 a xs) ∧ R (Itt K a) H1
/-- a range object just made, walked -/
theorem range_it {pins : List (Addr × Obj)} {σ : St} {H : Hp} {s : Shared} {R : It → Hp → Prop} {E : Value → Shared → Prop} {lo hi : Int} {t u v : Tok} {tk : Nat} (I : Inv X pins σ H s) (h1 : -(2 ^ 62) ≤ lo) (h2 : lo < 2 ^ 62) (h3 : -(2 ^ 62) ≤ hi) (h4 : hi < 2 ^ 62)
    (q : R (Itr lo (hi - lo).toNat) H) : wpAny (model X.prog X.w) X.A (pyIter (.ref s.heap.objs.size)) (PIE X pins σ tg R) E { s with heap := s.heap.push { cls := .type "range", data := .fields #[.int lo t, .int hi u, .int 1 v] }, toks := tk } := by
  refine wpAny_pyIter_range (IsRange.new ..) (small_one h1 h2 h3 h4) ?_
  have I1 : Inv X pins σ H { s with heap := s.heap.push { cls := .type "range", data := .fields #[.int lo t, .int hi u, .int 1 v] }, toks := tk } := I.kept fun b o e => Heap.get?_push_of_some _ e
  refine ⟨(s.heap.push { cls := .type "range", data := .fields #[.int lo t, .int hi u, .int 1 v] }).objs.size, [(s.heap.push { cls := .type "range", data := .fields #[.int lo t, .int hi u, .int 1 v] }).objs.size], _, _, H, rfl,
    I1.kept (t' := tk) fun b o e => Heap.get?_push_of_some _ e, turn_range _ lo (hi - lo).toNat, ?_, fun b hb => ?_, q⟩
  · have e1 : lo + ((0 : Nat) : Int) * 1 = lo := by simp
    have e2 : (((hi - lo).toNat : Nat) : Int) - ((0 : Nat) : Int) = Builtin.Range.rangeSize lo hi 1 := by rw [rangeSize_one]; split <;> omega
    show IsRangeIter _ _ (lo + ((0 : Nat) : Int) * 1) ((((hi - lo).toNat : Nat) : Int) - ((0 : Nat) : Int)) 1
    rw [e1, e2]
    exact Heap.get?_push_size _ rfl
  · have e : b = (s.heap.push { cls := .type "range", data := .fields #[.int lo t, .int hi u, .int 1 v] }).objs.size := by simpa using hb
    subst e
    exact I1.fpOk (Nat.le_refl _) (I1.hok.fresh (Nat.le_refl _))
noncomputable def iRng1 (ta : TA) : TI := fun σ H R => ta σ H fun vs H1 => ∃ j : Int, vs = [.int j] ∧ -(2 ^ 62) ≤ j ∧ j < 2 ^ 62 ∧ R (Itr 0 j.toNat) H1
noncomputable def iRng2 (ta : TA) : TI := fun σ H R => ta σ H fun vs H1 => ∃ i j : Int, vs = [.int i, .int j] ∧ (-(2 ^ 62) ≤ i ∧ i < 2 ^ 62 ∧ -(2 ^ 62) ≤ j ∧ j < 2 ^ 62) ∧ R (Itr i (j - i).toNat) H1
theorem pi_range1 {a : Expr} {ta : TA} {p pos : Pos} (hg : Gl X "range") (hm : X.mg "range" = none) (ha : PA X [a] ta) (hs : starEach [a] X.env = [(false, eval a X.env)] := by rfl) : PI X tg (.Call (.Name "range" p) [a] [] pos) (iRng1 ta) := by
  intro pins s σ H R I h
  refine Call_ (ld_blt I hg hm boot_range (PyProof.Rows.callWith_type1 (thn (ha pos pins s σ H _ I h) fun us s1 ⟨vs, H1, I1, r1, q1⟩ => ?_) hs rfl))
  obtain ⟨j, e, q1, q2, q⟩ := q1
  subst e
  cases r1 with
  | cons r rr =>
    cases rr
    obtain ⟨t, rfl⟩ := r
    exact call_range_1 (range_it I1 (by omega) (by omega) q1 q2 (by simpa using q))

/-! ### for -/
/-- W: the invariant by the turn and a measure; N: what the body is to reach -/
noncomputable def tFor (wi : TI) (g : TG) (tb : TS) : TS := fun D σ H => wi σ H fun J H1 => ∃ W : Nat → Nat → St → Hp → Prop, (∃ m, W 0 m σ H1) ∧ ∀ i m σ H, W i m σ H →
  (J.stop i H ∧ D.nx σ H) ∨ (J.go i H ∧ ∃ N : St → Hp → Prop, (∀ σ' H', N σ' H' → ∃ m', m' < m ∧ W (i + 1) m' σ' H') ∧ ∀ x H', J.yld i H x H' → g x σ H' fun σ2 H2 => tb { D with nx := N, ct := N, bk := D.nx } σ2 H2)
/-- the records at fp as they stand -/
noncomputable def pinsAt (fp : List Addr) (h : Heap) : List (Addr × Obj) := fp.filterMap fun b => (h.get? b).map fun o => (b, o)
theorem mem_pinsAt {fp : List Addr} {h : Heap} {b : Addr} {o : Obj} (hb : b ∈ fp) (e : h.get? b = some o) : (b, o) ∈ pinsAt fp h := List.mem_filterMap.mpr ⟨b, hb, by rw [e]; rfl⟩
theorem of_pinsAt {fp : List Addr} {h : Heap} {p : Addr × Obj} (hp : p ∈ pinsAt fp h) : p.1 ∈ fp ∧ h.get? p.1 = some p.2 := by
  obtain ⟨b, hb, e⟩ := List.mem_filterMap.mp hp
  cases q : h.get? b with
  | none => rw [q] at e; cases e
  | some o =>
    rw [q] at e
    have e' : (b, o) = p := Option.some.inj e
    subst e'
    exact ⟨hb, q⟩
theorem Inv.pinned {pins : List (Addr × Obj)} {σ : St} {H : Hp} {s : Shared} {fp : List Addr} (I : Inv X pins σ H s) (hf : ∀ b ∈ fp, FpOk X pins H b) (ho : ∀ b ∈ fp, ∃ o, s.heap.get? b = some o ∧ ∀ v, o.data ≠ .cell v) : Inv X (pins ++ pinsAt fp s.heap) σ H s :=
  I.pins_of fun p hp => (List.mem_append.mp hp).elim (fun z => I.pin p (List.mem_append_right _ z)) fun z => by
    obtain ⟨hb, e⟩ := of_pinsAt z
    obtain ⟨f0, f1, f2, _⟩ := hf p.1 hb
    obtain ⟨o, e', d⟩ := ho p.1 hb
    rw [e] at e'; cases e'
    exact ⟨e, f0, f1, f2, d⟩
theorem Inv.unpinned {pins pl : List (Addr × Obj)} {σ : St} {H : Hp} {s : Shared} (I : Inv X (pins ++ pl) σ H s) : Inv X pins σ H s := I.pins_of fun p hp => I.pin p (List.mem_append_right _ (List.mem_append_left _ hp))
theorem ps_for {iter : Expr} {body : List Stmt} {wi : TI} {g : TG} {tb : TS} {pos : Pos} (hp : PassesOwn (model X.prog X.w) X.A X.env X.xe) (hc : X.calm = true) (hi : PI X tg iter wi) (hg : PG X tg g) (hb : PSs X body tb)
    (hs : ∀ x, foldedSetIterable iter X.env x = pure x := by intro _; rfl) : PS X (.For tg iter body [] pos) (tFor wi g tb) := by
  intro pins s σ H D I h
  refine wpAny_For (thn (hi pins s σ H _ I h) fun v s1 h1 => thn h1 fun itv s2 h2 => ?_) hs
  obtain ⟨it, fp, tn, J, H2, e, I2, T, st2, f2, W, ⟨m0, w0⟩, turn⟩ := h2
  subst e
  -- what stays true of the iterator's objects through the loop
  have stat : ∀ {H' : Hp}, (∀ b ∈ fp, H' b = none) → ∀ b ∈ fp, FpOk X pins H' b := fun hn b hb => ⟨hn b hb, (f2 b hb).2⟩
  refine codeAny_forLoop_any (fun n s' => ∃ i σ' H', Inv X pins σ' H' s' ∧ tn i s'.heap ∧ (∀ b ∈ fp, H' b = none) ∧ W i n σ' H') ?_ m0 ⟨0, σ, H2, I2, st2, fun b hb => (f2 b hb).1, w0⟩
  rintro n s3 ⟨i, σ3, H3, I3, st3, fr3, w3⟩
  rcases turn i n σ3 H3 w3 with ⟨stop, qn⟩ | ⟨go, N, hN, step⟩
  · refine wpAny_passesOwn hp (thn (T.done X rfl rfl rfl hc i pins s3 σ3 H3 X.xe I3 (stat fr3) st3 stop) fun r s4 ⟨hr, I4⟩ => ?_)
    subst hr
    exact wpAny_execs_nil ⟨σ3, H3, I4, qn⟩
  · refine wpAny_passesOwn hp (thn (T.item X rfl rfl rfl hc i pins s3 σ3 H3 X.xe I3 (stat fr3) st3 go) fun r s4 ⟨u, hr, h4⟩ => ?_)
    subst hr
    refine wpAny_passesOwn hp (thn h4 fun _ s5 ⟨x, H5, I5, r5, y5, st5, fr5⟩ => ?_)
    have I5' := I5.pinned (stat fr5) (T.obj _ _ st5)
    refine wpAny_passesOwn hp (thn (hg _ s5 σ3 H5 x u _ I5' r5 (step x H5 y5)) fun _ s6 ⟨σ6, H6, I6, q6⟩ => ?_)
    refine wpAny_passesOwn hp (thn (hb _ s6 σ6 H6 _ I6 q6) fun f s7 q7 => ?_)
    have again : ∀ {σ7 : St} {H7 : Hp}, Inv X (pins ++ pinsAt fp s5.heap) σ7 H7 s7 → N σ7 H7 → ∃ m, m < n ∧ ∃ i σ' H', Inv X pins σ' H' s7 ∧ tn i s7.heap ∧ (∀ b ∈ fp, H' b = none) ∧ W i m σ' H' := fun {σ7 H7} I7 n7 => by
      obtain ⟨m', hm, w7⟩ := hN σ7 H7 n7
      refine ⟨m', hm, i + 1, σ7, H7, I7.unpinned, T.keep _ _ _ st5 fun b hb o e => (I7.pin (b, o) (List.mem_append_right _ (List.mem_append_right _ (mem_pinsAt hb e)))).1, fun b hb => ?_, w7⟩
      obtain ⟨o, e, d⟩ := T.obj _ _ st5 b hb
      exact (I7.pin (b, o) (List.mem_append_right _ (List.mem_append_right _ (mem_pinsAt hb e)))).2.1
    cases f with
    | next => obtain ⟨σ7, H7, I7, n7⟩ := q7; exact again I7 n7
    | cont => obtain ⟨σ7, H7, I7, n7⟩ := q7; exact again I7 n7
    | brk => obtain ⟨σ7, H7, I7, q7⟩ := q7; exact ⟨σ7, H7, I7.unpinned, q7⟩
    | ret v => obtain ⟨x7, σ7, H7, I7, r7, q7⟩ := q7; exact ⟨x7, σ7, H7, I7.unpinned, r7, q7⟩
end

/-! ### the forms one uses -/
theorem for_range {lo : Int} {n : Nat} {g : TG} {tb : TS} {D : Ends} {σ : St} {H : Hp} (Pv : Nat → St → Hp → Prop) (h0 : Pv 0 σ H)
    (hs : ∀ i σ H, i < n → Pv i σ H → g (.int (lo + i)) σ H fun σ2 H2 => tb { D with nx := Pv (i + 1), ct := Pv (i + 1), bk := D.nx } σ2 H2) (hd : ∀ σ H, Pv n σ H → D.nx σ H) :
    ∃ W : Nat → Nat → St → Hp → Prop, (∃ m, W 0 m σ H) ∧ ∀ i m σ H, W i m σ H →
      ((Itr lo n).stop i H ∧ D.nx σ H) ∨ ((Itr lo n).go i H ∧ ∃ N : St → Hp → Prop, (∀ σ' H', N σ' H' → ∃ m', m' < m ∧ W (i + 1) m' σ' H') ∧ ∀ x H', (Itr lo n).yld i H x H' → g x σ H' fun σ2 H2 => tb { D with nx := N, ct := N, bk := D.nx } σ2 H2) := by
  refine ⟨fun i m σ H => m = n - i ∧ i ≤ n ∧ Pv i σ H, ⟨n, by simp, Nat.zero_le _, h0⟩, ?_⟩
  rintro i m σ H ⟨rfl, hi, p⟩
  by_cases hlt : i < n
  · refine .inr ⟨hlt, Pv (i + 1), fun σ' H' p' => ⟨n - (i + 1), by omega, rfl, hlt, p'⟩, fun x H' y => ?_⟩
    obtain ⟨e, y⟩ := y
    subst e y
    exact hs i σ _ hlt p
  · have e : i = n := by omega
    subst e
    exact .inl ⟨Nat.le_refl _, hd σ H p⟩
end L2

namespace L2
open PySem PySem.Spec PyProof.Rows

noncomputable abbrev R2 := V → V → Hp → VK → Prop
/-- a two-place operation on values: f is binaryOp op, inplaceOp op or compareOp op -/
noncomputable def OpR (X : Cx) (f : Value → Value → Sem Value) (r : R2) : Prop :=
  ∀ (pins : List (Addr × Obj)) (s : Shared) (σ : St) (H : Hp) (x y : V) (v u : Value) (Q : VK), Inv X pins σ H s → RelV x v → RelV y u → r x y H Q →
    wpAny (model X.prog X.w) X.A (f v u) (EP X pins σ Q) X.xe s
/-- a one-place operation -/
noncomputable def UnR (X : Cx) (f : Value → Sem Value) (r : V → Hp → VK → Prop) : Prop :=
  ∀ (pins : List (Addr × Obj)) (s : Shared) (σ : St) (H : Hp) (x : V) (v : Value) (Q : VK), Inv X pins σ H s → RelV x v → r x H Q →
    wpAny (model X.prog X.w) X.A (f v) (EP X pins σ Q) X.xe s
/-- a call of a value that is known (a builtin, a type) with values -/
noncomputable def CallR (X : Cx) (f : Value) (r : List V → Hp → VK → Prop) : Prop :=
  ∀ (pins : List (Addr × Obj)) (s : Shared) (σ : St) (H : Hp) (xs : List V) (us : List Value) (Q : VK), Inv X pins σ H s → Vals xs us → r xs H Q →
    wpAny (model X.prog X.w) X.A (call f us) (EP X pins σ Q) X.xe s
/-- a value's truth -/
noncomputable def TruR (X : Cx) (r : V → Hp → (Bool → Hp → Prop) → Prop) : Prop :=
  ∀ (pins : List (Addr × Obj)) (s : Shared) (σ : St) (H : Hp) (x : V) (v : Value) (Q : Bool → Hp → Prop), Inv X pins σ H s → RelV x v → r x H Q →
    wpAny (model X.prog X.w) X.A (truthy v) (TP X pins σ Q) X.xe s

noncomputable def tOp (r : R2) (ta tb : TE) : TE := fun σ H Q => ta σ H fun x H1 => tb σ H1 fun y H2 => r x y H2 Q
noncomputable def tUn (r : V → Hp → VK → Prop) (ta : TE) : TE := fun σ H Q => ta σ H fun x H1 => r x H1 Q
/-- ints in, under C, and a value out -/
noncomputable def rI (C : Int → Int → Prop) (g : Int → Int → V) : R2 := fun x y H Q => ∃ i j, x = .int i ∧ y = .int j ∧ C i j ∧ Q (g i j) H
noncomputable def rI0 (g : Int → Int → V) : R2 := fun x y H Q => ∃ i j, x = .int i ∧ y = .int j ∧ Q (g i j) H
noncomputable def rU (g : Int → V) : V → Hp → VK → Prop := fun x H Q => ∃ i, x = .int i ∧ Q (g i) H

section
variable {X : Cx} {a b c : Expr} {ta tb tc : TE} {pos : Pos}

theorem binT (ha : PE X a ta) (hb : PE X b tb) {pins : List (Addr × Obj)} {s : Shared} {σ : St} {H : Hp} {R : V → V → Hp → Prop} (I : Inv X pins σ H s)
    (h : ta σ H fun x H1 => tb σ H1 fun y H2 => R x y H2) {Q : Value → Shared → Prop} {f : Value → Value → Sem Value}
    (hf : ∀ v u s2 x y H2, Inv X pins σ H2 s2 → RelV x v → RelV y u → R x y H2 → wpAny (model X.prog X.w) X.A (f v u) Q X.xe s2) :
    wpAny (model X.prog X.w) X.A (eval a X.env) (fun v s₁ => wpAny (model X.prog X.w) X.A (eval b X.env) (fun u s₂ => wpAny (model X.prog X.w) X.A (f v u) Q X.xe s₂) X.xe s₁) X.xe s := by
  refine thn (ha pins s σ H _ I h) fun v s1 ⟨x, H1, I1, r1, q1⟩ => ?_
  refine thn (hb pins s1 σ H1 _ I1 q1) fun u s2 ⟨y, H2, I2, r2, q2⟩ => ?_
  exact hf v u s2 x y H2 I2 r1 r2 q2

theorem pe_op {op : Operator} {r : R2} (ho : OpR X (binaryOp op) r) (ha : PE X a ta) (hb : PE X b tb) : PE X (.BinOp a op b pos) (tOp r ta tb) := by
  intro pins s σ H Q I h
  exact wpAny_BinOp (binT ha hb I h fun v u s2 x y H2 I2 rx ry q => ho pins s2 σ H2 x y v u Q I2 rx ry q)
theorem pe_un {op : UnaryOp} {r : V → Hp → VK → Prop} (ho : UnR X (unaryOp op) r) (ha : PE X a ta) : PE X (.UnaryOp op a pos) (tUn r ta) := by
  intro pins s σ H Q I h
  exact UnaryOp_ (thn (ha pins s σ H _ I h) fun v s1 ⟨x, H1, I1, r1, q1⟩ => ho pins s1 σ H1 x v Q I1 r1 q1)

/-! ### ints -/
theorem opI {f : Value → Value → Sem Value} {C : Int → Int → Prop} {g : Int → Int → Int}
    (rule : ∀ (i j : Int) (t u : Tok) (s : Shared) (Q : Value → Shared → Prop) (E : Value → Shared → Prop), C i j → Q (.int (g i j) s.toks) { s with toks := s.toks + 1 } → wpAny (model X.prog X.w) X.A (f (.int i t) (.int j u)) Q E s) :
    OpR X f (rI C fun i j => .int (g i j)) := by
  intro pins s σ H x y v u Q I rx ry h
  obtain ⟨i, j, rfl, rfl, hc, q⟩ := h
  obtain ⟨t, rfl⟩ := rx
  obtain ⟨t', rfl⟩ := ry
  exact rule i j t t' s _ _ hc ⟨.int (g i j), H, I.tok _, ⟨_, rfl⟩, q⟩
theorem opI0 {f : Value → Value → Sem Value} {g : Int → Int → Int}
    (rule : ∀ (i j : Int) (t u : Tok) (s : Shared) (Q : Value → Shared → Prop) (E : Value → Shared → Prop), Q (.int (g i j) s.toks) { s with toks := s.toks + 1 } → wpAny (model X.prog X.w) X.A (f (.int i t) (.int j u)) Q E s) :
    OpR X f (rI0 fun i j => .int (g i j)) := by
  intro pins s σ H x y v u Q I rx ry h
  obtain ⟨i, j, rfl, rfl, q⟩ := h
  obtain ⟨t, rfl⟩ := rx
  obtain ⟨t', rfl⟩ := ry
  exact rule i j t t' s _ _ ⟨.int (g i j), H, I.tok _, ⟨_, rfl⟩, q⟩
theorem opB0 {f : Value → Value → Sem Value} {g : Int → Int → Bool}
    (rule : ∀ (i j : Int) (t u : Tok) (s : Shared) (Q : Value → Shared → Prop) (E : Value → Shared → Prop), Q (.bool (g i j)) s → wpAny (model X.prog X.w) X.A (f (.int i t) (.int j u)) Q E s) :
    OpR X f (rI0 fun i j => .bl (g i j)) := by
  intro pins s σ H x y v u Q I rx ry h
  obtain ⟨i, j, rfl, rfl, q⟩ := h
  obtain ⟨t, rfl⟩ := rx
  obtain ⟨t', rfl⟩ := ry
  exact rule i j t t' s _ _ ⟨.bl (g i j), H, I, rfl, q⟩

noncomputable def CDiv (i j : Int) : Prop := 0 < j ∧ j < 1073741824
noncomputable def CDivN (i j : Int) : Prop := j ≠ 0 ∧ j.natAbs < 1073741824
noncomputable def CPow (i j : Int) : Prop := 0 ≤ j ∧ j ≤ 1000000 ∧ i.natAbs < 2 ^ 64
noncomputable def CMul (i j : Int) : Prop := (-(2 ^ 64) < i ∧ i < 2 ^ 64) ∨ (-(2 ^ 64) < j ∧ j < 2 ^ 64)
theorem CMul.ok {i j : Int} (h : CMul i j) : IntMulOk i j := by
  rcases h with ⟨h1, h2⟩ | ⟨h1, h2⟩
  · exact .of_left (intBits_le_64 h1 h2)
  · exact .of_right (intBits_le_64 h1 h2)

theorem op_add : OpR X (binaryOp .Add) (rI0 fun i j => .int (i + j)) := opI0 fun _ _ _ _ _ _ _ q => add_int q
theorem op_sub : OpR X (binaryOp .Sub) (rI0 fun i j => .int (i - j)) := opI0 fun _ _ _ _ _ _ _ q => sub_int q
theorem op_modN : OpR X (binaryOp .Mod) (rI (fun _ j => j ≠ 0) fun i j => .int (i.fmod j)) := opI fun _ _ _ _ _ _ _ hc q => mod_int' hc q
theorem op_pow : OpR X (binaryOp .Pow) (rI CPow fun i j => .int (i ^ j.toNat)) := opI fun _ _ _ _ _ _ _ hc q => pow_int_small hc.1 hc.2.1 hc.2.2 q
theorem op_xor : OpR X (binaryOp .BitXor) (rI0 fun i j => .int (Builtin.bitXor i j)) := opI0 fun _ _ _ _ _ _ _ q => xor_int q


theorem unI {f : Value → Sem Value} {g : Int → Int}
    (rule : ∀ (i : Int) (t : Tok) (s : Shared) (Q : Value → Shared → Prop) (E : Value → Shared → Prop), Q (.int (g i) s.toks) { s with toks := s.toks + 1 } → wpAny (model X.prog X.w) X.A (f (.int i t)) Q E s) :
    UnR X f (rU fun i => .int (g i)) := by
  intro pins s σ H x v Q I rx h
  obtain ⟨i, rfl, q⟩ := h
  obtain ⟨t, rfl⟩ := rx
  exact rule i t s _ _ ⟨.int (g i), H, I.tok _, ⟨_, rfl⟩, q⟩
theorem un_neg : UnR X (unaryOp .USub) (rU fun i => .int (-i)) := unI fun _ _ _ _ _ q => neg_int q

/-! ### bools among ints: n += (a < b) -/
end

/-! ### comparisons -/
/-- the scalars that == tells apart as data does -/
noncomputable def scal : V → V → Bool
  | .non, .non => true | .non, .int _ => true | .int _, .non => true | .non, .bl _ => true | .bl _, .non => true | .non, .str _ => true | .str _, .non => true
  | .int _, .int _ => true | .bl _, .bl _ => true | .str _, .str _ => true | .byt _, .byt _ => true
  | .int _, .str _ => true | .str _, .int _ => true | .bl _, .str _ => true | .str _, .bl _ => true
  | _, _ => false
noncomputable def rEq : R2 := fun x y H Q => scal x y = true ∧ Q (.bl (decide (x = y))) H
noncomputable def rNe : R2 := fun x y H Q => scal x y = true ∧ Q (.bl (!decide (x = y))) H


section
variable {X : Cx} {a b c : Expr} {ta tb tc : TE} {pos : Pos}

theorem op_lt : OpR X (compareOp .Lt) (rI0 fun i j => .bl (decide (i < j))) := opB0 fun _ _ _ _ _ _ _ q => lt_int q
theorem op_le : OpR X (compareOp .LtE) (rI0 fun i j => .bl (decide (i ≤ j))) := opB0 fun _ _ _ _ _ _ _ q => le_int q
theorem op_gt : OpR X (compareOp .Gt) (rI0 fun i j => .bl (decide (j < i))) := opB0 fun _ _ _ _ _ _ _ q => gt_int q
theorem op_ge : OpR X (compareOp .GtE) (rI0 fun i j => .bl (decide (j ≤ i))) := opB0 fun _ _ _ _ _ _ _ q => ge_int q


/-- is, is not of two objects that are tracked lists or instances -/
noncomputable def isObj : HO → Bool
  | .lst _ => true
  | .ins _ _ _ => true
  | _ => false

/-- two rules for one operation: by cases -/
theorem OpR.or {f : Value → Value → Sem Value} {r r' : R2} (h : OpR X f r) (h' : OpR X f r') : OpR X f (fun x y H Q => r x y H Q ∨ r' x y H Q) := by
  intro pins s σ H x y v u Q I rx ry q
  rcases q with q | q
  · exact h pins s σ H x y v u Q I rx ry q
  · exact h' pins s σ H x y v u Q I rx ry q

theorem nomark (b : Expr) {op : CmpOp} (h : op ≠ .In := by decide) (h2 : op ≠ .NotIn := by decide) : behindInMarks op b = false := by
  have e1 : (op == CmpOp.In) = false := by cases op <;> first | rfl | exact absurd rfl h
  have e2 : (op == CmpOp.NotIn) = false := by cases op <;> first | rfl | exact absurd rfl h2
  cases b <;> simp [behindInMarks, e1, e2]
/-- a comparison as a value; hm: nomark b, or (for in, not in) by with_unfolding_all rfl -/
theorem pe_cmpR {op : CmpOp} {r : R2} (ho : OpR X (compareOp op) r) (ha : PE X a ta) (hb : PE X b tb) (hm : behindInMarks op b = false) : PE X (.Compare a [op] [b] pos) (tOp r ta tb) := by
  intro pins s σ H Q I h
  exact wpAny_Compare1 (binT ha hb I h fun v u s2 x y H2 I2 rx ry q => ho pins s2 σ H2 x y v u Q I2 rx ry q) hm
/-- a reading of a value as a test -/
noncomputable def tTest (t : TE) : TT := fun σ H Q => t σ H fun x H' => ∃ k, x = .bl k ∧ Q k H'
theorem pt_cmpR {op : CmpOp} {r : R2} (ho : OpR X (compareOp op) r) (ha : PE X a ta) (hb : PE X b tb) (hm : behindInMarks op b = false) : PT X (.Compare a [op] [b] pos) (tTest (tOp r ta tb)) := by
  intro pins s σ H Q I h
  refine wpAny_isTrue_Compare1 (thn (ha pins s σ H _ I h) fun v s1 ⟨x, H1, I1, r1, q1⟩ => thn (hb pins s1 σ H1 _ I1 q1) fun u s2 ⟨y, H2, I2, r2, q2⟩ =>
    thn (ho pins s2 σ H2 x y v u _ I2 r1 r2 q2) fun c s3 ⟨z, H3, I3, r3, k, e, q3⟩ => ?_) hm
  subst e
  cases r3
  exact wpAny_truthy_bool ⟨H3, I3, q3⟩
/-- a op1 b op2 c -/
noncomputable def tChain (r r' : R2) (ta tb tc : TE) : TE := fun σ H Q => ta σ H fun x H1 => tb σ H1 fun y H2 => r x y H2 fun z H3 => ∃ k, z = .bl k ∧
  (if k = true then tc σ H3 fun w' H4 => r' y w' H4 Q else Q (.bl false) H3)
theorem pe_chain {op op' : CmpOp} {r r' : R2} (ho : OpR X (compareOp op) r) (ho' : OpR X (compareOp op') r') (ha : PE X a ta) (hb : PE X b tb) (hc : PE X c tc)
    (hm : lastMarks [op, op'] [b, c] = false := by with_unfolding_all rfl) : PE X (.Compare a [op, op'] [b, c] pos) (tChain r r' ta tb tc) := by
  intro pins s σ H Q I h
  refine Compare_chain (thn (ha pins s σ H _ I h) fun v s1 ⟨x, H1, I1, r1, q1⟩ => chain_link (thn (hb pins s1 σ H1 _ I1 q1) fun u s2 ⟨y, H2, I2, r2, q2⟩ =>
    thn (ho pins s2 σ H2 x y v u _ I2 r1 r2 q2) fun d s3 ⟨z, H3, I3, r3, k, e, q3⟩ => ?_)) hm
  subst e
  cases r3
  refine wpAny_truthy_bool ?_
  cases k with
  | false => exact ite_ff ⟨.bl false, H3, I3, rfl, q3⟩
  | true => exact ite_tt (chain_last (thn (hc pins s3 σ H3 _ I3 q3) fun w' s4 ⟨z', H4, I4, r4, q4⟩ => ho' pins s4 σ H4 y z' u w' Q I4 r2 r4 q4))

/-! ### truth -/
/-- a value's truth by the abstract heap -/
noncomputable def TruV (K : PySem.W.Frag) (x : V) (H : Hp) (k : Bool) : Prop :=
  match x with
  | .non => k = false
  | .bl b => k = b
  | .int i => k = (i != 0)
  | .str y => y.length ≤ sizeLine ∧ k = ((y.length : Int) != 0)
  | .byt y => y.size ≤ sizeLine ∧ k = ((y.size : Int) != 0)
  | .ref p => (∃ xs, SqL K H p xs ∧ k = !xs.isEmpty) ∨ (∃ xs, SqT K H p xs ∧ k = !xs.isEmpty) ∨ ∃ kvs, H p = some (.dK kvs) ∧ k = !kvs.isEmpty
  | _ => False
theorem line63 : (sizeLine : Nat) < 2 ^ 63 := by rw [sizeLine_eq]; decide

/-! ### strs and bytes -/

noncomputable def PlainIxT (b : Expr) : Prop := ∀ o i, subscripted b false o i = operate [o, i] (getItem o i)

/-! ### scalar builtins, by CallR -/
theorem vals1 {x : V} {us : List Value} (r : Vals [x] us) : ∃ u, us = [u] ∧ RelV x u := by
  cases r with
  | cons r1 r2 => cases r2; exact ⟨_, rfl, r1⟩
theorem vals2 {x y : V} {us : List Value} (r : Vals [x, y] us) : ∃ u w', us = [u, w'] ∧ RelV x u ∧ RelV y w' := by
  cases r with
  | cons r1 r2 =>
    cases r2 with
    | cons r3 r4 => cases r4; exact ⟨_, _, rfl, r1, r3⟩
theorem call_abs : CallR X (.builtin "abs") (fun xs H Q => ∃ i, xs = [.int i] ∧ Q (.int (if i < 0 then -i else i)) H) := by
  intro pins s σ H xs us Q I r h
  obtain ⟨i, rfl, q⟩ := h
  obtain ⟨u, rfl, t, rfl⟩ := vals1 r
  exact call_abs_int fun u tk => ⟨.int (if i < 0 then -i else i), H, I.tok _, ⟨_, rfl⟩, q⟩
theorem call_max2 (hc : X.calm = true) : CallR X (.builtin "max") (fun xs H Q => ∃ i j, xs = [.int i, .int j] ∧ Q (.int (if j > i then j else i)) H) := by
  intro pins s σ H xs us Q I r h
  obtain ⟨i, j, rfl, q⟩ := h
  obtain ⟨u, w', rfl, ⟨t, rfl⟩, ⟨t', rfl⟩⟩ := vals2 r
  refine max_two_ints (I.ok.hd hc) fun h' tk k => ⟨_, H, I.kept k, ?_, q⟩
  by_cases hj : j > i
  · rw [if_pos hj, if_pos hj]; exact ⟨_, rfl⟩
  · rw [if_neg hj, if_neg hj]; exact ⟨_, rfl⟩
theorem call_min2 (hc : X.calm = true) : CallR X (.builtin "min") (fun xs H Q => ∃ i j, xs = [.int i, .int j] ∧ Q (.int (if j < i then j else i)) H) := by
  intro pins s σ H xs us Q I r h
  obtain ⟨i, j, rfl, q⟩ := h
  obtain ⟨u, w', rfl, ⟨t, rfl⟩, ⟨t', rfl⟩⟩ := vals2 r
  refine min_two_ints (I.ok.hd hc) fun h' tk k => ⟨_, H, I.kept k, ?_, q⟩
  by_cases hj : j < i
  · rw [if_pos hj, if_pos hj]; exact ⟨_, rfl⟩
  · rw [if_neg hj, if_neg hj]; exact ⟨_, rfl⟩
theorem call_int1 : CallR X (.type "int") (fun xs H Q => (∃ i, xs = [.int i] ∧ Q (.int i) H) ∨ ∃ k, xs = [.bl k] ∧ Q (.int (if k then 1 else 0)) H) := by
  intro pins s σ H xs us Q I r h
  rcases h with ⟨i, rfl, q⟩ | ⟨k, rfl, q⟩
  · obtain ⟨u, rfl, t, rfl⟩ := vals1 r
    exact call_int_int ⟨.int i, H, I, ⟨_, rfl⟩, q⟩
  · obtain ⟨u, rfl, r1⟩ := vals1 r
    cases r1
    exact call_int_bool ⟨.int (if k then 1 else 0), H, I.tok _, ⟨_, rfl⟩, q⟩
/-- len of a str, a bytes, a list, a tuple -/
noncomputable def LenV (K : PySem.W.Frag) (x : V) (H : Hp) (n : Nat) : Prop :=
  match x with
  | .str y => y.length ≤ sizeLine ∧ n = y.length
  | .byt y => y.size ≤ sizeLine ∧ n = y.size
  | .ref p => (∃ xs, SqL K H p xs ∧ n = xs.length) ∨ ∃ xs, SqT K H p xs ∧ n = xs.length
  | _ => False
end
end L2

namespace L2
open PySem PySem.Spec PyProof.Rows

/-! ### an instance, its attributes a map -/
structure ObjM (h : Heap) (x dx C : Addr) (mA : Str → Option Value) : Prop where
  obj : h.get? x = some (PySem.W.instObj C dx)
  ns : h.Ns1 dx mA
  ne : dx ≠ x



section
variable {prog : Program} {w : World} {A : Around} {E : Value → Shared → Prop} {s : Shared} {K : PySem.W.Frag} {x dx C f : Addr} {mA : Str → Option Value} {name : Str} {v : Value}





end

/-! ### the attributes as a list of pairs -/
noncomputable def putF (f : Str) (v : V) : List (Str × V) → List (Str × V)
  | [] => [(f, v)]
  | (g, x) :: r => if g = f then (g, v) :: r else (g, x) :: putF f v r


section
variable {P : Program} {w : World} {H H' : Hp} {h h' : Heap} {a C dx : Addr} {fs fs' : List (Str × V)}
end

/-! ### what of the text a class must have -/
structure Cls (K : PySem.W.Frag) (C : Addr) : Prop where
  pg : PySem.W.plainGet K C Str.empty = true
  hd : PySem.W.hasDictIn K C = true
  po : PySem.W.plainOver K C = true
  sa : PySem.W.findIn K (.ref C) "__setattr__" = some (some (.builtin "object.__setattr__"))
theorem Cls.get {K : PySem.W.Frag} {C : Addr} (c : Cls K C) (f : Str) : PySem.W.plainGet K C f = true := c.pg
/-- no class of it has the name -/
noncomputable def NoAttr (K : PySem.W.Frag) (C : Addr) (f : Str) : Prop := PySem.W.findIn K (.ref C) f = some none
/-- a constant of the class -/
structure Con (K : PySem.W.Frag) (C : Addr) (f : Str) (v : V) (u : Value) : Prop where
  at_ : PySem.W.findIn K (.ref C) f = some (some u)
  rel : RelV v u
  get : PySem.W.specialIn K u "__get__" = some none
  cp : PySem.W.copiedNames.contains f = false
/-- a method: a plain def of the class or of one above it -/
structure Meth (K : PySem.W.Frag) (C : Addr) (m : Str) (f : Addr) : Prop where
  at_ : PySem.W.findIn K (.ref C) m = some (some (.ref f))
  fn : PySem.W.isFn K (.ref f) = true
  kp : PySem.W.keepIn K (.ref f) = true

section
variable {X : Cx} {pins : List (Addr × Obj)} {σ : St} {H : Hp} {s : Shared} {a C dx : Addr} {fs : List (Str × V)} {f : Str} {v : V} {A : Around} {E : Value → Shared → Prop}





/-- a new instance, tracked, without attributes -/
theorem Inv.made (I : Inv X pins σ H s) : Inv X pins σ (upd (upd H s.heap.objs.size (.own (s.heap.objs.size + 1))) (s.heap.objs.size + 1) (.ins C s.heap.objs.size []))
    { s with heap := (s.heap.push PySem.W.emptyDict).push (PySem.W.instObj C s.heap.objs.size) } := by
  have e1 : (s.heap.push PySem.W.emptyDict).get? s.heap.objs.size = some PySem.W.emptyDict := Heap.get?_push_size s.heap rfl
  have e2 : ((s.heap.push PySem.W.emptyDict).push (PySem.W.instObj C s.heap.objs.size)).get? (s.heap.objs.size + 1) = some (PySem.W.instObj C s.heap.objs.size) := by
    have := Heap.get?_push_size (s.heap.push PySem.W.emptyDict) (o := PySem.W.instObj C s.heap.objs.size) rfl
    rwa [Heap.size_push] at this
  have e3 : (s.heap.push PySem.W.emptyDict).Ns s.heap.objs.size (fun _ => none) := ⟨PySem.W.emptyDict, #[], _, e1, rfl, (fun e he => absurd he (by simp)), fun _ => rfl⟩
  have I1 := I.laid (a := s.heap.objs.size) (o := .own (s.heap.objs.size + 1)) (h' := s.heap.push PySem.W.emptyDict) (t' := s.toks) (fun b u q => Heap.get?_push_of_some _ q) (Nat.le_refl _) ⟨_, e1⟩
  refine I1.laid (a := s.heap.objs.size + 1) (o := .ins C s.heap.objs.size []) (t' := s.toks) (fun b u q => Heap.get?_push_of_some _ q) (Nat.le_of_eq (Heap.size_push _ _)) ?_
  have ne : s.heap.objs.size ≠ s.heap.objs.size + 1 := Nat.ne_of_lt (Nat.lt_succ_self _)
  refine ⟨by rw [upd_ne ne, upd_same], Nat.zero_le _, ne, e2, fun _ => none, (Heap.Ns1.of_empty e3).at fun o q => Heap.get?_push_of_some _ q, fun _ => True.intro, fun y hy => absurd rfl hy⟩

end

/-! ### readings and rules -/
/-- e.f, an attribute of the instance -/
noncomputable def tFld (K : PySem.W.Frag) (ta : TE) (f : Str) : TE := fun σ H Q => ta σ H fun x H1 => ∃ a C dx fs v, x = .ref a ∧ H1 a = some (.ins C dx fs) ∧ Cls K C ∧ NoAttr K C f ∧ fs.lookup f = some v ∧ Q v H1
/-- e.f, a constant of the class -/
noncomputable def tCon (K : PySem.W.Frag) (ta : TE) (f : Str) : TE := fun σ H Q => ta σ H fun x H1 => ∃ a C dx fs v u, x = .ref a ∧ H1 a = some (.ins C dx fs) ∧ Cls K C ∧ Con K C f v u ∧ fs.lookup f = none ∧ Q v H1
/-- e.f = value -/
noncomputable def sFld (K : PySem.W.Frag) (ta tv : TE) (f : Str) : TS := fun D σ H => tv σ H fun y H1 => ta σ H1 fun x H2 => ∃ a C dx fs, x = .ref a ∧ H2 a = some (.ins C dx fs) ∧ Cls K C ∧ NoAttr K C f ∧ fs.length < 1000 ∧
  D.nx σ (upd H2 a (.ins C dx (putF f y fs)))
/-- an augmented operator on two values -/
noncomputable def InOp (X : Cx) (op : Operator) (rd : V → V → Hp → VK → Prop) : Prop :=
  ∀ (pins : List (Addr × Obj)) (s : Shared) (σ : St) (H : Hp) (x y : V) (u v : Value) (Q : VK), Inv X pins σ H s → RelV x u → RelV y v → rd x y H Q → wpAny (model X.prog X.w) X.A (inplaceOp op u v) (EP X pins σ Q) X.xe s
/-- e.f op= value -/
noncomputable def sFldAug (K : PySem.W.Frag) (ta tv : TE) (rd : V → V → Hp → VK → Prop) (f : Str) : TS := fun D σ H => ta σ H fun x H1 => ∃ a C dx fs v, x = .ref a ∧ H1 a = some (.ins C dx fs) ∧ Cls K C ∧ NoAttr K C f ∧ fs.lookup f = some v ∧
  tv σ H1 fun y H2 => rd v y H2 fun z H3 => ∃ dx' fs', H3 a = some (.ins C dx' fs') ∧ fs'.length < 1000 ∧ D.nx σ (upd H3 a (.ins C dx' (putF f z fs')))

section
variable {X : Cx} {o e value : Expr} {f : Str} {pos pos' tpos : Pos} {ta tv : TE}
noncomputable def rAdd : V → V → Hp → VK → Prop := fun x y H Q => ∃ i j, x = .int i ∧ y = .int j ∧ Q (.int (i + j)) H
noncomputable def rSub : V → V → Hp → VK → Prop := fun x y H Q => ∃ i j, x = .int i ∧ y = .int j ∧ Q (.int (i - j)) H

end

/-! ### isinstance -/
section
variable {X : Cx} {pins : List (Addr × Obj)} {σ : St} {H : Hp} {s : Shared} {A : Around} {E : Value → Shared → Prop} {Q : Value → Shared → Prop} {c : Value} {b : Bool}
/-- the type of a value, as the fragment's deciders take it; for an instance its class -/
inductive TyOf (K : PySem.W.Frag) (H : Hp) : V → Value → Prop where
  | non : TyOf K H .non (.type "NoneType")
  | bl (x : Bool) : TyOf K H (.bl x) (.type "bool")
  | int (i : Int) : TyOf K H (.int i) (.type "int")
  | str (x : Str) : TyOf K H (.str x) (.type "str")
  | flt (x : UInt64) : TyOf K H (.flt x) (.type "float")
  | lst {a : Addr} {xs : List V} (e : H a = some (.lst xs)) : TyOf K H (.ref a) (.type "list")
  | frz {a : Addr} {o : Obj} {xs : List V} (e : H a = some (.frz o (.lst xs))) : TyOf K H (.ref a) (.type "list")
  | tup {a : Addr} {xs : List V} (e : H a = some (.tup xs)) : TyOf K H (.ref a) (.type "tuple")
  | dK {a : Addr} {kvs : List (Key × V)} (e : H a = some (.dK kvs)) : TyOf K H (.ref a) (.type "dict")
  | dT {a : Addr} {kvs : List (List Key × V)} (e : H a = some (.dT kvs)) : TyOf K H (.ref a) (.type "dict")
  | ins {a C dx : Addr} {fs : List (Str × V)} (e : H a = some (.ins C dx fs)) (cl : Cls K C) (ha : PySem.W.findIn K (.ref C) "__class__" = some (some (.builtin "object.__class__")))
      (hn : PySem.W.specialIn K (.builtin "object.__class__") "__get__" = some (some (.builtin "getset_descriptor.__get__"))) (htk : PySem.W.takesIn K (.builtin "object.__class__") = some true)
      (hm : PySem.W.mroIn K C (.type "object") = some true) : TyOf K H (.ref a) (.ref C)
end
end L2

namespace L2
open PySem PySem.Spec PyProof.Rows

/-! ### room -/
structure Room (k : Nat) (A : Around) : Prop where
  hd : A.handled = none
  dp : A.depth + 3 * k + 5 < recursionLimit
  un : A.units + 16 * k + 200 < cLine
theorem Room.mono {j k : Nat} {A : Around} (r : Room k A) (h : j ≤ k) : Room j A := ⟨r.hd, by have := r.dp; omega, by have := r.un; omega⟩
theorem Room.deeper {k : Nat} {A : Around} (r : Room (k + 1) A) (env : Env) : Room k (A.deeper env) :=
  ⟨r.hd, by have := r.dp; show A.depth + 1 + 3 * k + 5 < _; omega, by have := r.un; show A.units + 3 + 16 * k + 200 < _; omega⟩
theorem Room.in1 {k : Nat} {A : Around} (r : Room (k + 1) A) : Room k A.in1 :=
  ⟨r.hd, by have := r.dp; show A.depth + 3 * k + 5 < _; omega, by have := r.un; show A.units + 1 + 16 * k + 200 < _; omega⟩
theorem Room.depth {k : Nat} {A : Around} (r : Room k A) : A.depth < recursionLimit := by have := r.dp; omega
theorem Room.units {k : Nat} {A : Around} (r : Room k A) : A.units + 64 < cLine := by have := r.un; omega

/-! ### argument lists and displays -/
noncomputable def tNil : TA := fun _ H Q => Q [] H
noncomputable def tCons (ta : TE) (tr : TA) : TA := fun σ H Q => ta σ H fun x H1 => tr σ H1 fun xs H2 => Q (x :: xs) H2
section
variable {X : Cx} {e : Expr} {es : List Expr} {te : TE} {t : TA} {pos : Pos}
theorem pa_nil : PA X [] tNil := fun _ _ _ _ H Q I h => Calls.spliced_nil ⟨[], H, I, .nil, h⟩
theorem pa_cons (ha : PE X e te) (hr : PA X es t) (hs : starEach (e :: es) X.env = (false, eval e X.env) :: starEach es X.env := by rfl) : PA X (e :: es) (tCons te t) := by
  intro pos pins s σ H Q I h
  rw [hs]
  show wpAny _ _ (spliced ((false, eval e X.env) :: backTo pos (starEach es X.env))) _ _ s
  refine Calls.spliced_cons (thn (ha pins s σ H _ I h) fun u s1 ⟨x, H1, I1, r1, q1⟩ => ?_)
  exact thn (hr pos pins s1 σ H1 _ I1 q1) fun us s2 ⟨xs, H2, I2, r2, q2⟩ => ⟨x :: xs, H2, I2, .cons r1 r2, q2⟩

/-- a tuple, a list of written items -/
noncomputable def tTup (t : TA) : TE := fun σ H Q => t σ H fun xs H1 => xs.length ≤ sizeLine ∧ ∀ p, H1 p = none → Q (.ref p) (upd H1 p (.tup xs))
noncomputable def tLst (t : TA) : TE := fun σ H Q => t σ H fun xs H1 => xs.length ≤ sizeLine ∧ ∀ p, H1 p = none → Q (.ref p) (upd H1 p (.lst xs))
theorem pe_tup {x1} (h : PA X es t) : PE X (.Tuple es x1 pos) (tTup t) := by
  intro pins s σ H Q I hq
  refine wpAny_Tuple_spliced (thn (h pos pins s σ H _ I hq) fun us s1 ⟨xs, H1, I1, r, z, q⟩ => ⟨by rw [← r.length]; exact z, ?_⟩)
  have hf : H1 s1.heap.objs.size = none := I1.hok.fresh (Nat.le_refl _)
  refine ⟨.ref s1.heap.objs.size, upd H1 s1.heap.objs.size (.tup xs), I1.laid (t' := s1.toks) (fun b u e => Heap.get?_push_of_some _ e) (Nat.le_refl _) ?_, rfl, q _ hf⟩
  exact ⟨z, us, r, ⟨_, Heap.get?_push_size _ rfl, rfl, _, rfl⟩⟩
theorem pe_lst (h : PA X es t) : PE X (.List es pos) (tLst t) := by
  intro pins s σ H Q I hq
  refine wpAny_List_spliced (thn (h pos pins s σ H _ I hq) fun us s1 ⟨xs, H1, I1, r, z, q⟩ => ⟨by rw [← r.length]; exact z, ?_⟩)
  have hf : H1 s1.heap.objs.size = none := I1.hok.fresh (Nat.le_refl _)
  refine ⟨.ref s1.heap.objs.size, upd H1 s1.heap.objs.size (.lst xs), I1.laid (t' := s1.toks) (fun b u e => Heap.get?_push_of_some _ e) (Nat.le_refl _) ?_, rfl, q _ hf⟩
  exact ⟨z, us, 0, r, Heap.get?_push_size _ rfl⟩
end

/-! ### what a def promises -/
/-- a def's promise: the bound arguments in the parameters' order, the heap, the wanted end, the wanted exception -/
noncomputable abbrev Sp := List V → Hp → VK → XK → Prop
/-- how an exception lies behind a call (file 08 gives it): the callers' frames, abstract heap and state ahead of the call, the wish, the exception, the state -/
noncomputable abbrev CXT := List Env → Hp → Shared → XK → Value → Shared → Prop

/-- the state at a call -/
structure Env0 (P : Program) (w : World) (K : PySem.W.Frag) (mg : Str → Option Value) (base : Heap) (A : Around) (outer : List Env) (s : Shared) (H : Hp) : Prop where
  frames : A.frames = some outer
  mod : Mod K mg base
  bs : ∀ b o, base.get? b = some o → s.heap.get? b = some o ∧ H b = none
  bsz : base.objs.size ≤ s.heap.objs.size
  funs : s.heap.FunFrames base outer
  frf : ∀ b ∈ frs outer, H b = none
  hok : HOk P w H s.heap
  bare : AllBare s.gens
/-- a call's end -/
noncomputable def CE (outer : List Env) (P : Program) (w : World) (H : Hp) (s : Shared) (Q : VK) (u : Value) (s' : Shared) : Prop :=
  ∃ v H', s'.os = s.os ∧ AllBare s'.gens ∧ Un (frs outer) [] H H' s.heap s'.heap ∧ HOk P w H' s'.heap ∧ RelV v u ∧ Q v H'
noncomputable def CR (CX : CXT) (outer : List Env) (P : Program) (w : World) (H : Hp) (s : Shared) (Q : VK) (E : XK) (r : Result) (s' : Shared) : Prop :=
  match r with
  | .ok (.ret u) => CE outer P w H s Q u s'
  | .ok _ => False
  | .error e => CX outer H s E e s'
structure FnOk (P : Program) (w : World) (K : PySem.W.Frag) (mg : Str → Option Value) (base : Heap) (CX : CXT) (k : Nat) (f : Addr) (fd : FuncData) (ps : List Str) (sp : Sp) : Prop where
  len : ∀ vs H Q E, sp vs H Q E → vs.length = ps.length
  run : ∀ (A : Around) (outer : List Env) (s : Shared) (H : Hp) (args : Args) (us : List Value) (vs : List V) (Q : VK) (E : XK), Room k A → Env0 P w K mg base A outer s H → BindsTo s fd args (ps.zip us) → Vals vs us → sp vs H Q E →
    codeAny (model P w) A (.call (.ref f) args) (CR CX outer P w H s Q E) s
theorem FnOk.mono {P : Program} {w : World} {K : PySem.W.Frag} {mg : Str → Option Value} {base : Heap} {CX : CXT} {j k : Nat} {f : Addr} {fd : FuncData} {ps : List Str} {sp : Sp} (F : FnOk P w K mg base CX j f fd ps sp) (h : j ≤ k) :
    FnOk P w K mg base CX k f fd ps sp := ⟨F.len, fun A outer s H args us vs Q E hr => F.run A outer s H args us vs Q E (hr.mono h)⟩

theorem Env0.in1 {P : Program} {w : World} {K : PySem.W.Frag} {mg : Str → Option Value} {base : Heap} {A : Around} {outer : List Env} {s : Shared} {H : Hp} (e : Env0 P w K mg base A outer s H) :
    Env0 P w K mg base A.in1 outer s H := ⟨e.frames, e.mod, e.bs, e.bsz, e.funs, e.frf, e.hok, e.bare⟩

section
variable {X : Cx} {pins : List (Addr × Obj)} {σ : St} {H : Hp} {s s' : Shared}
/-- from a body: what a callee wants -/
theorem Inv.env0 (I : Inv X pins σ H s) : Env0 X.prog X.w X.K X.mg X.base X.A X.stack s H :=
  ⟨I.ok.frames, I.ok.mod, I.bs, Nat.le_trans I.ok.bsz I.sz, I.stack, I.stkFree, I.hok, I.bare⟩
/-- behind a call -/
theorem Inv.after {Q : VK} {u : Value} (I : Inv X pins σ H s) (h : CE X.stack X.prog X.w H s Q u s') : EP X pins σ Q u s' := by
  obtain ⟨v, H', os, bare, un, hok, r, q⟩ := h
  obtain ⟨hh, g, d, t, os'⟩ := s'
  obtain rfl : os' = s.os := os
  exact ⟨v, H', I.call (h' := hh) (g' := g) (d' := d) (t' := t) (ch := []) un hok bare (fun b z => absurd z (by simp)), r, q⟩
end

/-! ### calls -/
/-- f(..): the written arguments, then the defaults dvs; E: what is wanted of an exception -/
noncomputable def tCall (sp : Sp) (dvs : List V) (E : XK) (t : TA) : TE := fun σ H Q => t σ H fun vs H1 => sp (vs ++ dvs) H1 Q E
/-- o.m(..) of an instance of the class at C -/
noncomputable def tMeth (C : Addr) (m : Str) (sp : Sp) (dvs : List V) (E : XK) (ta : TE) (t : TA) : TE := fun σ H Q => ta σ H fun x H1 => ∃ a dx fs, x = .ref a ∧ H1 a = some (.ins C dx fs) ∧ fs.lookup m = none ∧
  t σ H1 fun vs H2 => sp (x :: (vs ++ dvs)) H2 Q E
/-- C(..): a new instance and its dict, then __init__ -/
noncomputable def tMake (C : Addr) (sp : Sp) (dvs : List V) (E : XK) (t : TA) : TE := fun σ H Q => t σ H fun vs H1 => ∀ x dx, H1 x = none → H1 dx = none → dx ≠ x →
  sp (.ref x :: (vs ++ dvs)) (upd (upd H1 dx (.own x)) x (.ins C dx [])) (fun v H2 => v = .non ∧ Q (.ref x) H2) E

/-- how the parameters are bound: us the positional arguments, kw the keywords' values by name, ds the defaults that fill up -/
noncomputable def Binds (K : PySem.W.Frag) (fd : FuncData) (ps : List Str) (ds : List Value) : Prop :=
  ∀ (s : Shared) (us : List Value), K.In s.heap → (us ++ ds).length = ps.length → BindsTo s fd ⟨us, []⟩ (ps.zip (us ++ ds))
/-- every parameter is given -/
theorem Binds.all {K : PySem.W.Frag} {fd : FuncData} {ps : List Str} (h : ∀ us : List Value, us.length = ps.length → bindArgs fd ⟨us, []⟩ = pure (ps.zip us)) : Binds K fd ps [] := fun s us _ hl => by
  rw [List.append_nil] at hl ⊢
  exact .of_eq (h us hl)

/-- an exception of a callee reaches what this body wants of exceptions -/
noncomputable def Passes (CX : CXT) (X : Cx) (E : XK) : Prop := ∀ (pins : List (Addr × Obj)) (σ : St) (H : Hp) (s : Shared) (e : Value) (s' : Shared), Inv X pins σ H s → CX X.stack H s E e s' → X.xe e s'

section
variable {X : Cx} {CX : CXT} {k : Nat} {f C : Addr} {fd : FuncData} {ps : List Str} {sp : Sp} {dvs : List V} {ds : List Value} {E : XK} {x m : Str} {p pos apos : Pos} {e o : Expr} {es : List Expr} {ta : TE} {t : TA}

/-- the callee runs -/
theorem run_fn {pins : List (Addr × Obj)} {σ : St} {H : Hp} {s : Shared} {Q : VK} {us : List Value} {vs : List V} (F : FnOk X.prog X.w X.K X.mg X.base CX k f fd ps sp) (hr : Room k X.A) (hb : Binds X.K fd ps ds) (hd : Vals dvs ds) (hx : Passes CX X E)
    (I : Inv X pins σ H s) (r : Vals vs us) (h : sp (vs ++ dvs) H Q E) : wpAny (model X.prog X.w) X.A (call (.ref f) us) (EP X pins σ Q) X.xe s := by
  have r2 : Vals (vs ++ dvs) (us ++ ds) := r.append hd
  have hl : (us ++ ds).length = ps.length := by rw [← r2.length]; exact F.len _ _ _ _ h
  refine wpAny_call (codeAny_mono (F.run X.A X.stack s H ⟨us, []⟩ (us ++ ds) (vs ++ dvs) Q E hr I.env0 (hb s us I.kIn hl) r2 h) fun r s' hq => ?_)
  cases r with
  | error e => exact hx pins σ H s e s' I hq
  | ok fl =>
    cases fl with
    | ret u => exact I.after hq
    | next => exact False.elim hq
    | brk => exact False.elim hq
    | cont => exact False.elim hq

theorem pe_call (F : FnOk X.prog X.w X.K X.mg X.base CX k f fd ps sp) (hr : Room k X.A) (hg : Gl X x) (hm : X.mg x = some (.ref f)) (hk : PySem.W.keepIn X.K (.ref f) = true) (hb : Binds X.K fd ps ds) (hd : Vals dvs ds) (hx : Passes CX X E)
    (ha : PA X (e :: es) t) (hdb : (x == ("__debug__" : Str)) = false := by decide) (he : starEach (e :: es) X.env = (false, eval e X.env) :: starEach es X.env := by rfl) (hpl : (backTo pos (starEach es X.env)).any (·.1) = false := by rfl) :
    PE X (.Call (.Name x p) (e :: es) [] pos) (tCall sp dvs E t) := by
  intro pins s σ H Q I h
  refine wpAny_Call_Name_kw (ld_glob I hg hm ?_ hdb)
  refine PySem.W.callWith_K (h₀ := X.base) I.ok.mod.kin hk (thn (ha pos pins s σ H _ I h) fun us s1 ⟨vs, H1, I1, r, q⟩ => ⟨I1.kIn, ?_⟩) he hpl
  exact run_fn F hr hb hd hx I1 r q


/-- what a class must have to be made -/
structure Mk (K : PySem.W.Frag) (C f : Addr) : Prop where
  makes : PySem.W.makesIn K C = true
  init : PySem.W.findIn K (.ref C) "__init__" = some (some (.ref f))
  fn : PySem.W.isFn K (.ref f) = true
  kp : PySem.W.keepIn K (.ref C) = true

end

/-! ### keywords -/
/-- the values of the keywords, from the left -/
noncomputable def PK (X : Cx) (kws : List Keyword) (t : TA) : Prop :=
  ∀ (pos : Pos) (pins : List (Addr × Obj)) (s : Shared) (σ : St) (H : Hp) (Q : List V → Hp → Prop), Inv X pins σ H s → t σ H Q → wpAny (model X.prog X.w) X.A (evalAll ((backToKw pos (keywordEach kws X.env)).map (·.2))) (AP X pins σ Q) X.xe s
section
variable {X : Cx} {CX : CXT} {k : Nat} {f C : Addr} {fd : FuncData} {ps ks : List Str} {sp : Sp} {E : XK} {x m : Str} {p pos apos kpos : Pos} {e o : Expr} {es : List Expr} {kws : List Keyword} {te ta : TE} {t tk : TA} {nm : Option Str}

/-- how a call with keywords binds: g puts the positional values us and the keywords' values ws (names ks) in the parameters' order, defaults among them -/
structure KBinds (K : PySem.W.Frag) (fd : FuncData) (ps ks : List Str) (g : List Value → List Value → List Value) (gV : List V → List V → List V) : Prop where
  to : ∀ (s : Shared) (us ws : List Value), K.In s.heap → (g us ws).length = ps.length → BindsTo s fd ⟨us, ks.zip ws⟩ (ps.zip (g us ws))
  rel : ∀ {vs : List V} {us : List Value} {zs : List V} {ws : List Value}, Vals vs us → Vals zs ws → Vals (gV vs zs) (g us ws)
noncomputable def tCallK (sp : Sp) (gV : List V → List V → List V) (E : XK) (t tk : TA) : TE := fun σ H Q => t σ H fun vs H1 => tk σ H1 fun zs H2 => sp (gV vs zs) H2 Q E
variable {g : List Value → List Value → List Value} {gV : List V → List V → List V}
end

/-! ### a def's body keeps its promise -/
/-- names: the parameters first -/
structure FnScope (N P : List Str) (sc : Scope) : Prop where
  kind : sc.kind = .function
  co : sc.isCoroutine = false
  gen : sc.isGenerator = false
  nd : N.Nodup
  pre : N.take P.length = P
  par : ∀ x ∈ P, sc.names.lookup x = some .local ∨ sc.names.lookup x = some .cell
  nofree : ∀ y ∈ sc.names, y.2 ≠ .free

theorem bindL_out {kindOf : Str → Option NameKind} {x : Str} : ∀ {binds : List (Str × Value)} {m : Str → Option Value}, (∀ v, (x, v) ∉ binds) → bindL kindOf binds m x = m x
  | [], _, _ => rfl
  | (n, v) :: r, m, h => by
    unfold bindL
    rw [bindL_out fun w hw => h w (List.mem_cons_of_mem _ hw)]
    split
    · have : x ≠ n := by rintro rfl; exact h v List.mem_cons_self
      simp [this]
    · rfl
theorem bindC_out {kindOf : Str → Option NameKind} {x : Str} : ∀ {binds : List (Str × Value)} {m : Str → Option Value}, (∀ v, (x, v) ∉ binds) → bindC kindOf binds m x = m x
  | [], _, _ => rfl
  | (n, v) :: r, m, h => by
    unfold bindC
    rw [bindC_out fun w hw => h w (List.mem_cons_of_mem _ hw)]
    split
    · rfl
    · have : x ≠ n := by rintro rfl; exact h v List.mem_cons_self
      simp [this]
theorem bindL_get {kindOf : Str → Option NameKind} {x : Str} {v : Value} : ∀ {P : List Str} {vs : List Value} {i : Nat} {m : Str → Option Value}, P.Nodup → P[i]? = some x → vs[i]? = some v → kindOf x = some .local →
    bindL kindOf (P.zip vs) m x = some v
  | [], _, _, _, _, h, _, _ => by simp at h
  | _ :: _, [], _, _, _, _, h, _ => by simp at h
  | p :: P, w :: vs, 0, m, nd, h1, h2, hk => by
    simp at h1 h2; subst h1; subst h2
    show bindL kindOf ((p, w) :: P.zip vs) m p = _
    unfold bindL
    rw [bindL_out fun v hv => (List.nodup_cons.mp nd).1 (List.of_mem_zip hv).1, if_pos hk]
    simp
  | p :: P, w :: vs, i + 1, m, nd, h1, h2, hk => by
    show bindL kindOf ((p, w) :: P.zip vs) m x = _
    unfold bindL
    exact bindL_get (i := i) (List.nodup_cons.mp nd).2 (by simpa using h1) (by simpa using h2) hk
theorem bindC_get {kindOf : Str → Option NameKind} {x : Str} {v : Value} : ∀ {P : List Str} {vs : List Value} {i : Nat} {m : Str → Option Value}, P.Nodup → P[i]? = some x → vs[i]? = some v → kindOf x ≠ some .local →
    bindC kindOf (P.zip vs) m x = some v
  | [], _, _, _, _, h, _, _ => by simp at h
  | _ :: _, [], _, _, _, _, h, _ => by simp at h
  | p :: P, w :: vs, 0, m, nd, h1, h2, hk => by
    simp at h1 h2; subst h1; subst h2
    show bindC kindOf ((p, w) :: P.zip vs) m p = _
    unfold bindC
    rw [bindC_out fun v hv => (List.nodup_cons.mp nd).1 (List.of_mem_zip hv).1, if_neg hk]
    simp
  | p :: P, w :: vs, i + 1, m, nd, h1, h2, hk => by
    show bindC kindOf ((p, w) :: P.zip vs) m x = _
    unfold bindC
    exact bindC_get (i := i) (List.nodup_cons.mp nd).2 (by simpa using h1) (by simpa using h2) hk

/-- the names' values at the entry -/
noncomputable def start (N : List Str) (vs : List V) : St := vs.map some ++ List.replicate (N.length - vs.length) none

/-- the context of a def's body, at its entry; an exception leaves the frame, then lies as CX says -/
noncomputable def cxOf (CX : CXT) (P : Program) (w : World) (K : PySem.W.Frag) (mg : Str → Option Value) (base : Heap) (N : List Str) (qual : Str) (scope : Scope) (f : Addr) (cd : Value) (A : Around) (outer : List Env) (s : Shared) (H : Hp) (E : XK) : Cx where
  prog := P
  w := w
  K := K
  mg := mg
  base := base
  A := A.deeper (envOfC qual scope s.heap.objs.size f cd)
  N := N
  s₀ := s
  H₀ := H
  env := envOfC qual scope s.heap.objs.size f cd
  outer := outer
  stack := envOfC qual scope s.heap.objs.size f cd :: outer
  ex := []
  calm := true
  fn := fun _ => true
  pn := []
  xe := fun e s' => wpAny (model P w) (A.deeper (envOfC qual scope s.heap.objs.size f cd)) (leaving (envOfC qual scope s.heap.objs.size f cd) e) (fun _ s'' => CX outer H s E e s'') (fun e' s'' => CX outer H s E e' s'') s'

theorem cell_has {sc : Scope} {n : Nat} {x : Str} (h : sc.names.lookup x = some .cell) : ∃ c, (cellsFrom n sc.names []).lookup x = some c := by
  have q := PySem.W.cellsFrom_some sc.names n [] (.inl h)
  exact Option.isSome_iff_exists.mp q

theorem inv_start {CX : CXT} {P : Program} {w : World} {K : PySem.W.Frag} {mg : Str → Option Value} {base : Heap} {N ps : List Str} {qual : Str} {scope : Scope} {f : Addr} {cd : Value} {A : Around} {outer : List Env} {s s1 : Shared} {H : Hp} {E : XK} {us : List Value} {vs : List V}
    (S : FnScope N ps scope) (hd : A.handled = none) (e0 : Env0 P w K mg base A outer s H) (hl : vs.length = ps.length) (r : Vals vs us)
    (x : InCallC s s.heap.objs.size (bindL (envOfC qual scope s.heap.objs.size f cd).kindOf (ps.zip us) fun _ => none) (cellsFrom (s.heap.objs.size + 1) scope.names []) (bindC (envOfC qual scope s.heap.objs.size f cd).kindOf (ps.zip us) fun _ => none) s1) :
    Inv (cxOf CX P w K mg base N qual scope f cd A outer s H E) [] (start N vs) H s1 := by
  have hpl : ps.length ≤ N.length := by have := congrArg List.length S.pre; rw [List.length_take] at this; omega
  obtain ⟨h1, tk, rfl, hk⟩ := x.done
  have noA : ∀ b : Addr, b ∉ (cxOf CX P w K mg base N qual scope f cd A outer s H E).ex := fun b z => absurd (show b ∈ ([] : List Addr) from z) (by simp)
  refine ⟨⟨e0.mod, S.kind, rfl, rfl, Nat.le_refl _, fun y z c h1 h2 => ?_, fun y hy => ?_, fun y c _ h => ?_, fun _ => hd, Around.frames_deeper e0.frames, .inr ⟨rfl, rfl⟩, fun b z => absurd z (noA b), e0.bs, e0.bsz, fun b _ _ => noA b, fun b z => absurd z (noA b), e0.funs, e0.frf⟩,
    rfl, e0.bare, Un.kept hk, ⟨_, x.toInCall.ns, fun i y v h1 h2 h3 => ?_⟩, fun y c h => ⟨_, x.cell y c h⟩, e0.hok.fresh (Nat.le_refl _), fun y c h => ?_, fun p hp => absurd (show p ∈ ([] : List (Addr × Obj)) from hp) (by simp), e0.hok.kept hk, ?_⟩
  · exact name_of_addr x.apart (PySem.mem_of_lookup h1) (PySem.mem_of_lookup h2)
  · have hy : scope.names.lookup y = some .cell ∨ scope.names.lookup y = some .free := hy
    rcases hy with hy | hy
    · exact cell_has hy
    · exact absurd rfl (S.nofree _ (PySem.mem_of_lookup hy))
  · exact Nat.le_of_lt (x.above y c (PySem.mem_of_lookup h))
  · have hi : i < vs.length := by
      unfold start at h2
      by_cases hi : i < vs.length
      · exact hi
      · rw [List.getElem?_append_right (by simpa using hi)] at h2
        rw [List.getElem?_replicate] at h2
        split at h2 <;> cases h2
    have ha : vs[i]? = some v := by
      unfold start at h2
      rw [List.getElem?_append_left (by simpa using hi), List.getElem?_map] at h2
      cases e : vs[i]? with
      | none => rw [e] at h2; cases h2
      | some a => rw [e] at h2; cases h2; rfl
    obtain ⟨u, hu, rv⟩ := r.get ha
    have hp : ps[i]? = some y := by
      rw [← S.pre, List.getElem?_take_of_lt (by omega)]; exact h1
    have ndP : ps.Nodup := by rw [← S.pre]; exact S.nd.sublist (List.take_sublist _ _)
    refine ⟨u, rv, ?_⟩
    rcases S.par y (List.mem_of_getElem? hp) with k | k
    · exact .inl ⟨k, bindL_get ndP hp hu k⟩
    · obtain ⟨c, e⟩ := cell_has (n := s.heap.objs.size + 1) k
      refine .inr ⟨.inl k, c, e, ?_⟩
      have q := x.cell y c e
      rw [bindC_get ndP hp hu (by show scope.names.lookup y ≠ _; rw [k]; decide)] at q
      exact q
  · exact e0.hok.fresh (Nat.le_of_lt (x.above y c (PySem.mem_of_lookup h)))
  · unfold start
    show _ = N.length
    rw [List.length_append, List.length_map, List.length_replicate]
    omega

/-- THE RULE: a def (or a method) of the text, by its body. The body's reading t is chosen for each entry; it is run at the parameters' values -/
theorem fn_of {CX : CXT} {P : Program} {w : World} {K : PySem.W.Frag} {mg : Str → Option Value} {base : Heap} {k : Nat} {f : Addr} {name qual : Str} {params : Arguments} {body : List Stmt} {scope : Scope} {dV kV doc pm cdv ct oc : Value} {an od : Option Addr}
    {osl : Array (Option Value)} {N ps : List Str} {sp : Sp} (lk : K.lookup f = some ⟨oc, od, .func (PySem.W.fnOf name qual params body scope dV kV doc pm an cdv ct), osl⟩) (hcd : PySem.W.codeIn K cdv qual = true) (S : FnScope N ps scope)
    (len : ∀ vs H Q E, sp vs H Q E → vs.length = ps.length)
    (hbody : ∀ (A : Around) (outer : List Env) (s : Shared) (H : Hp) (vs : List V) (Q : VK) (E : XK), Room k (A.deeper (envOfC qual scope s.heap.objs.size f cdv)) → sp vs H Q E →
      ∃ t, PSs (cxOf CX P w K mg base N qual scope f cdv A outer s H E) body t ∧ t { nx := fun _ H' => Q .non H', rt := Q } (start N vs) H) :
    FnOk P w K mg base CX (k + 1) f (PySem.W.fnOf name qual params body scope dV kV doc pm an cdv ct) ps sp := by
  refine ⟨len, fun A outer s H args us vs Q E hr e0 hb r hsp => ?_⟩
  have hl := len _ _ _ _ hsp
  have KX : K.In s.heap := e0.mod.kin.keeps fun b o e => (e0.bs b o e).1
  have lim : s.heap.NoLimit := e0.mod.nolimit.keeps fun b o e => (e0.bs b o e).1
  have hkind : ∀ y ∈ ps.zip us, scope.names.lookup y.1 = some .local ∨ (scope.names.lookup y.1 = some .cell ∧ ((cellsFrom (s.heap.objs.size + 1) scope.names []).lookup y.1).isSome = true) := fun ⟨n, v⟩ hy => by
    rcases S.par n (List.of_mem_zip hy).1 with q | q
    · exact .inl q
    · exact .inr ⟨q, PySem.W.cellsFrom_some _ _ _ (.inl q)⟩
  refine codeAny_call_function hr.depth (KX _ _ lk) rfl S.co S.gen rfl (PySem.W.codeRec_of KX hcd) (hb _ _ _ _ ?_)
  refine wpAny_newFunctionEnv_cells S.kind hkind fun env he s1 x => ?_
  subst he
  refine ⟨lim.keeps x.toInCall.keep, codeAny_func ?_⟩
  obtain ⟨t, ht, hq⟩ := hbody A outer s H vs Q E (hr.deeper _) hsp
  have I : Inv (cxOf CX P w K mg base N qual scope f cdv A outer s H E) [] (start N vs) H s1 := inv_start S hr.hd e0 hl r x
  refine wpAny_mono (ht [] s1 (start N vs) H _ I hq) (fun fl s' hs => ?_) fun e s' hs => hs
  have fin : ∀ {σ' : St} {H' : Hp} {v : V} {u : Value}, Inv (cxOf CX P w K mg base N qual scope f cdv A outer s H E) [] σ' H' s' → RelV v u → Q v H' → CE outer P w H s Q u s' :=
    fun {σ' H' v u} J rv q => ⟨v, H', J.os, J.bare, J.base, J.hok, rv, q⟩
  cases fl with
  | ret u =>
    obtain ⟨v, σ', H', J, rv, q⟩ := hs
    exact fin J rv q
  | next =>
    obtain ⟨σ', H', J, q⟩ := hs
    exact fin (v := V.non) (u := Value.none) J rfl q
  | brk =>
    obtain ⟨_, _, _, q⟩ := hs
    exact False.elim q
  | cont =>
    obtain ⟨_, _, _, q⟩ := hs
    exact False.elim q
end L2

namespace L2
open PySem PySem.Spec PyProof.Rows
section
variable {X : Cx} {x : Str} {p pos : Pos} {e : Expr} {es : List Expr} {t : TA} {id T : String} {r : List V → Hp → VK → Prop}

noncomputable def tCB (r : List V → Hp → VK → Prop) (t : TA) : TE := fun σ H Q => t σ H fun vs H1 => r vs H1 Q
/-- f(e, ..), f a built-in function -/
theorem pe_callB (hc : CallR X (.builtin id) r) (hg : Gl X x) (hm : X.mg x = none) (hv : bootBuiltins x = some (.builtin id)) (ha : PA X (e :: es) t) (hn : x ≠ "__name__" := by decide) (hdb : (x == ("__debug__" : Str)) = false := by decide)
    (he : starEach (e :: es) X.env = (false, eval e X.env) :: starEach es X.env := by rfl) (hpl : (backTo pos (starEach es X.env)).any (·.1) = false := by rfl) : PE X (.Call (.Name x p) (e :: es) [] pos) (tCB r t) := by
  intro pins s σ H Q I h
  refine wpAny_Call_Name_kw (ld_blt I hg hm hv ?_ hn hdb)
  exact PyProof.Rows.callWith_builtin1 (thn (ha pos pins s σ H _ I h) fun us s1 ⟨vs, H1, I1, r1, q1⟩ => hc pins s1 σ H1 vs us Q I1 r1 q1) he hpl
/-- T(e, ..), T a built-in type -/
theorem pe_callTy (hc : CallR X (.type T) r) (hg : Gl X x) (hm : X.mg x = none) (hv : bootBuiltins x = some (.type T)) (ha : PA X (e :: es) t) (hn : x ≠ "__name__" := by decide) (hdb : (x == ("__debug__" : Str)) = false := by decide)
    (he : starEach (e :: es) X.env = (false, eval e X.env) :: starEach es X.env := by rfl) (hpl : (backTo pos (starEach es X.env)).any (·.1) = false := by rfl) : PE X (.Call (.Name x p) (e :: es) [] pos) (tCB r t) := by
  intro pins s σ H Q I h
  refine wpAny_Call_Name_kw (ld_blt I hg hm hv ?_ hn hdb)
  exact PyProof.Rows.callWith_type1 (thn (ha pos pins s σ H _ I h) fun us s1 ⟨vs, H1, I1, r1, q1⟩ => hc pins s1 σ H1 vs us Q I1 r1 q1) he hpl
end
end L2

namespace HT
open PySem PyProof.Rows

/-- t < u of tuples of ints -/
noncomputable def lexLt : List Int → List Int → Bool
  | [], [] => false
  | [], _ :: _ => true
  | _ :: _, [] => false
  | x :: xs, y :: ys => if x = y then lexLt xs ys else decide (x < y)
theorem lexLt_cons (x y : Int) (xs ys : List Int) : lexLt (x :: xs) (y :: ys) = if x = y then lexLt xs ys else decide (x < y) := rfl
theorem lexLt_nil_nil : lexLt [] [] = false := rfl
theorem lexLt_nil_cons (y : Int) (ys : List Int) : lexLt [] (y :: ys) = true := rfl
theorem lexLt_cons_nil (x : Int) (xs : List Int) : lexLt (x :: xs) [] = false := rfl

theorem eqAt_int (A : Around) (s : Shared) (a : Int) (t : Tok) (c : Int) (u : Tok) : ∃ e, SeqAt.EqAt A s (.int a t) (.int c u) e ∧ (e = true ↔ a = c) :=
  ⟨(a == c), SeqAt.EqAt.int_int a t c u, by simp⟩
theorem rcLt_int (A : Around) (s : Shared) (a : Int) (t : Tok) (c : Int) (u : Tok) (prog : Program) (w : World) (E : Value → Shared → Prop) (Q : Value → Shared → Prop) (h : Q (.bool (decide (a < c))) s) :
    wpAny (model prog w) A (richCompare .Lt (.int a t) (.int c u)) Q E s :=
  (PyProof.Rows.lt_int h : wpAny (model prog w) A (compareOp .Lt (.int a t) (.int c u)) Q E s)

section
open PySem.SeqAt
open PySem.AutoSeq1 (wpAny_loadPart')
open PySem.MeetsSeq PySem.MeetsSeq2 PySem.MeetsSeq3

theorem tuple_lt_ints (l b : Addr) (items items2 : Array Value) (n n2 : Nat) (dd dd2 : Option Addr) (sl sl2 : Array (Option Value)) (ns ms : List Int) (hi : IntsAre items.toList ns) (hj : IntsAre items2.toList ms) :
    Meets (Builtin.«tuple.__lt__» ⟨[.ref l, .ref b], []⟩)
      (fun _ R s => s.heap.get? l = some { cls := .type "tuple", dict := dd, data := .seq items n, slots := sl } ∧ s.heap.get? b = some { cls := .type "tuple", dict := dd2, data := .seq items2 n2, slots := sl2 } ∧
        R (.ok (.ret (.bool (lexLt ns ms)))) s) :=
  .of_wp fun prog w A R s h => by
    obtain ⟨hp, g, d, tk, os⟩ := s; obtain ⟨hl, hb, h⟩ := h
    have f2 := AutoSeq1.sub_tuple_tuple
    have z1 : items.size = ns.length := by rw [← hi.length]; simp
    have z2 : items2.size = ms.length := by rw [← hj.length]; simp
    wp_walk using wpAny_loadPart' hl, wpAny_loadPart' hb, wpAny_forIn_list _ (fun rest b s' => b.1 = none ∧ s' = ⟨hp, g, d, tk, os⟩ ∧ ∃ (vs ws : List Value) (ns' ms' : List Int), rest = vs.zip ws ∧
      IntsAre vs ns' ∧ IntsAre ws ms' ∧ ns'.length + items2.size = ms'.length + items.size ∧ R (.ok (.ret (.bool (lexLt ns' ms')))) ⟨hp, g, d, tk, os⟩) _
    case turn =>
      rintro ⟨y, x⟩ rest b s' ⟨hb', rfl, vs, ws, ns', ms', hz, hvi, hwi, hlen, hR⟩
      cases hvi with
      | nil => rw [List.zip_nil_left] at hz; cases hz
      | cons a t hvi' =>
        cases hwi with
        | nil => rw [List.zip_nil_right] at hz; cases hz
        | cons c u hwi' =>
          rw [List.zip_cons_cons] at hz
          injection hz with hyx hrest
          injection hyx with hy hx
          subst hy hx
          rw [lexLt_cons] at hR
          simp only [List.length_cons] at hlen
          obtain ⟨e, he, hiff⟩ := eqAt_int A.in1 ⟨hp, g, d, tk, os⟩ a t c u
          refine wpAny_bind (he prog w _ _ ?_)
          cases e with
          | true =>
            rw [if_pos (hiff.mp rfl)] at hR
            wp_walk
            exact ⟨rfl, rfl, _, _, _, _, hrest, hvi', hwi', by omega, hR⟩
          | false =>
            rw [if_neg (fun q => absurd (hiff.mpr q) Bool.false_ne_true)] at hR
            have hri := rcLt_int A.in1 ⟨hp, g, d, tk, os⟩ a t c u prog w
            wp_walk using hri
            exact ⟨_, rfl, by simpa using hR⟩
    case fin =>
      rintro ⟨b1, b2⟩ s' ⟨hb', rfl, vs, ws, ns', ms', hz, hvi, hwi, hlen, hR⟩
      simp only at hb'
      subst hb'
      have hv : lexLt ns' ms' = decide (items.size < items2.size) := by
        cases hvi with
        | nil =>
          cases hwi with
          | nil =>
            simp only [List.length_nil] at hlen
            rw [lexLt_nil_nil]
            exact (decide_eq_false (by omega)).symm
          | cons c u hw =>
            simp only [List.length_nil, List.length_cons] at hlen
            rw [lexLt_nil_cons]
            exact (decide_eq_true (by omega)).symm
        | cons a t hv =>
          cases hwi with
          | nil =>
            simp only [List.length_nil, List.length_cons] at hlen
            rw [lexLt_cons_nil]
            exact (decide_eq_false (by omega)).symm
          | cons c u hw =>
            rw [List.zip_cons_cons] at hz
            cases hz
      rw [hv] at hR
      wp_walk
      exact ⟨_, rfl, by simpa [Builtin.Tuple.tupleCompareSizes] using hR⟩
    case h =>
      exact ⟨rfl, rfl, items.toList, items2.toList, ns, ms, rfl, hi, hj, by omega, h⟩
end

section
variable {prog : Program} {w : World} {A : Around} {E : Value → Shared → Prop} {s : Shared}

theorem lt_tupInts {l b : Addr} {items items2 : Array Value} {ns ms : List Int} {Q : Value → Shared → Prop} (hl : IsTup s.heap l items) (hb : IsTup s.heap b items2) (hi : IntsAre items.toList ns) (hj : IntsAre items2.toList ms)
    (hu : A.units < cLine) (h : Q (.bool (lexLt ns ms)) s) : wpAny (model prog w) A (compareOp .Lt (.ref l) (.ref b)) Q E s := by
  obtain ⟨⟨cls, dd, data, sl⟩, ho, hc, n, hd⟩ := id hl
  obtain ⟨⟨cls2, dd2, data2, sl2⟩, ho2, hc2, n2, hd2⟩ := id hb
  simp only at hc hd hc2 hd2
  subst hc hd hc2 hd2
  exact richCompare_meets_room (op := .Lt) ⟨_, ho, rfl⟩ ⟨_, ho2, rfl⟩ PySem.F.slot_tuple_lt PySem.F.entry_tuple_lt (PySem.F.args_tuple_lt_2 _ _) (tuple_lt_ints l b items items2 n n2 dd dd2 sl sl2 ns ms hi hj)
    ⟨ho, ho2, show Value.bool (lexLt ns ms) ≠ Value.notImplemented ∧ Q (.bool (lexLt ns ms)) s from ⟨(fun x => nomatch x), h⟩⟩ hu

/-- t + u, t not empty -/
theorem cat_tup {t b : Addr} {vs ws : List Value} {Q : Value → Shared → Prop} (ht : IsTup s.heap t vs.toArray) (hb : IsTup s.heap b ws.toArray) (hv : vs ≠ [])
    (h1 : ws = [] → Q (.ref t) s) (h2 : ws ≠ [] → Q (.ref s.heap.objs.size) { s with heap := s.heap.push { cls := .type "tuple", data := .seq (vs ++ ws).toArray } })
    (hsz : vs.length + ws.length ≤ sizeLine) : wpAny (model prog w) A (binaryOp .Add (.ref t) (.ref b)) Q E s := by
  obtain ⟨⟨cls, dd, data, sl⟩, ho, hc, n, hd⟩ := id ht
  obtain ⟨⟨cls2, dd2, data2, sl2⟩, ho2, hc2, n2, hd2⟩ := id hb
  simp only at hc hd hc2 hd2
  subst hc hd hc2 hd2
  have e : vs.toArray ++ ws.toArray = (vs ++ ws).toArray := by simp
  by_cases hw : ws = []
  · exact concat_meets ⟨_, ho, rfl⟩ ⟨_, ho2, rfl⟩ noFill_tuple_add seq_tuple_add PySem.F.slot_tuple_add PySem.F.entry_tuple_add (PySem.F.args_tuple_add_2 _ _)
      (tuple_addW1 t b vs.toArray ws.toArray n n2 dd dd2 sl sl2 (by simpa using hv) (by simp [hw])) ⟨ho, ho2, h1 hw⟩
  · refine concat_meets ⟨_, ho, rfl⟩ ⟨_, ho2, rfl⟩ noFill_tuple_add seq_tuple_add PySem.F.slot_tuple_add PySem.F.entry_tuple_add (PySem.F.args_tuple_add_2 _ _)
      (tuple_addW2 t b vs.toArray ws.toArray n n2 dd dd2 sl sl2 (by simpa using hv) (by simpa using hw) (by rw [List.size_toArray, List.size_toArray]; exact hsz)) ⟨ho, ho2, ?_⟩
    rw [e]
    exact h2 hw

/-! ### t[a:b], not the whole -/
/-- a slice's bound as a place among n (d where it is left out) -/
noncomputable def sIx (n d : Nat) : Option Int → Nat
  | none => d
  | some v => if v < 0 then (v + (n : Int)).toNat else min v.toNat n
theorem slicePart_ {v : Value} {o : Option Int} {Q : Option Int → Shared → Prop} (p : IsPart v o) (h : Q o s) : wpAny (model prog w) A (Builtin.Slice.slicePartIndex v) Q E s := by
  cases p with
  | none => exact slicePart_none h
  | int i t => exact slicePart_int h

end
end HT

namespace L2
open PySem PySem.Spec PyProof.Rows

/-! ### the parts of a slice -/
noncomputable abbrev TO := St → Hp → (Option Int → Hp → Prop) → Prop
/-- a slice's part (left out, or an int) -/
noncomputable def PO (X : Cx) (e : Option Expr) (t : TO) : Prop :=
  ∀ (pins : List (Addr × Obj)) (s : Shared) (σ : St) (H : Hp) (Q : Option Int → Hp → Prop), Inv X pins σ H s → t σ H Q →
    wpAny (model X.prog X.w) X.A (evalPart e X.env) (fun u s' => ∃ o H', Inv X pins σ H' s' ∧ IsPart u o ∧ Q o H') X.xe s
noncomputable def tNoPart : TO := fun _ H Q => Q none H
noncomputable def tPart (t : TE) : TO := fun σ H Q => t σ H fun x H1 => ∃ i, x = .int i ∧ Q (some i) H1

theorem intsAre_of {ns : List Int} : ∀ {us : List Value}, Vals (ns.map V.int) us → IntsAre us ns := by
  induction ns with
  | nil => intro us r; rw [List.map_nil] at r; cases r; exact .nil
  | cons n ns ih =>
    intro us r
    rw [List.map_cons] at r
    cases r with
    | cons r1 r2 =>
      obtain ⟨t, e⟩ := r1
      subst e
      exact .cons n t (ih r2)

section
variable {X : Cx} {e : Expr} {te : TE} {lo hi : Option Expr} {tl th : TO} {pos p2 : Pos}

theorem po_some (h : PE X e te) : PO X (some e) (tPart te) := by
  intro pins s σ H Q I hw
  rw [evalPart_some]
  refine thn (h pins s σ H _ I hw) fun u s1 ⟨x, H1, I1, r1, q1⟩ => ?_
  obtain ⟨i, rfl, q⟩ := q1
  obtain ⟨t, rfl⟩ := r1
  exact ⟨some i, H1, I1, .int i t, q⟩

/-- what a slice of a value is, by values: the slice object stands at sl -/
noncomputable def SlR (X : Cx) (r : V → Option Int → Option Int → Hp → VK → Prop) : Prop :=
  ∀ (pins : List (Addr × Obj)) (s : Shared) (σ : St) (H : Hp) (x : V) (v vl vu : Value) (lo hi : Option Int) (sl : Addr) (Q : VK), Inv X pins σ H s → RelV x v → s.heap.IsSliceOf sl vl vu .none → IsPart vl lo → IsPart vu hi → r x lo hi H Q →
    ∃ T id, typeLookup (.type T) "__getitem__" = pure (some (.builtin id)) ∧ s.TypeIs v T ∧ wpAny (model X.prog X.w) X.A (getItem v (.ref sl)) (EP X pins σ Q) X.xe s
theorem SlR.or {r r' : V → Option Int → Option Int → Hp → VK → Prop} (h : SlR X r) (h' : SlR X r') : SlR X (fun x lo hi H Q => r x lo hi H Q ∨ r' x lo hi H Q) := by
  intro pins s σ H x v vl vu lo hi sl Q I rx hs pl pu q
  rcases q with q | q
  · exact h pins s σ H x v vl vu lo hi sl Q I rx hs pl pu q
  · exact h' pins s σ H x v vl vu lo hi sl Q I rx hs pl pu q
noncomputable def tSl (r : V → Option Int → Option Int → Hp → VK → Prop) (te : TE) (tl th : TO) : TE := fun σ H Q => te σ H fun x H1 => tl σ H1 fun l H2 => th σ H2 fun u H3 => r x l u H3 Q

/-- the items of xs[lo:hi] -/
noncomputable def cutV (xs : List V) (lo hi : Option Int) : List V := (xs.drop (HT.sIx xs.length 0 lo)).take (HT.sIx xs.length xs.length hi - HT.sIx xs.length 0 lo)
/-- t[lo:hi], not the whole of it (the whole would be t itself) -/
noncomputable def rSlT (K : PySem.W.Frag) : V → Option Int → Option Int → Hp → VK → Prop := fun x lo hi H Q => ∃ a xs, x = .ref a ∧ SqT K H a xs ∧
  ¬ (HT.sIx xs.length 0 lo = 0 ∧ HT.sIx xs.length xs.length hi = xs.length) ∧ ∀ p, H p = none → Q (.ref p) (upd H p (.tup (cutV xs lo hi)))

/-! ### t < u, t + u -/
noncomputable def rLtT (K : PySem.W.Frag) : R2 := fun x y H Q => ∃ a b ns ms, x = .ref a ∧ y = .ref b ∧ SqT K H a (ns.map V.int) ∧ SqT K H b (ms.map V.int) ∧ Q (.bl (HT.lexLt ns ms)) H
theorem op_ltT (hu : X.A.units < cLine) : OpR X (compareOp .Lt) (rLtT X.K) := by
  intro pins s σ H x y v u Q I rx ry h
  obtain ⟨a, b, ns, ms, rfl, rfl, ha, hb, q⟩ := h
  cases rx
  cases ry
  obtain ⟨its, r1, p1, _⟩ := I.tuple ha
  obtain ⟨its2, r2, p2, _⟩ := I.tuple hb
  have i1 : IntsAre its.toArray.toList ns := intsAre_of r1
  have i2 : IntsAre its2.toArray.toList ms := intsAre_of r2
  exact HT.lt_tupInts p1 p2 i1 i2 hu ⟨.bl (HT.lexLt ns ms), H, I, rfl, q⟩
/-- t + u, t not empty: u empty gives t itself -/
noncomputable def rCatT (K : PySem.W.Frag) : R2 := fun x y H Q => ∃ a b xs ys, x = .ref a ∧ y = .ref b ∧ SqT K H a xs ∧ SqT K H b ys ∧ xs ≠ [] ∧ xs.length + ys.length ≤ sizeLine ∧
  (ys = [] → Q (.ref a) H) ∧ (ys ≠ [] → ∀ p, H p = none → Q (.ref p) (upd H p (.tup (xs ++ ys))))
theorem Vals.nil_iff {xs : List V} {us : List Value} (r : Vals xs us) : us = [] ↔ xs = [] := by
  cases r with
  | nil => simp
  | cons _ _ => simp
theorem op_catT : OpR X (binaryOp .Add) (rCatT X.K) := by
  intro pins s σ H x y v u Q I rx ry h
  obtain ⟨a, b, xs, ys, rfl, rfl, ha, hb, hx, hz, q1, q2⟩ := h
  cases rx
  cases ry
  obtain ⟨its, r1, p1, _⟩ := I.tuple ha
  obtain ⟨its2, r2, p2, _⟩ := I.tuple hb
  refine HT.cat_tup p1 p2 (fun z => hx (r1.nil_iff.mp z)) (fun z => ⟨.ref a, H, I, rfl, q1 (r2.nil_iff.mp z)⟩) (fun z => ?_) (by rw [← r1.length, ← r2.length]; exact hz)
  refine ⟨.ref s.heap.objs.size, _, I.laid (t' := s.toks) (o := .tup (xs ++ ys)) (fun b ob q => Heap.get?_push_of_some _ q) (Nat.le_refl _) ?_, rfl, q2 (fun w => z (r2.nil_iff.mpr w)) _ (I.hok.fresh (Nat.le_refl _))⟩
  exact ⟨by rw [List.length_append]; exact hz, _, r1.append r2, IsTup.new _ _⟩
end
end L2

namespace L2
open PySem PySem.Spec PyProof.Rows

/-! ### places -/
/-- the place that an index of any sign means -/
noncomputable def ixN (n : Nat) (i : Int) : Option Nat := if 0 ≤ i then (if i < n then some i.toNat else none) else if -(n : Int) ≤ i then some (i + n).toNat else none
noncomputable def atI {α : Type} (xs : List α) (i : Int) : Option α := (ixN xs.length i).bind fun j => xs[j]?
theorem ixN_seq {n : Nat} {i : Int} {j : Nat} (h : ixN n i = some j) : seqIndex? i n = some j ∧ j < n ∧ -(n : Int) ≤ i ∧ i < n := by
  unfold ixN at h
  by_cases h0 : 0 ≤ i
  · rw [if_pos h0] at h
    by_cases h1 : i < n
    · rw [if_pos h1] at h
      have e : i.toNat = j := Option.some.inj h
      exact ⟨by rw [seqIndex_of h0 h1, e], by omega, by omega, h1⟩
    · rw [if_neg h1] at h; cases h
  · rw [if_neg h0] at h
    by_cases h1 : -(n : Int) ≤ i
    · rw [if_pos h1] at h
      have e : (i + n).toNat = j := Option.some.inj h
      exact ⟨by rw [seqIndex_neg (by omega) h1, e], by omega, h1, by omega⟩
    · rw [if_neg h1] at h; cases h
theorem atI_get {α : Type} {xs : List α} {i : Int} {v : α} (h : atI xs i = some v) : ∃ j, seqIndex? i xs.length = some j ∧ xs[j]? = some v ∧ j < xs.length ∧ -(xs.length : Int) ≤ i ∧ i < xs.length := by
  unfold atI at h
  cases e : ixN xs.length i with
  | none => rw [e] at h; cases h
  | some j =>
    rw [e] at h
    obtain ⟨h1, h2, h3, h4⟩ := ixN_seq e
    exact ⟨j, h1, h, h2, h3, h4⟩
theorem atI_nat {α : Type} {xs : List α} {j : Nat} {v : α} (h : xs[j]? = some v) : atI xs (j : Int) = some v := by
  have hj : j < xs.length := (List.getElem?_eq_some_iff.mp h).1
  have e : ixN xs.length (j : Int) = some j := by
    unfold ixN
    rw [if_pos (by omega), if_pos (by omega)]; simp
  unfold atI; rw [e]; exact h

/-! ### what may be subscripted -/
/-- what stands as an index of a plain subscript -/
noncomputable def PlainIx (b : Expr) : Prop := ∀ o i, subscripted b false o i = operate [o, i] (getItem o i)
/-- a subscript by values -/
noncomputable def IxR (X : Cx) (r : R2) : Prop :=
  ∀ (value slice : Expr) (pins : List (Addr × Obj)) (s : Shared) (σ : St) (H : Hp) (x y : V) (v u : Value) (Q : VK), Inv X pins σ H s → RelV x v → RelV y u → r x y H Q →
    subscripted slice false v u = operate [v, u] (getItem v u) → wpAny (model X.prog X.w) X.A (subscriptTail value slice v u) (EP X pins σ Q) X.xe s
/-- a call of a builtin's method by values: the receiver, the arguments -/
noncomputable def MtR (X : Cx) (id : String) (r : V → List V → Hp → VK → Prop) : Prop :=
  ∀ (pins : List (Addr × Obj)) (s : Shared) (σ : St) (H : Hp) (x : V) (xs : List V) (v : Value) (us : List Value) (Q : VK), Inv X pins σ H s → RelV x v → Vals xs us → r x xs H Q →
    wpAny (model X.prog X.w) X.A (call (.builtin id) (v :: us)) (EP X pins σ Q) X.xe s
section
variable {X : Cx} {a b : Expr} {ta tb : TE} {pos : Pos}
theorem IxR.or {r r' : R2} (h : IxR X r) (h' : IxR X r') : IxR X (fun x y H Q => r x y H Q ∨ r' x y H Q) := by
  intro value slice pins s σ H x y v u Q I rx ry q hs
  rcases q with q | q
  · exact h value slice pins s σ H x y v u Q I rx ry q hs
  · exact h' value slice pins s σ H x y v u Q I rx ry q hs
theorem MtR.or {id : String} {r r' : V → List V → Hp → VK → Prop} (h : MtR X id r) (h' : MtR X id r') : MtR X id (fun x xs H Q => r x xs H Q ∨ r' x xs H Q) := by
  intro pins s σ H x xs v us Q I rx rs q
  rcases q with q | q
  · exact h pins s σ H x xs v us Q I rx rs q
  · exact h' pins s σ H x xs v us Q I rx rs q
/-- a[b] -/
theorem pe_ix {r : R2} (hr : IxR X r) (ha : PE X a ta) (hb : PE X b tb) (hs : PlainIx b) : PE X (.Subscript a b pos) (tOp r ta tb) := by
  intro pins s σ H Q I h
  exact Subscript_ (binT ha hb I h fun v u s2 x y H2 I2 rx ry q => hr a b pins s2 σ H2 x y v u Q I2 rx ry q (hs _ _))

noncomputable def rIxL (K : PySem.W.Frag) : R2 := fun x y H Q => ∃ p xs i v, x = .ref p ∧ y = .int i ∧ SqL K H p xs ∧ atI xs i = some v ∧ Q v H
noncomputable def rIxT (K : PySem.W.Frag) : R2 := fun x y H Q => ∃ p xs i v, x = .ref p ∧ y = .int i ∧ SqT K H p xs ∧ atI xs i = some v ∧ Q v H
noncomputable def rIxS : R2 := fun x y H Q => ∃ z i c, x = .str z ∧ y = .int i ∧ z.length ≤ sizeLine ∧ atI z.cps.toList i = some c ∧ Q (.str ⟨#[c]⟩) H
theorem ix_list : IxR X (rIxL X.K) := by
  intro value slice pins s σ H x y v u Q I rx ry h hs
  obtain ⟨p, xs, i, z, rfl, rfl, hq, he, q⟩ := h
  cases rx
  obtain ⟨t, rfl⟩ := ry
  obtain ⟨its, r, pl, hz⟩ := I.list hq
  obtain ⟨j, h1, h2, h3, h4, h5⟩ := atI_get he
  obtain ⟨w, ew, rw'⟩ := r.get h2
  have hl := r.length
  have hn := line63
  have fin : EP X pins σ Q w s := ⟨z, H, I, rw', q⟩
  by_cases h0 : 0 ≤ i
  · have hj : i.toNat = j := by
      rw [seqIndex_of h0 h5] at h1
      exact Option.some.inj h1
    exact item_listR pl.isList h0 (by omega) (by rw [hj]; simpa using ew) fin hs
  · have hj : (i + (its.toArray.size : Int)).toNat = j := by
      rw [seqIndex_neg (by omega) h4] at h1
      rw [List.size_toArray, ← hl]
      exact Option.some.inj h1
    exact subscriptTail_builtinR (x := w) pl.isList.typeIs slot_list_getitem.lookup
      (wpAny_getItem_list_neg (Q := fun r s' => r = w ∧ EP X pins σ Q r s') pl.isList (by omega) (by rw [List.size_toArray] <;> omega) (by omega) (by rw [hj]; simpa using ew) ⟨rfl, fin⟩) hs
theorem ix_tup : IxR X (rIxT X.K) := by
  intro value slice pins s σ H x y v u Q I rx ry h hs
  obtain ⟨p, xs, i, z, rfl, rfl, hq, he, q⟩ := h
  cases rx
  obtain ⟨t, rfl⟩ := ry
  obtain ⟨its, r, pl, hz⟩ := I.tuple hq
  obtain ⟨j, h1, h2, h3, h4, h5⟩ := atI_get he
  obtain ⟨w, ew, rw'⟩ := r.get h2
  have hl := r.length
  have hn := line63
  have fin : EP X pins σ Q w s := ⟨z, H, I, rw', q⟩
  exact subscriptTail_builtinR (x := w) pl.typeIs slot_tuple_getitem.lookup
    (getItem_tuple (j := j) (Q := fun r s' => r = w ∧ EP X pins σ Q r s') pl (by omega) (by omega) (by rw [List.size_toArray, ← hl]; exact h1) (by simpa using ew) ⟨rfl, fin⟩) hs
theorem ix_str : IxR X rIxS := by
  intro value slice pins s σ H x y v u Q I rx ry h hs
  obtain ⟨z, i, c, rfl, rfl, hz, he, q⟩ := h
  obtain ⟨t, rfl⟩ := rx
  obtain ⟨t', rfl⟩ := ry
  obtain ⟨j, h1, h2, h3, h4, h5⟩ := atI_get he
  have hl : z.cps.toList.length = z.length := by simp [Str.length]
  rw [hl] at h1 h4 h5
  have hn := line63
  exact tail_any (typeIs_str s z t) slot_str_getitem.lookup (getItem_str (c := c) (by
    have e1 : decide (i < -(2 ^ 63 : Int)) = false := decide_eq_false (by omega)
    have e2 : decide (i ≥ 2 ^ 63) = false := decide_eq_false (by omega)
    rw [e1, e2, Bool.or_false]) (by rw [h1]; simpa using h2) ⟨.str ⟨#[c]⟩, H, I.tok _, ⟨_, rfl⟩, q⟩) hs
/-- list, tuple or str -/
noncomputable def rIx (K : PySem.W.Frag) : R2 := fun x y H Q => rIxL K x y H Q ∨ rIxT K x y H Q ∨ rIxS x y H Q
theorem ix_seq : IxR X (rIx X.K) := ix_list.or (ix_tup.or ix_str)

/-! ### xs[i] = v, any sign -/
/-- the list's object behind a store -/
theorem mapSeq_set (its : List Value) (n j : Nat) (u : Value) : Obj.mapSeq (·.setIfInBounds j u) { cls := .type "list", data := .seq its.toArray n } = { cls := .type "list", data := .seq (its.set j u).toArray n } := by
  simp [Obj.mapSeq]
theorem Inv.lst {pins : List (Addr × Obj)} {σ : St} {H : Hp} {s : Shared} {p : Addr} {xs : List V} (I : Inv X pins σ H s) (h : H p = some (.lst xs)) :
    ∃ (its : List Value) (n : Nat), Vals xs its ∧ s.heap.get? p = some { cls := .type "list", data := .seq its.toArray n } ∧ xs.length ≤ sizeLine := by
  obtain ⟨z, its, n, r, e⟩ := I.hok p _ h
  exact ⟨its, n, r, e, z⟩
/-- the list at p is written by an update of its object -/
theorem Inv.lstUpd {pins : List (Addr × Obj)} {σ : St} {H : Hp} {s : Shared} {p : Addr} {xs ys : List V} {its its' : List Value} {n n' : Nat} {f : Obj → Obj} (I : Inv X pins σ H s) (h : H p = some (.lst xs))
    (ho : s.heap.get? p = some { cls := .type "list", data := .seq its.toArray n }) (hf : f { cls := .type "list", data := .seq its.toArray n } = { cls := .type "list", data := .seq its'.toArray n' }) (r : Vals ys its') (hz : ys.length ≤ sizeLine) (t : Nat) :
    Inv X pins σ (upd H p (.lst ys)) { s with heap := s.heap.update p f, toks := t } := by
  have e : (s.heap.update p f).get? p = some { cls := .type "list", data := .seq its'.toArray n' } := by
    rw [Heap.get?_update_self f ho (by rw [hf] <;> rfl), hf]
  refine I.write (x := p) (e := p) (by rw [h]; trivial) (.inl rfl) (fun b u hb q => (Heap.get?_update_other _ _ (Ne.symm hb)).trans q) ⟨_, e⟩ ?_
  exact ⟨hz, its', n', r, e⟩
noncomputable def rSetL : V → V → V → Hp → (Hp → Prop) → Prop := fun o i v H Q => ∃ p xs k j, o = .ref p ∧ i = .int k ∧ H p = some (.lst xs) ∧ ixN xs.length k = some j ∧ Q (upd H p (.lst (xs.set j v)))
theorem set_list : PSet X rSetL := by
  intro pins s σ H o i v ov iv u Q I ro ri rv h
  obtain ⟨p, xs, k, j, rfl, rfl, hp, hj, q⟩ := h
  cases ro
  obtain ⟨t, rfl⟩ := ri
  obtain ⟨its, n, r, ho, hz⟩ := I.lst hp
  obtain ⟨h1, h2, h3, h4⟩ := ixN_seq hj
  have hl := r.length
  have hn := line63
  have I' : Inv X pins σ (upd H p (.lst (xs.set j v))) { s with heap := s.heap.update p (Obj.mapSeq (·.setIfInBounds j u)) } :=
    I.lstUpd hp ho (mapSeq_set its n j u) (r.set rv j) (by rw [List.length_set]; exact hz) s.toks
  by_cases h0 : 0 ≤ k
  · have hk : k.toNat = j := by
      rw [seqIndex_of h0 h4] at h1
      exact Option.some.inj h1
    exact PySem.W.ki_setAt ho h0 (by omega) (by rw [List.size_toArray, ← hl]; exact h4) (by rw [hk]; exact ⟨_, I', q⟩)
  · have hk : (k + (its.toArray.size : Int)).toNat = j := by
      rw [seqIndex_neg (by omega) h3] at h1
      rw [List.size_toArray, ← hl]
      exact Option.some.inj h1
    exact PySem.W.ki_setBack ho (by omega) (by rw [List.size_toArray, ← hl]; exact h3) (by omega) (by rw [hk]; exact ⟨_, I', q⟩)

/-! ### slices -/
/-- xs[lo:hi] of a list: a new list -/
noncomputable def rSlL (K : PySem.W.Frag) : V → Option Int → Option Int → Hp → VK → Prop := fun x lo hi H Q => ∃ a xs, x = .ref a ∧ SqL K H a xs ∧ ∀ p, H p = none → Q (.ref p) (upd H p (.lst (cutV xs lo hi)))

/-! ### in, not in: flat items -/
noncomputable def flatV : V → Bool
  | .non => true
  | .bl _ => true
  | .int _ => true
  | .str _ => true
  | _ => false
/-- == of flat values -/
noncomputable def eqV : V → V → Bool
  | .non, .non => true
  | .bl a, .bl b => a == b
  | .bl a, .int b => (if a then 1 else 0) == b
  | .int a, .bl b => a == (if b then 1 else 0)
  | .int a, .int b => a == b
  | .str a, .str b => a == b
  | _, _ => false
/-- the items' answers, read off the values (a value's own answer does not lean on its token) -/
noncomputable def eqU (x : V) (u : Value) : Bool := match u with
  | .none => eqV .non x
  | .bool b => eqV (.bl b) x
  | .int i _ => eqV (.int i) x
  | .str z _ => eqV (.str z) x
  | _ => false
noncomputable def inV (x : V) (xs : List V) : Bool := xs.any fun y => eqV y x
/-- x in a list or tuple of flat items -/
noncomputable def rIn (K : PySem.W.Frag) (neg : Bool) : R2 := fun x y H Q => ∃ p xs, y = .ref p ∧ (SqL K H p xs ∨ SqT K H p xs) ∧ flatV x = true ∧ xs.all flatV = true ∧ Q (.bl (if neg then !inV x xs else inV x xs)) H

/-! ### len, list(x), tuple(x) of any list or tuple that is read -/
theorem call_len_seq : CallR X (.builtin "len") (fun xs H Q => ∃ p ys, xs = [.ref p] ∧ (SqL X.K H p ys ∨ SqT X.K H p ys) ∧ Q (.int ys.length) H) := by
  intro pins s σ H xs us Q I r h
  obtain ⟨p, ys, rfl, hq, q⟩ := h
  obtain ⟨u, rfl, rx⟩ := vals1 r
  cases rx
  have hn := line63
  rcases hq with hq | hq
  · obtain ⟨its, r', pl, hz⟩ := I.list hq
    have hlen := r'.length
    exact Calls.call_len_list pl.isList (by simp only [List.size_toArray] <;> omega) ⟨.int ys.length, H, I.tok _, ⟨s.toks + 1, by rw [List.size_toArray, hlen]⟩, q⟩
  · obtain ⟨its, r', pl, hz⟩ := I.tuple hq
    have hlen := r'.length
    exact len_tuple pl (by simp only [List.size_toArray] <;> omega) ⟨.int ys.length, H, I.tok _, ⟨s.toks + 1, by rw [List.size_toArray, hlen]⟩, q⟩
theorem CallR.or {f : Value} {r r' : List V → Hp → VK → Prop} (h : CallR X f r) (h' : CallR X f r') : CallR X f (fun xs H Q => r xs H Q ∨ r' xs H Q) := by
  intro pins s σ H xs us Q I rs q
  rcases q with q | q
  · exact h pins s σ H xs us Q I rs q
  · exact h' pins s σ H xs us Q I rs q
theorem call_tuple_of : CallR X (.type "tuple") (fun xs H Q => ∃ p ys, xs = [.ref p] ∧ ((SqL X.K H p ys ∧ ∀ l, H l = none → Q (.ref l) (upd H l (.tup ys))) ∨ (SqT X.K H p ys ∧ Q (.ref p) H))) := by
  intro pins s σ H xs us Q I r h
  obtain ⟨p, ys, rfl, h⟩ := h
  obtain ⟨u, rfl, rx⟩ := vals1 r
  cases rx
  rcases h with ⟨hq, q⟩ | ⟨hq, q⟩
  · obtain ⟨its, r', pl, hz⟩ := I.list hq
    have hlen := r'.length
    refine call_tuple_list pl.isList (fun h' kp => ?_) (by simp only [List.size_toArray] <;> omega)
    have I1 : Inv X pins σ H { s with heap := h' } := I.kept (t' := s.toks) kp
    have I2 : Inv X pins σ (upd H h'.objs.size (.tup ys)) { s with heap := h'.push { cls := .type "tuple", data := .seq its.toArray } } :=
      I1.laid (t' := s.toks) (fun b o e => Heap.get?_push_of_some _ e) (Nat.le_refl _) (show ObjOk X.prog X.w _ _ _ (.tup ys) from ⟨hz, its, r', IsTup.new _ _⟩)
    exact ⟨.ref h'.objs.size, _, I2, rfl, q _ (I1.hok.fresh (Nat.le_refl _))⟩
  · obtain ⟨its, r', pl, hz⟩ := I.tuple hq
    exact call_tuple_same pl ⟨.ref p, H, I, rfl, q⟩

/-! ### the call of a builtin's method: o.m(..) -/
/-- the value is of that builtin type -/
noncomputable def tyV (K : PySem.W.Frag) (T : String) (x : V) (H : Hp) : Prop := match x with
  | .str _ => T = "str"
  | .int _ => T = "int"
  | .ref p => (T = "list" ∧ ∃ xs, SqL K H p xs) ∨ (T = "tuple" ∧ ∃ o, K.lookup p = some o ∧ o.cls = .type "tuple" ∧ o.dict = none) ∨
      (T = "dict" ∧ ((∃ kvs, H p = some (.dK kvs)) ∨ ∃ kvs, H p = some (.dT kvs))) ∨ (T = "set" ∧ ∃ S n, H p = some (.set S n))
  | _ => False
theorem tyV_is {pins : List (Addr × Obj)} {σ : St} {H : Hp} {s : Shared} {T : String} {x : V} {v : Value} (I : Inv X pins σ H s) (r : RelV x v) (ty : tyV X.K T x H) :
    s.TypeIs v T ∧ ∀ a, v = .ref a → ∃ ob, s.heap.get? a = some ob ∧ ob.dict = none := by
  cases x with
  | str z =>
    obtain ⟨t, rfl⟩ := r
    cases (show T = "str" from ty)
    exact ⟨typeIs_str s z t, fun _ e => nomatch e⟩
  | int i =>
    obtain ⟨t, rfl⟩ := r
    cases (show T = "int" from ty)
    exact ⟨typeIs_int s i t, fun _ e => nomatch e⟩
  | ref p =>
    cases r
    rcases ty with ⟨rfl, xs, hq⟩ | ⟨rfl, o, hk, hc, hd⟩ | ⟨rfl, hk⟩ | ⟨rfl, S, n, hk⟩
    · obtain ⟨its, _, pl, _⟩ := I.list hq
      refine ⟨pl.isList.typeIs, fun a e => ?_⟩
      cases e
      obtain ⟨o, n, e, c, hd, _⟩ := pl
      exact ⟨o, e, hd⟩
    · refine ⟨⟨o, I.kIn p o hk, hc⟩, fun a e => ?_⟩
      cases e
      exact ⟨o, I.kIn _ o hk, hd⟩
    · have z : ∃ o, s.heap.get? p = some o ∧ o.ExactDict := by
        rcases hk with ⟨kvs, hk⟩ | ⟨kvs, hk⟩
        · obtain ⟨_, _, _, _, o, _, _, e, ex, _⟩ := I.hok p _ hk
          exact ⟨o, e, ex⟩
        · obtain ⟨_, _, _, _, o, _, _, e, ex, _⟩ := I.hok p _ hk
          exact ⟨o, e, ex⟩
      obtain ⟨o, e, ex⟩ := z
      refine ⟨⟨o, e, ex.1⟩, fun a e2 => ?_⟩
      cases e2
      exact ⟨o, e, ex.2.1⟩
    · obtain ⟨o, _, _, _, e, ex, _⟩ := I.hok p _ hk
      refine ⟨⟨o, e, ex.1⟩, fun a e2 => ?_⟩
      cases e2
      exact ⟨o, e, ex.2.1⟩
  | _ => exact False.elim ty
noncomputable def tBM0 (K : PySem.W.Frag) (T : String) (r : V → List V → Hp → VK → Prop) (to : TE) : TE := fun σ H Q => to σ H fun x H1 => tyV K T x H1 ∧ r x [] H1 Q
noncomputable def tBM (K : PySem.W.Frag) (T : String) (r : V → List V → Hp → VK → Prop) (to : TE) (t : TA) : TE := fun σ H Q => to σ H fun x H1 => tyV K T x H1 ∧ t σ H1 fun xs H2 => r x xs H2 Q
variable {o e : Expr} {es : List Expr} {to : TE} {t : TA} {name : Str} {apos cpos : Pos} {T id : String} {r : V → List V → Hp → VK → Prop}
theorem pe_bm (pa : PlainAttrs T) (slot : Slot T name id) (hty : typeOf (.builtin id) = pure (.type "method_descriptor")) (hm : MtR X id r) (ho : PE X o to) (ha : PA X (e :: es) t)
    (hbase : attributeBase o name X.env (eval o X.env) = eval o X.env := by rfl)
    (hfew : ((backTo cpos (starEach (e :: es) X.env)).all (fun x => !x.1) && (backToKw cpos (keywordEach [] X.env)).all (fun x => x.1.isSome)
      && decide ((e :: es).length + ([] : List Keyword).length + (if ([] : List Keyword).isEmpty then 0 else 1) < 30)) = true := by rfl)
    (hline : (apos.endLine == cpos.line) = true := by rfl) (hs : starEach (e :: es) X.env = (false, eval e X.env) :: starEach es X.env := by rfl) (hplain : (backTo cpos (starEach es X.env)).any (·.1) = false := by rfl) :
    PE X (.Call (.Attribute o name apos) (e :: es) [] cpos) (tBM X.K T r to t) := by
  intro pins s σ H Q I h
  refine wpAny_Call_method_late hbase hfew hline rfl (thn (ho pins s σ H _ I h) fun v s1 ⟨x, H1, I1, r1, ty, q1⟩ => ?_)
  obtain ⟨h1, h2⟩ := tyV_is I1 r1 ty
  refine ⟨T, id, pa, slot, hty, h1, h2, ?_⟩
  have hA := ha cpos pins s1 σ H1 _ I1 q1
  rw [hs] at hA ⊢
  refine Calls.callWith_builtin (by show (false || (backTo cpos (starEach es X.env)).any (·.1)) = false; rw [hplain] <;> rfl) (Calls.evalArgs_plain ?_)
  exact thn hA fun us s2 ⟨vs, H2, I2, r2, q2⟩ => hm pins s2 σ H2 x vs v us Q I2 r1 r2 q2
/- xs.append(e), list.index on a module's tuple .. are MtR facts of 06m -/
end
end L2

namespace L2
open PySem PySem.Spec PyProof.Rows

noncomputable def MtM (X : Cx) (id : String) (r : V → List V → Hp → VK → Prop) : Prop :=
  ∀ (pins : List (Addr × Obj)) (s : Shared) (σ : St) (H : Hp) (x : V) (xs : List V) (v : Value) (us : List Value) (Q : VK), Inv X pins σ H s → RelV x v → Vals xs us → r x xs H Q →
    wpAny (model X.prog X.w) X.A (call (.builtin id) (v :: us)) (EP X pins σ Q) X.xe s

/-! ### lists of values -/
theorem Vals.one : ∀ {x : V} {us : List Value}, Vals [x] us → ∃ u, us = [u] ∧ RelV x u
  | _, _, .cons r .nil => ⟨_, rfl, r⟩
theorem Vals.two : ∀ {x y : V} {us : List Value}, Vals [x, y] us → ∃ u v, us = [u, v] ∧ RelV x u ∧ RelV y v
  | _, _, _, .cons r (.cons q .nil) => ⟨_, _, rfl, r, q⟩
theorem Vals.zero : ∀ {us : List Value}, Vals [] us → us = []
  | _, .nil => rfl
theorem Vals.dropLast {xs : List V} {us : List Value} (h : Vals xs us) : Vals xs.dropLast us.dropLast := by
  induction h with
  | nil => exact .nil
  | cons r t ih =>
    cases t with
    | nil => exact .nil
    | cons q t' => exact .cons r ih
theorem Vals.eraseIdx : ∀ {xs : List V} {us : List Value} (i : Nat), Vals xs us → Vals (xs.eraseIdx i) (us.eraseIdx i)
  | _, _, _, .nil => .nil
  | _, _, 0, .cons _ t => t
  | _, _, i + 1, .cons r t => .cons r (Vals.eraseIdx i t)
theorem Vals.reverse {xs : List V} {us : List Value} (h : Vals xs us) : Vals xs.reverse us.reverse := by
  induction h with
  | nil => exact .nil
  | cons r t ih => rw [List.reverse_cons, List.reverse_cons]; exact Vals.append ih (.cons r .nil)

section
variable {X : Cx} {pins : List (Addr × Obj)} {σ : St} {H : Hp} {s : Shared} {l b : Addr} {xs ys zs : List V}

/-! ### the two steps: a tracked list is rewritten, a new list is laid -/
theorem Inv.lset {its its' : List Value} {n : Nat} {f : Array Value → Array Value} {t' : Nat} (I : Inv X pins σ H s) (hH : H l = some (.lst xs))
    (e : s.heap.get? l = some { cls := .type "list", data := .seq its.toArray n }) (hf : f its.toArray = its'.toArray) (hv : Vals ys its') (hz : ys.length ≤ sizeLine) :
    Inv X pins σ (upd H l (.lst ys)) { s with heap := s.heap.update l (Obj.mapSeq f), toks := t' } := by
  have q := PySem.IsL.update e f
  rw [hf] at q
  refine I.write (x := l) (e := l) (by rw [hH]; exact trivial) (.inl rfl) (fun b' u hb hu => (Heap.get?_update_other s.heap (Obj.mapSeq f) (Ne.symm hb)).trans hu) ⟨_, q⟩ ?_
  exact ⟨hz, its', _, hv, q⟩
theorem Inv.lnew {its : List Value} {t' : Nat} (I : Inv X pins σ H s) (hv : Vals ys its) (hz : ys.length ≤ sizeLine) :
    Inv X pins σ (upd H s.heap.objs.size (.lst ys)) { s with heap := s.heap.push { cls := .type "list", data := .seq its.toArray }, toks := t' } :=
  I.laid (fun _ _ q => Heap.get?_push_of_some _ q) (Nat.le_refl _) ⟨hz, its, 0, hv, Heap.get?_push_size _ rfl⟩
theorem Inv.fresh (I : Inv X pins σ H s) : H s.heap.objs.size = none := I.hok.fresh (Nat.le_refl _)
theorem Inv.lstM (I : Inv X pins σ H s) (hH : H l = some (.lst xs)) : xs.length ≤ sizeLine ∧ ∃ (its : List Value) (n : Nat), Vals xs its ∧ xs.length = its.length ∧ s.heap.get? l = some { cls := .type "list", data := .seq its.toArray n } := by
  obtain ⟨z, its, n, r, e⟩ := I.hok l _ hH
  exact ⟨z, its, n, r, r.length, e⟩

end

section
variable {X : Cx}

/-! ### methods -/
noncomputable def rAppend : V → List V → Hp → VK → Prop := fun x vs H Q => ∃ l xs y, x = .ref l ∧ vs = [y] ∧ H l = some (.lst xs) ∧ xs.length < sizeLine ∧ Q .non (upd H l (.lst (xs ++ [y])))
theorem mt_append : MtM X "list.append" rAppend := by
  intro pins s σ H x vs v us Q I rx rv h
  obtain ⟨l, xs, y, rfl, rfl, hH, hz, q⟩ := h
  cases rx
  obtain ⟨u, rfl, ru⟩ := rv.one
  obtain ⟨z, its, n, r, hl, e⟩ := I.lstM hH
  refine call_meets F.slot_list_append ⟨_, e, rfl⟩ F.entry_list_append (F.args_list_append_2 _ _) (PySem.list_append l its.toArray n u (by rw [List.size_toArray]; omega)) ⟨e, ?_⟩
  refine ⟨.non, _, I.lset (its' := its ++ [u]) hH e (by simp) (r.append (.cons ru .nil)) ?_, rfl, q⟩
  rw [List.length_append, List.length_singleton]
  omega

noncomputable def rExtend : V → List V → Hp → VK → Prop := fun x vs H Q => ∃ l b xs zs, x = .ref l ∧ vs = [.ref b] ∧ H l = some (.lst xs) ∧ H b = some (.lst zs) ∧ xs.length + zs.length ≤ sizeLine ∧ Q .non (upd H l (.lst (xs ++ zs)))

noncomputable def rPop : V → List V → Hp → VK → Prop := fun x vs H Q => ∃ l xs y, x = .ref l ∧ vs = [] ∧ H l = some (.lst xs) ∧ xs[xs.length - 1]? = some y ∧ Q y (upd H l (.lst xs.dropLast))

noncomputable def rPopAt : V → List V → Hp → VK → Prop := fun x vs H Q => ∃ l xs i k y, x = .ref l ∧ vs = [.int i] ∧ H l = some (.lst xs) ∧ -(2 ^ 63) ≤ i ∧ i < 2 ^ 63 ∧ seqIndex? i xs.length = some k ∧ xs[k]? = some y ∧ Q y (upd H l (.lst (xs.eraseIdx k)))

noncomputable def rReverse : V → List V → Hp → VK → Prop := fun x vs H Q => ∃ l xs, x = .ref l ∧ vs = [] ∧ H l = some (.lst xs) ∧ Q .non (upd H l (.lst xs.reverse))

noncomputable def rClear : V → List V → Hp → VK → Prop := fun x vs H Q => ∃ l xs, x = .ref l ∧ vs = [] ∧ H l = some (.lst xs) ∧ Q .non (upd H l (.lst []))

/-! ### list + list, list += list, list * int -/
noncomputable def rCat : R2 := fun x y H Q => ∃ l b xs zs, x = .ref l ∧ y = .ref b ∧ H l = some (.lst xs) ∧ H b = some (.lst zs) ∧ xs.length + zs.length ≤ sizeLine ∧ ∀ p, H p = none → Q (.ref p) (upd H p (.lst (xs ++ zs)))
theorem op_cat : OpR X (binaryOp .Add) rCat := by
  intro pins s σ H x y v u Q I rx ry h
  obtain ⟨l, b, xs, zs, rfl, rfl, hH, hB, hz, q⟩ := h
  cases rx
  cases ry
  obtain ⟨z, its, n, r, hl, e⟩ := I.lstM hH
  obtain ⟨z2, its2, n2, r2, hl2, e2⟩ := I.lstM hB
  refine PySem.P.add_list e e2 ?_ (by rw [List.size_toArray, List.size_toArray]; omega)
  have ea : its.toArray ++ its2.toArray = (its ++ its2).toArray := by simp
  rw [ea]
  exact ⟨.ref _, _, I.lnew (t' := s.toks) (r.append r2) (by rw [List.length_append]; omega), rfl, q _ I.fresh⟩
/-- a list times an int (a negative one is nothing) -/
noncomputable def rRep : R2 := fun x y H Q => ∃ l k xs, x = .ref l ∧ y = .int k ∧ H l = some (.lst xs) ∧ -(2 ^ 63) ≤ k ∧ k < 2 ^ 63 ∧ xs.length * k.toNat ≤ sizeLine ∧
  ∀ p, H p = none → Q (.ref p) (upd H p (.lst (List.replicate k.toNat xs).flatten))

/-! ### del xs[i] -/
end

/-! ### xs[a:b] = ys -/
section
variable {prog : Program} {w : World} {A : Around} {E : Value → Shared → Prop} {s : Shared}
end

section
variable {X : Cx}
end
end L2

namespace Att
open PySem PySem.W PySem.Calls PyProof.Rows

/-! ### the script -/
theorem ints_of_wellAll {P : Params} {h : Heap} : ∀ (ns : List Int) (vs : List Value), WellAll P h vs (ns.map WData.int) → IntsAre vs ns := by
  intro ns
  induction ns with
  | nil =>
    intro vs w
    rw [List.map_nil] at w
    cases w
    exact .nil
  | cons n ns ih =>
    intro vs w
    rw [List.map_cons] at w
    cases w with
    | cons a b =>
      cases a
      exact .cons _ _ (ih _ b)

theorem script_of {l : OpenLaw} {n : Nat} (hn : l.most = some n) {P : Params} {h : Heap} {args : List WData} {vals : List Value}
    (hpre : l.row.toRowW.claim.pre args = true) (hwl : WellAll P h vals args) :
    ∃ a vs ns, vals = [Value.ref a] ∧ args = [WData.list (ns.map WData.int)] ∧ h.get? a = some { cls := .type "list", data := .seq vs.toArray } ∧ IntsAre vs ns ∧ ns.length ≤ n := by
  have hsh : WShape.hasAll [] args [.list .int] = true := (pre_splitW hpre).1
  have hc : l.pre.holds [] { args := args } = true := (pre_splitW hpre).2
  obtain ⟨d, r, rfl, h1, h2⟩ := hasAllW_cons hsh
  obtain rfl := hasAllW_nil h2
  obtain ⟨xs, rfl, h3⟩ := hasW_list h1
  obtain ⟨ns, rfl⟩ := items_int h3
  have hlen : ns.length ≤ n := by
    unfold OpenLaw.pre at hc
    have h4 : (WTm.not (.lt (.lit (.int (n : Int))) (.len (.arg 0)))).holds [] { args := [.list (ns.map .int)] } = true := by
      have h4 := (holds_andW hc).1
      rw [hn] at h4
      exact h4
    have h5 := condW_of h4 (w_not (w_lt w_lit (w_len_list (w_arg rfl))))
    rw [List.length_map] at h5
    refine Nat.le_of_not_lt fun q => ?_
    have q' : (n : Int) < ((ns.length : Nat) : Int) := by omega
    first
      | (rw [decide_eq_true q'] at h5; exact absurd h5 (by decide))
      | (simp at h5; omega)
  cases hwl with
  | cons w1 w2 =>
    cases w2
    cases w1 with
    | list ho hall => exact ⟨_, _, ns, rfl, rfl, ho, ints_of_wellAll ns _ hall, hlen⟩

theorem post_true (l : OpenLaw) (args : List WData) : l.row.toRowW.claim.post args (.bool true) args = true :=
  postW_of (r := l.row.toRowW) (X := (true == true))
    (show WShape.has [] (.bool true) .bool = true by first | rfl | decide | simp [WShape.has, WShape.arms, WShape.armsAll])
    (show (WTm.eq .res (.lit (.bool true))).value [] { args := args, res := some (.bool true), after := args } = some (.bool (true == true)) from w_eq_bool (w_res rfl) w_lit) rfl

/-! ### the attachment: holds_open's last premise (the goal 'hc' behind k_head) from a wpAny of the law's body -/

/-- the same from a codeAny of the CALL (for a layer whose function contracts speak of calls) -/
theorem attach_call {l : OpenLaw} {n : Nat} {q : Program} {loose : List Str} {XP : (Str → Option Value) → Heap → Prop} {YP : World → Heap → Prop} {d : DefRec}
    (hn : l.most = some n) (hdf : d.params.defaults = [])
    (call : ∀ (w : World) (s₀ s₁ : Shared) (mg mb : Str → Option Value) (fa : Addr) (o : Obj) (pm cd doc : Value) (a : Addr) (vs : List Value) (ns : List Int),
      Ground q loose [] XP w s₀ mg mb s₁.heap → YP w s₁.heap →
      s₁.heap.get? fa = some o → o.data = .func (docDef d.name d.params d.body d.scope pm cd doc) → s₁.heap.CodeRec cd d.name → mg d.name = some (.ref fa) →
      s₁.heap.get? a = some { cls := .type "list", data := .seq vs.toArray } → IntsAre vs ns → ns.length ≤ n → s₁.gens = #[] →
      codeAny (model l.prog w) callerA (.call (.ref fa) ⟨[.ref a], []⟩) (fun r s' => r = .ok (.ret (.bool true)) ∧ OldK s₁.heap s'.heap ∧ s'.os = s₁.os ∧ AllBare s'.gens) s₁) :
    WalkO q loose XP YP l.row.toRowW d [] (fun f vs => PySem.call f vs) := by
  intro w s₀ s₁ mg mb G Y fa o pm cd doc dV kV ho hd hcd hD hmg hg args vals as hpre hlay hrd hwl hlo
  obtain rfl : dV = .none := Dflts.none hD hdf
  obtain rfl : kV = .none := Dflts.noKw hD
  obtain ⟨a, vs, ns, rfl, rfl, hobj, hints, hlen⟩ := script_of hn hpre hwl
  refine enter_call (codeAny_mono (call w s₀ s₁ mg mb fa o pm cd doc a vs ns G Y ho (fd_plain hd) hcd hmg hobj hints hlen hg) fun r s' hq => ?_)
  obtain ⟨rfl, h2, h3, h4⟩ := hq
  exact ⟨.inl ⟨.bool true, .bool true, [], rfl, fun _ => rfl, .bool true, post_true l _, fun _ => ⟨List.Pairwise.nil, fun _ hm => (nomatch hm)⟩⟩, h2, h3, h4⟩


/-! ### rules over ANY heap (no ledger) from facts about the written part K: the library's own take a ledger (News) for what they write -/
section
variable {prog : Program} {w : World} {A : Around} {E : Value → Shared → Prop} {s : Shared} {K : Frag}





/-! the whole heap as the ledger: makes every rule that writes through a ledger a rule over any heap -/
noncomputable def noObjs (h : Heap) : Heap := { h with objs := #[] }
noncomputable def ledger (h : Heap) (L d : Addr) : List (Addr × Obj) := (List.range h.objs.size).filterMap fun a => if a = L ∨ a = d then none else (h.get? a).map fun o => (a, o)

end
end Att

namespace L2
open PySem PySem.Spec PyProof.Rows

theorem vals_ints : ∀ {vs : List Value} {ns : List Int}, IntsAre vs ns → Vals (ns.map V.int) vs
  | _, _, .nil => .nil
  | _, _, .cons n t h => .cons ⟨t, rfl⟩ (vals_ints h)

/-- nothing is tracked but the script, known to the object (or it is an object of the module) -/
noncomputable def Only (H : Hp) : Prop := ∀ b, H b = none ∨ ∃ o xs, H b = some (.frz o (.lst xs))

/-- THE HEAD: the law's promise, at the heap behind the top. F, the promise of the law's def, may use that base is part of the heap (so K.In base, base.Ns mainGlobals mg stand in Mod) -/
theorem law_call {P : Program} {w : World} {K : PySem.W.Frag} {mg mb : Str → Option Value} {CX : CXT} {k : Nat} {fa a : Addr} {fd : FuncData} {x : Str} {sp : Sp} {s₁ : Shared} {vs : List Value} {ns : List Int}
    (KX : K.In s₁.heap) (hns : s₁.heap.Ns mainGlobals mg) (hb : s₁.heap.Ns builtinsNs mb) (hbb : ∀ x : Str, x ≠ "__name__" → mb x = bootBuiltins x) (hlim : s₁.heap.NoLimit) (hg : s₁.gens = #[])
    (ha : s₁.heap.get? a = some { cls := .type "list", data := .seq vs.toArray }) (hi : IntsAre vs ns) (hl : ns.length ≤ sizeLine) (hr : Room k callerA)
    (F : ∀ base : Heap, K.In base → base.Ns mainGlobals mg → FnOk P w K mg base CX k fa fd [x] sp) (hbind : ∀ (s : Shared) (u : Value), BindsTo s fd ⟨[u], []⟩ [(x, u)])
    (hsp : ∀ H : Hp, Only H → SqL K H a (ns.map V.int) → sp [.ref a] H (fun v _ => v = .bl true) fun _ _ _ => False)
    (hCX : ∀ H e s', CX [] H s₁ (fun _ _ _ => False) e s' → False) :
    codeAny (model P w) callerA (.call (.ref fa) ⟨[.ref a], []⟩) (fun r s' => r = .ok (.ret (.bool true)) ∧ OldK s₁.heap s'.heap ∧ s'.os = s₁.os ∧ AllBare s'.gens) s₁ := by
  have rv := vals_ints hi
  have lenV := hi.length
  -- from an abstract heap in which nothing but the script may be tracked
  have core : ∀ H : Hp, Only H → SqL K H a (ns.map V.int) → HOk P w H s₁.heap → (∀ b, H b ≠ none → b = a) → (H a ≠ none → K.lookup a = none) →
      codeAny (model P w) callerA (.call (.ref fa) ⟨[.ref a], []⟩) (fun r s' => r = .ok (.ret (.bool true)) ∧ OldK s₁.heap s'.heap ∧ s'.os = s₁.os ∧ AllBare s'.gens) s₁ := by
    intro H hO hS hok hA hK
    have base_of : ∀ {b : Addr} {o : Obj}, s₁.heap.get? b = some o → H b = none → (hidT s₁.heap H).get? b = some o := fun e n => hidT_get e n
    have noA : ∀ {b : Addr} {o : Obj} {es : Array DictEntry} {ep : Nat}, s₁.heap.get? b = some o → o.data = .dict es ep → H b = none := fun {b o es ep} e d => by
      cases q : H b with
      | none => rfl
      | some u =>
        have e' : b = a := hA b (by rw [q]; simp)
        subst e'
        rw [ha] at e; cases e
        have d' : Data.seq vs.toArray _ = Data.dict es ep := d
        cases d'
    have nsK : ∀ {b : Addr} {m : Str → Option Value}, s₁.heap.Ns b m → (hidT s₁.heap H).Ns b m := fun {b m} ⟨o, es, ep, e, d, r⟩ => ⟨o, es, ep, base_of e (noA e d), d, r⟩
    have hKb : K.In (hidT s₁.heap H) := fun b o e => base_of (KX b o e) (by
      cases q : H b with
      | none => rfl
      | some u =>
        have e' : b = a := hA b (by rw [q]; simp)
        subst e'
        rw [hK (by rw [q]; simp)] at e; cases e)
    have hM : Mod K mg (hidT s₁.heap H) := ⟨hKb, nsK hns, ⟨mb, nsK hb, hbb⟩, let ⟨mc, h1, h2⟩ := hlim; ⟨mc, nsK h1, h2⟩⟩
    have e0 : Env0 P w K mg (hidT s₁.heap H) callerA [] s₁ H := ⟨rfl, hM, fun b o e => of_hidT e, Nat.le_of_eq (hidT_size _ _), trivial, fun b hb => absurd (show b ∈ ([] : List Addr) from hb) (by simp), hok, .of_eq hg⟩
    refine codeAny_mono ((F _ hKb (nsK hns)).run callerA [] s₁ H ⟨[.ref a], []⟩ [.ref a] [.ref a] _ _ hr e0 (hbind s₁ (.ref a)) (.cons rfl .nil) (hsp H hO hS)) fun r s' h => ?_
    cases r with
    | error e => exact (hCX H e s' h).elim
    | ok fl =>
      cases fl with
      | next => exact False.elim h
      | brk => exact False.elim h
      | cont => exact False.elim h
      | ret u =>
        obtain ⟨v, H', os, bare, un, hok', r', q⟩ := h
        have q' : v = .bl true := q
        subst q'
        obtain rfl : u = Value.bool true := r'
        refine ⟨rfl, OldK.of_keep fun b o e => ?_, os, bare⟩
        cases q : H b with
        | none => exact un.keep b o e q (by intro z; exact absurd (show b ∈ ([] : List Addr) from z) (by simp)) (by simp)
        | some u =>
          rcases hO b with z | ⟨ob, xs, z⟩
          · rw [q] at z; cases z
          · have z2 := un.frzs b ob _ z
            obtain ⟨e1, _⟩ := hok b _ z
            obtain ⟨e2, _⟩ := hok' b _ z2
            rw [e] at e1; cases e1
            exact e2
  cases hk : K.lookup a with
  | some o =>
    -- the script is one of the module's own objects
    have e := KX a o hk
    rw [ha] at e
    cases e
    refine core (fun _ => none) (fun _ => .inl rfl) (.inr ⟨_, vs.toArray, _, hk, rfl, rfl, rfl, by rw [List.size_toArray, lenV]; exact hl, by simpa using rv⟩) (fun b u z => by have z' : (none : Option HO) = some u := z; cases z') (fun b z => absurd rfl z) fun z => absurd rfl z
  | none =>
    refine core (fun b => if b = a then some (.frz { cls := .type "list", data := .seq vs.toArray } (.lst (ns.map V.int))) else none) (fun b => ?_) (.inl (.inr ⟨{ cls := .type "list", data := .seq vs.toArray }, if_pos rfl⟩)) (fun b u z => ?_) (fun b z => ?_) fun _ => hk
    · by_cases hb : b = a
      · exact .inr ⟨_, _, if_pos hb⟩
      · exact .inl (if_neg hb)
    · by_cases hb : b = a
      · have z' := (if_pos hb).symm.trans z
        cases z'
        subst hb
        exact ⟨ha, by rw [List.length_map]; exact hl, vs, _, rv, ha⟩
      · have z' := (if_neg hb).symm.trans z
        cases z'
    · by_cases hb : b = a
      · exact hb
      · exact absurd (if_neg hb) z
end L2

namespace L2
open PySem PySem.Spec PyProof.Rows

noncomputable abbrev KOf {K : PySem.W.Frag} {h : Heap} (_ : K.In h) : PySem.W.Frag := K

/-- the goal that k_head leaves (case hc), from the law's promise. F gives the function object fd (K's own) once, then the promise over every base -/
theorem walk_of {l : PySem.W.OpenLaw} {n k : Nat} {q : Program} {loose : List Str} {XP : (Str → Option Value) → Heap → Prop} {YP : World → Heap → Prop} {d : DefRec} {K : Params → PySem.W.Frag} {CX : World → CXT} {sp : World → Sp} {x : Str}
    (hn : l.most = some n) (hn2 : n ≤ sizeLine) (hdf : d.params.defaults = []) (hr : Room k callerA)
    (hY : ∀ (w : World) (h : Heap), YP w h → (K w.params).In h)
    (F : ∀ (w : World) (mg : Str → Option Value) (fa : Addr) (h : Heap), (K w.params).In h → h.Ns mainGlobals mg → mg d.name = some (.ref fa) →
      ∃ fd : FuncData, (∀ (s : Shared) (u : Value), BindsTo s fd ⟨[u], []⟩ [(x, u)]) ∧
        ∀ base : Heap, (K w.params).In base → base.Ns mainGlobals mg → FnOk l.prog w (K w.params) mg base (CX w) k fa fd [x] (sp w))
    (hsp : ∀ (w : World) (H : Hp) (a : Addr) (ns : List Int), ns.length ≤ n → Only H → SqL (K w.params) H a (ns.map V.int) → sp w [.ref a] H (fun v _ => v = .bl true) fun _ _ _ => False)
    (hCX : ∀ (w : World) (H : Hp) (s : Shared) (e : Value) (s' : Shared), CX w [] H s (fun _ _ _ => False) e s' → False) :
    PySem.W.WalkO q loose XP YP l.row.toRowW d [] (fun f vs => PySem.call f vs) := by
  refine Att.attach_call hn hdf fun w s₀ s₁ mg mb fa o pm cd doc a vs ns G Y ho hd hcd hmg hobj hints hlen hg => ?_
  have KX := hY w _ Y
  obtain ⟨fd, hb, hF⟩ := F w mg fa _ KX G.T.g hmg
  exact law_call KX G.T.g G.T.b G.T.builtins G.T.nolimit hg hobj hints (Nat.le_trans hlen hn2) hr hF hb (fun H hO hS => hsp w H a ns hlen hO hS) fun H e s' => hCX w H s₁ e s'
end L2


/-! SHORT WORDS over the layer: a def of the text, its body, what a loop and a test want. -/
namespace L2
open PySem PySem.Spec PyProof.Rows

/-! ### the text by places -/
/-- the j-th statement of a class's body -/
noncomputable def inClass (s : Stmt) (j : Nat) : Stmt := match s with
  | .ClassDef _ _ _ body _ _ _ _ _ _ _ => body.getD j (.Pass ⟨0, 0, 0, 0⟩)
  | _ => .Pass ⟨0, 0, 0, 0⟩
noncomputable def defArgs (s : Stmt) : Arguments := match s with
  | .FunctionDef _ a _ _ _ _ _ _ _ _ => a
  | _ => { posonlyargs := [], args := [], vararg := none, kwonlyargs := [], kw_defaults := [], kwarg := none, defaults := [] }
noncomputable def defBody (s : Stmt) : List Stmt := match s with
  | .FunctionDef _ _ b _ _ _ _ _ _ _ => b
  | _ => []
noncomputable def defScope (s : Stmt) : Scope := match s with
  | .FunctionDef _ _ _ _ _ _ sc _ _ _ => sc
  | _ => { kind := .function, names := [], isGenerator := false, isCoroutine := false }

/-! ### no exception leaves a def -/
noncomputable abbrev CX0 : CXT := fun _ _ _ _ _ _ => False
noncomputable abbrev E0 : XK := fun _ _ _ => False
theorem pass0 {X : Cx} : Passes CX0 X E0 := fun _ _ _ _ _ _ _ h => h.elim

/-! ### a def (or method) of the text as it stands behind the top -/
structure Fun (K : PySem.W.Frag) (x qual : Str) (st : Stmt) (f : Addr) (fd : FuncData) : Prop where
  ex : ∃ (oc : Value) (od : Option Addr) (kV doc pm : Value) (an : Option Addr) (cdv ct : Value) (osl : Array (Option Value)),
    fd = PySem.W.fnOf x qual (defArgs st) (defBody st) (defScope st) .none kV doc pm an cdv ct ∧ K.lookup f = some ⟨oc, od, .func fd, osl⟩ ∧ PySem.W.codeIn K cdv qual = true
  kp : PySem.W.keepIn K (.ref f) = true
section
variable {P : Program} {w : World} {K : PySem.W.Frag} {mg : Str → Option Value} {base : Heap}
/-- THE RULE for a def: its body as a term of rules, and the reading of that term -/
theorem Fun.ok {x qual : Str} {st : Stmt} {f : Addr} {fd : FuncData} {N ps : List Str} {k : Nat} {sp : Sp} (F : Fun K x qual st f fd) (S : FnScope N ps (defScope st)) (len : ∀ vs H Q E, sp vs H Q E → vs.length = ps.length)
    (hbody : ∀ (cdv : Value) (A : Around) (outer : List Env) (s : Shared) (H : Hp) (vs : List V) (Q : VK) (E : XK), Room k (A.deeper (envOfC qual (defScope st) s.heap.objs.size f cdv)) → sp vs H Q E →
      ∃ t, PSs (cxOf CX0 P w K mg base N qual (defScope st) f cdv A outer s H E).nox (defBody st) t ∧ t { nx := fun _ H' => Q .non H', rt := Q } (start N vs) H) : FnOk P w K mg base CX0 (k + 1) f fd ps sp := by
  obtain ⟨oc, od, kV, doc, pm, an, cdv, ct, osl, rfl, lk, hcd⟩ := F.ex
  refine fn_of lk hcd S len fun A outer s H vs Q E hr hsp => ?_
  obtain ⟨t, h, q⟩ := hbody cdv A outer s H vs Q E hr hsp
  exact ⟨t, h.nox, q⟩
/-- how its arguments bind (no defaults): h is «fun _ _ _ _ _ _ us hl => match us, hl with | [_, _], _ => rfl», one _ a parameter -/
theorem Fun.binds {x qual : Str} {st : Stmt} {f : Addr} {fd : FuncData} {ps : List Str} (F : Fun K x qual st f fd)
    (h : ∀ (kV doc pm : Value) (an : Option Addr) (cdv ct : Value) (us : List Value), us.length = ps.length → bindArgs (PySem.W.fnOf x qual (defArgs st) (defBody st) (defScope st) .none kV doc pm an cdv ct) ⟨us, []⟩ = pure (ps.zip us)) : Binds K fd ps [] := by
  obtain ⟨oc, od, kV, doc, pm, an, cdv, ct, osl, rfl, lk, hcd⟩ := F.ex
  exact .all (h kV doc pm an cdv ct)
theorem fun_mk {x qual : Str} {st : Stmt} {f : Addr} {oc : Value} {od an : Option Addr} {osl : Array (Option Value)} {kV doc pm cdv ct : Value} (l : K.lookup f = some ⟨oc, od, .func (PySem.W.fnOf x qual (defArgs st) (defBody st) (defScope st) .none kV doc pm an cdv ct), osl⟩)
    (c : PySem.W.codeIn K cdv qual = true) (k : PySem.W.keepIn K (.ref f) = true) : Fun K x qual st f (PySem.W.fnOf x qual (defArgs st) (defBody st) (defScope st) .none kV doc pm an cdv ct) := ⟨⟨oc, od, kV, doc, pm, an, cdv, ct, osl, rfl, l, c⟩, k⟩
end

/-! ### expressions in short: the name that stands in the i-th slot -/
section
variable {X : Cx}
theorem pv (i : Nat) {x : Str} {pos : Pos} (hN : X.N[i]? = some x := by rfl) (hv : Vis X.env.scope x := by first | exact Or.inl rfl | exact Or.inr (Or.inl rfl) | exact Or.inr (Or.inr rfl)) (hd : (x == ("__debug__" : Str)) = false := by decide)
    (hcd : (x == ("__classdict__" : Str)) = false := by decide) : PE X (.Name x pos) (tVar i) := pe_var hN hv hd hcd
end

/-! ### tests -/
theorem iteT {A B : Prop} (h : A) : if true = true then A else B := by
  rw [if_pos rfl]
  exact h
theorem ite2 {c A B : Prop} [Decidable c] (h1 : c → A) (h2 : ¬ c → B) : if c then A else B := by
  by_cases h : c
  · rw [if_pos h]
    exact h1 h
  · rw [if_neg h]
    exact h2 h

/-! ### heaps -/
/-- all that was tracked is as it was -/
noncomputable def Same (H H' : Hp) : Prop := ∀ b o, H b = some o → H' b = some o
theorem Same.refl (H : Hp) : Same H H := fun _ _ h => h
theorem Same.trans {H H1 H2 : Hp} (a : Same H H1) (b : Same H1 H2) : Same H H2 := fun c o h => b c o (a c o h)
theorem Same.free {H H' : Hp} (e : Same H H') {l : Addr} (h : H' l = Option.none) : H l = Option.none := by
  cases q : H l with
  | none => rfl
  | some o =>
    rw [e l o q] at h
    cases h
theorem Same.seq {K : PySem.W.Frag} {H H' : Hp} {a : Addr} {xs : List V} (e : Same H H') (h : SqL K H a xs) : SqL K H' a xs := by
  rcases h with (h | ⟨o, h⟩) | h
  · exact .inl (.inl (e _ _ h))
  · exact .inl (.inr ⟨o, e _ _ h⟩)
  · exact .inr h

end L2

namespace L2
open PySem PySem.Spec PyProof.Rows

/-! ### lists of pairs as tables -/
section
variable {κ : Type} [DecidableEq κ]
noncomputable def valV (kvs : List (κ × V)) (k : κ) : Option V := (kvs.find? fun kv => decide (kv.1 = k)).map (·.2)
/-- in its place, or at the end -/
noncomputable def putK (kvs : List (κ × V)) (k : κ) (v : V) : List (κ × V) :=
  if (kvs.any fun kv => decide (kv.1 = k)) = true then kvs.map (fun kv => if kv.1 = k then (kv.1, v) else kv) else kvs ++ [(k, v)]
noncomputable def dropK (kvs : List (κ × V)) (k : κ) : List (κ × V) := kvs.filter fun kv => decide (kv.1 ≠ k)

theorem valV_pos {p : κ × V} {r : List (κ × V)} {k : κ} (e : p.1 = k) : valV (p :: r) k = some p.2 := by simp [valV, List.find?_cons, e]
theorem valV_neg {p : κ × V} {r : List (κ × V)} {k : κ} (e : ¬ p.1 = k) : valV (p :: r) k = valV r k := by simp [valV, List.find?_cons, e]
theorem valV_any (k : κ) : ∀ kvs : List (κ × V), (kvs.any fun kv => decide (kv.1 = k)) = (valV kvs k).isSome
  | [] => rfl
  | p :: r => by
    rw [List.any_cons]
    by_cases e : p.1 = k
    · simp only [valV_pos e, decide_eq_true e, Bool.true_or, Option.isSome_some]
    · rw [valV_neg e, decide_eq_false e, Bool.false_or]; exact valV_any k r

theorem RelO.isSome_eq {o : Option V} {u : Option Value} (r : RelO o u) : o.isSome = u.isSome := by
  cases o with
  | none => cases u with
    | none => rfl
    | some _ => exact (show False from r).elim
  | some _ => cases u with
    | none => exact (show False from r).elim
    | some _ => rfl
theorem RelO.getD {o : Option V} {u : Option Value} {d : V} {d' : Value} (r : RelO o u) (rd : RelV d d') : RelV (o.getD d) (u.getD d') := by
  cases o with
  | none => cases u with
    | none => exact rd
    | some _ => exact (show False from r).elim
  | some _ => cases u with
    | none => exact (show False from r).elim
    | some _ => exact r

/-- raw tables of the same keys -/
theorem KV.val {kvs : List (κ × V)} {vs : List (κ × Value)} (r : KV kvs vs) (k : κ) : RelO (valV kvs k) (valueAt vs k) := by
  unfold KV at r
  induction r with
  | nil => exact True.intro
  | @cons p q ps qs h t ih =>
    obtain ⟨h1, h2⟩ := h
    by_cases e : p.1 = k
    · have e' : q.1 = k := h1.symm.trans e
      have b : valueAt (q :: qs) k = some q.2 := by simp [valueAt, List.find?_cons, e']
      rw [valV_pos e, b]; exact h2
    · have e' : ¬ q.1 = k := fun z => e (h1.trans z)
      have b : valueAt (q :: qs) k = valueAt qs k := by simp [valueAt, List.find?_cons, e']
      rw [valV_neg e, b]; exact ih
theorem KV.any {kvs : List (κ × V)} {vs : List (κ × Value)} (r : KV kvs vs) (k : κ) : (kvs.any fun kv => decide (kv.1 = k)) = vs.any fun kv => decide (kv.1 = k) := by
  unfold KV at r
  induction r with
  | nil => rfl
  | cons h t ih => rw [List.any_cons, List.any_cons, ih, h.1]
theorem KV.repl {kvs : List (κ × V)} {vs : List (κ × Value)} (r : KV kvs vs) (k : κ) {y : V} {u : Value} (ry : RelV y u) :
    KV (kvs.map fun kv => if kv.1 = k then (kv.1, y) else kv) (vs.map fun kv => if kv.1 = k then (kv.1, u) else kv) := by
  unfold KV at r ⊢
  induction r with
  | nil => exact .nil
  | @cons p q ps qs h t ih =>
    rw [List.map_cons, List.map_cons]
    refine .cons ?_ ih
    obtain ⟨h1, h2⟩ := h
    by_cases e : p.1 = k
    · rw [if_pos e, if_pos (h1.symm.trans e)]; exact ⟨h1, ry⟩
    · rw [if_neg e, if_neg (fun z => e (h1.trans z))]; exact ⟨h1, h2⟩
theorem KV.put {kvs : List (κ × V)} {vs : List (κ × Value)} (r : KV kvs vs) (k : κ) {y : V} {u : Value} (ry : RelV y u) : KV (putK kvs k y) (stored vs k u) := by
  unfold putK stored
  rw [r.any k]
  by_cases e : (vs.any fun kv => decide (kv.1 = k)) = true
  · rw [if_pos e, if_pos e]; exact r.repl k ry
  · rw [if_neg e, if_neg e]; exact Paired.snoc r ⟨rfl, ry⟩
theorem KV.drop {kvs : List (κ × V)} {vs : List (κ × Value)} (r : KV kvs vs) (k : κ) : KV (dropK kvs k) (without vs k) := by
  unfold KV at r ⊢
  unfold dropK without
  induction r with
  | nil => exact .nil
  | @cons p q ps qs h t ih =>
    obtain ⟨h1, h2⟩ := h
    rw [List.filter_cons, List.filter_cons]
    by_cases e : p.1 = k
    · have a : ¬ decide (p.1 ≠ k) = true := by simp [e]
      have b : ¬ decide (q.1 ≠ k) = true := by simp [h1.symm.trans e]
      rw [if_neg a, if_neg b]; exact ih
    · have e' : ¬ q.1 = k := fun z => e (h1.trans z)
      have a : decide (p.1 ≠ k) = true := by simp [e]
      have b : decide (q.1 ≠ k) = true := by simp [e']
      rw [if_pos a, if_pos b]; exact .cons ⟨h1, h2⟩ ih
theorem KV.keys {kvs : List (κ × V)} {vs : List (κ × Value)} (r : KV kvs vs) : kvs.map (·.1) = vs.map (·.1) := by
  unfold KV at r
  induction r with
  | nil => rfl
  | cons h t ih => rw [List.map_cons, List.map_cons, ih, h.1]
theorem KV.length {kvs : List (κ × V)} {vs : List (κ × Value)} (r : KV kvs vs) : kvs.length = vs.length := Paired.length r
end


/-! ### a tracked dict, its keys ints and texts or tuples of these -/

/-- raw entries of a dict with tuple keys -/
noncomputable abbrev KT (H : Hp) : List (List Key × V) → List (List Key × Addr × Value) → Prop := Paired fun p q => p.1 = q.1 ∧ H q.2.1 = some (.tup (p.1.map kV)) ∧ RelV p.2 q.2.2
theorem KT.val {H : Hp} {kvs : List (List Key × V)} {xs : List (List Key × Addr × Value)} (r : KT H kvs xs) (k : List Key) : RelO (valV kvs k) ((atKey xs k).map (·.2)) := by
  induction r with
  | nil => exact True.intro
  | @cons p q ps qs h t ih =>
    obtain ⟨h1, _, h2⟩ := h
    by_cases e : p.1 = k
    · have e' : q.1 = k := h1.symm.trans e
      have b : atKey (q :: qs) k = some q.2 := by simp [atKey, List.find?_cons, e']
      rw [valV_pos e, b]; exact h2
    · have e' : ¬ q.1 = k := fun z => e (h1.trans z)
      have b : atKey (q :: qs) k = atKey qs k := by simp [atKey, List.find?_cons, e']
      rw [valV_neg e, b]; exact ih
theorem KT.repl {H : Hp} {kvs : List (List Key × V)} {xs : List (List Key × Addr × Value)} (r : KT H kvs xs) (k : List Key) {y : V} {u : Value} (ry : RelV y u) :
    KT H (kvs.map fun kv => if kv.1 = k then (kv.1, y) else kv) (xs.map (putAt k u)) := by
  induction r with
  | nil => exact .nil
  | @cons p q ps qs h t ih =>
    rw [List.map_cons, List.map_cons]
    refine .cons ?_ ih
    obtain ⟨h1, h2, h3⟩ := h
    unfold putAt
    by_cases e : p.1 = k
    · rw [if_pos e, if_pos (h1.symm.trans e)]; exact ⟨h1, h2, ry⟩
    · rw [if_neg e, if_neg (fun z => e (h1.trans z))]; exact ⟨h1, h2, h3⟩
theorem KT.put {H : Hp} {kvs : List (List Key × V)} {xs : List (List Key × Addr × Value)} (r : KT H kvs xs) (k : List Key) {b : Addr} {y : V} {u : Value} (hb : H b = some (.tup (k.map kV))) (ry : RelV y u) :
    KT H (putK kvs k y) (storedH xs k b u) := by
  have e : (kvs.any fun kv => decide (kv.1 = k)) = (atKey xs k).isSome := by
    rw [valV_any, (r.val k).isSome_eq, Option.isSome_map]
  unfold putK storedH
  rw [e]
  by_cases q : (atKey xs k).isSome = true
  · rw [if_pos q, if_pos q]; exact r.repl k ry
  · rw [if_neg q, if_neg q]; exact Paired.snoc r ⟨rfl, hb, ry⟩
theorem KT.keeps {H H' : Hp} {kvs : List (List Key × V)} {xs : List (List Key × Addr × Value)} (r : KT H kvs xs) (ht : ∀ b ys, H b = some (.tup ys) → H' b = some (.tup ys)) : KT H' kvs xs :=
  Paired.mapP r fun _ _ z => ⟨z.1, ht _ _ z.2.1, z.2.2⟩

section
variable {P : Program} {w : World} {H : Hp} {h : Heap} {a : Addr}
end

/-- what the dict at a holds at the key y -/
noncomputable def DGet (H : Hp) (a : Addr) (y : V) (r : Option V) : Prop :=
  (∃ kvs k, Rd H a (.dK kvs) ∧ y = kV k ∧ r = valV kvs k) ∨ ∃ kvs k b, Rd H a (.dT kvs) ∧ y = .ref b ∧ H b = some (.tup (k.map kV)) ∧ r = valV kvs k
/-- the heap behind a[y] = v -/
noncomputable def DPut (H : Hp) (a : Addr) (y v : V) (H' : Hp) : Prop :=
  (∃ kvs k, H a = some (.dK kvs) ∧ y = kV k ∧ kvs.length < sizeLine ∧ H' = upd H a (.dK (putK kvs k v))) ∨
  ∃ kvs k b, H a = some (.dT kvs) ∧ y = .ref b ∧ H b = some (.tup (k.map kV)) ∧ kvs.length < sizeLine ∧ H' = upd H a (.dT (putK kvs k v))
theorem DGet.k {H : Hp} {a : Addr} {kvs : List (Key × V)} {k : Key} (e : H a = some (.dK kvs)) : DGet H a (kV k) (valV kvs k) := .inl ⟨kvs, k, .inl e, rfl, rfl⟩
theorem DGet.t {H : Hp} {a b : Addr} {kvs : List (List Key × V)} {k : List Key} (e : H a = some (.dT kvs)) (eb : H b = some (.tup (k.map kV))) : DGet H a (.ref b) (valV kvs k) := .inr ⟨kvs, k, b, .inl e, rfl, eb, rfl⟩
theorem DPut.k {H : Hp} {a : Addr} {kvs : List (Key × V)} {k : Key} {v : V} (e : H a = some (.dK kvs)) (hl : kvs.length < sizeLine) : DPut H a (kV k) v (upd H a (.dK (putK kvs k v))) := .inl ⟨kvs, k, e, rfl, hl, rfl⟩
theorem DPut.t {H : Hp} {a b : Addr} {kvs : List (List Key × V)} {k : List Key} {v : V} (e : H a = some (.dT kvs)) (eb : H b = some (.tup (k.map kV))) (hl : kvs.length < sizeLine) :
    DPut H a (.ref b) v (upd H a (.dT (putK kvs k v))) := .inr ⟨kvs, k, b, e, rfl, eb, hl, rfl⟩


section
variable {X : Cx} {pins : List (Addr × Obj)} {σ : St} {H : Hp} {s : Shared} {a : Addr} {y v : V} {u r : Value} {o : Option V} {A : Around} {E : Value → Shared → Prop}

theorem Inv.big (I : Inv X pins σ H s) : sysModules < s.heap.objs.size := by
  have h : mainGlobals < s.heap.objs.size := (I.mod.glob.keeps I.bk).lt
  exact Nat.lt_trans (by decide) h

/-- a dict's object is replaced -/
theorem d_write {h' : Heap} {t' : Nat} {ob : HO} (I : Inv X pins σ H s) (mu : Mut (H a)) (hs : Heap.SameBut a s.heap h') (he : ∃ q, h'.get? a = some q) (new : ObjOk X.prog X.w (upd H a ob) h' a ob) :
    Inv X pins σ (upd H a ob) { s with heap := h', toks := t' } :=
  I.write (x := a) (e := a) mu (.inl rfl) (fun b q hb z => (hs.2 b hb).trans z) he new
end

section
variable {X : Cx} {pins : List (Addr × Obj)} {σ : St} {H : Hp} {s : Shared} {a : Addr} {kvs : List (Key × V)} {k : Key} {u : Value} {A : Around} {E : Value → Shared → Prop}
end


/-! ### readings and rules -/
/-- the element of a subscription, not a slice -/
noncomputable def NoSl (i : Expr) : Prop := ∀ ov iv, subscripted i false ov iv = operate [ov, iv] (getItem ov iv)


/-- d[y] -/
noncomputable def tDGet (td ty : TE) : TE := fun σ H Q => td σ H fun x H1 => ty σ H1 fun y H2 => ∃ a v, x = .ref a ∧ DGet H2 a y (some v) ∧ Q v H2
/-- y in d, y not in d -/
noncomputable def tDIn (ty td : TE) : TE := fun σ H Q => ty σ H fun y H1 => td σ H1 fun x H2 => ∃ a o, x = .ref a ∧ DGet H2 a y o ∧ Q (.bl o.isSome) H2
noncomputable def tDNotIn (ty td : TE) : TE := fun σ H Q => ty σ H fun y H1 => td σ H1 fun x H2 => ∃ a o, x = .ref a ∧ DGet H2 a y o ∧ Q (.bl (!o.isSome)) H2
/-- d[y] = v -/
noncomputable def sDPut (td ty tv : TE) : TS := fun D σ H => tv σ H fun v H1 => td σ H1 fun x H2 => ty σ H2 fun y H3 => ∃ a H4, x = .ref a ∧ DPut H3 a y v H4 ∧ D.nx σ H4
/-- d[y] op= v -/
noncomputable def sDAug (td ty tv : TE) (rd : V → V → Hp → VK → Prop) : TS := fun D σ H => td σ H fun x H1 => ty σ H1 fun y H2 => ∃ a v, x = .ref a ∧ DGet H2 a y (some v) ∧
  tv σ H2 fun y2 H3 => rd v y2 H3 fun z H4 => ∃ H5, DPut H4 a y z H5 ∧ D.nx σ H5
/-- del d[y] -/
noncomputable def sDDel (td ty : TE) : TS := fun D σ H => td σ H fun x H1 => ty σ H1 fun y H2 => ∃ a kvs k, x = .ref a ∧ H2 a = some (.dK kvs) ∧ y = kV k ∧ (valV kvs k).isSome = true ∧ D.nx σ (upd H2 a (.dK (dropK kvs k)))

section
variable {X : Cx} {o i e value : Expr} {pos pos' tpos : Pos} {td ty tv : TE}
end


/-! ### displays -/
/-- {}, to be a dict of the kind that is wanted -/
noncomputable def tDNewK : TE := fun _ H Q => ∀ p, H p = none → Q (.ref p) (upd H p (.dK []))
noncomputable def tDNewT : TE := fun _ H Q => ∀ p, H p = none → Q (.ref p) (upd H p (.dT []))
section
variable {X : Cx} {pos : Pos}
end

end L2
set_option Elab.async false
set_option linter.all false
set_option maxRecDepth 100000
/-! Data in place of tuples: a layer of our own over the hand layer. A value is data; tuples are data; lists that change lie in a store. -/
namespace SD
open PySem PySem.Spec PyProof.Rows L2

inductive D where
  | non | bl (b : Bool) | int (i : Int) | str (x : Str) | ty (n : String) | ref (a : Addr) | rol (ds : List D) | tup (ds : List D)

/-- a list that nobody changes: frozen, or the module's -/
noncomputable def SqF (K : PySem.W.Frag) (H : Hp) (a : Addr) (xs : List V) : Prop :=
  (∃ o, H a = some (.frz o (.lst xs))) ∨
    ∃ (o : Obj) (its : Array Value) (n : Nat), K.lookup a = some o ∧ o.cls = .type "list" ∧ o.dict = none ∧ o.data = .seq its n ∧ its.size ≤ sizeLine ∧ Vals xs its.toList
theorem SqF.sql {K : PySem.W.Frag} {H : Hp} {a : Addr} {xs : List V} (h : SqF K H a xs) : SqL K H a xs := by
  rcases h with h | h
  · exact .inl (.inr h)
  · exact .inr h

mutual
noncomputable def Rep (K : PySem.W.Frag) (H : Hp) : D → V → Prop
  | .non, v => v = .non
  | .bl b, v => v = .bl b
  | .int i, v => v = .int i
  | .str x, v => v = .str x
  | .ty n, v => v = .ty n
  | .ref a, v => v = .ref a
  | .rol ds, v => ∃ a xs, v = .ref a ∧ SqF K H a xs ∧ Reps K H ds xs
  | .tup ds, v => ∃ a xs, v = .ref a ∧ SqT K H a xs ∧ Reps K H ds xs
noncomputable def Reps (K : PySem.W.Frag) (H : Hp) : List D → List V → Prop
  | [], xs => xs = []
  | d :: ds, xs => ∃ x r, xs = x :: r ∧ Rep K H d x ∧ Reps K H ds r
end

structure Grow (K : PySem.W.Frag) (H H' : Hp) : Prop where
  t : ∀ a xs, SqT K H a xs → SqT K H' a xs
  f : ∀ a xs, SqF K H a xs → SqF K H' a xs
theorem Grow.refl {K : PySem.W.Frag} {H : Hp} : Grow K H H := ⟨fun _ _ h => h, fun _ _ h => h⟩
theorem Grow.trans {K : PySem.W.Frag} {H H1 H2 : Hp} (a : Grow K H H1) (b : Grow K H1 H2) : Grow K H H2 := ⟨fun x y h => b.t x y (a.t x y h), fun x y h => b.f x y (a.f x y h)⟩
theorem Grow.put {K : PySem.W.Frag} {H : Hp} {p : Addr} {o : HO} (h1 : ∀ xs, H p ≠ some (.tup xs)) (h2 : ∀ u xs, H p ≠ some (.frz u xs)) : Grow K H (upd H p o) := by
  refine ⟨fun a xs h => ?_, fun a xs h => ?_⟩
  · rcases h with (h | ⟨u, h⟩) | h
    · exact .inl (.inl (by rw [upd_ne (by intro e; subst e; exact h1 _ h)]; exact h))
    · exact .inl (.inr ⟨u, by rw [upd_ne (by intro e; subst e; exact h2 _ _ h)]; exact h⟩)
    · exact .inr h
  · rcases h with ⟨u, h⟩ | h
    · exact .inl ⟨u, by rw [upd_ne (by intro e; subst e; exact h2 _ _ h)]; exact h⟩
    · exact .inr h
theorem Grow.new {K : PySem.W.Frag} {H : Hp} {p : Addr} {o : HO} (h : H p = none) : Grow K H (upd H p o) :=
  .put (fun xs e => by rw [h] at e; cases e) (fun u xs e => by rw [h] at e; cases e)
theorem Grow.lst {K : PySem.W.Frag} {H : Hp} {p : Addr} {o : HO} {xs : List V} (h : H p = some (.lst xs)) : Grow K H (upd H p o) :=
  .put (fun ys e => by rw [h] at e; cases e) (fun u ys e => by rw [h] at e; cases e)

mutual
theorem Rep.mono {K : PySem.W.Frag} {H H' : Hp} (g : Grow K H H') : ∀ {d : D} {v : V}, Rep K H d v → Rep K H' d v
  | .non, _, h => h
  | .bl _, _, h => h
  | .int _, _, h => h
  | .str _, _, h => h
  | .ty _, _, h => h
  | .ref _, _, h => h
  | .rol ds, _, h => by
    rw [Rep] at h ⊢
    obtain ⟨a, xs, e, h1, h2⟩ := h
    exact ⟨a, xs, e, g.f _ _ h1, Reps.mono g h2⟩
  | .tup ds, _, h => by
    rw [Rep] at h ⊢
    obtain ⟨a, xs, e, h1, h2⟩ := h
    exact ⟨a, xs, e, g.t _ _ h1, Reps.mono g h2⟩
theorem Reps.mono {K : PySem.W.Frag} {H H' : Hp} (g : Grow K H H') : ∀ {ds : List D} {xs : List V}, Reps K H ds xs → Reps K H' ds xs
  | [], _, h => h
  | d :: ds, _, h => by
    rw [Reps] at h ⊢
    obtain ⟨x, r, e, h1, h2⟩ := h
    exact ⟨x, r, e, Rep.mono g h1, Reps.mono g h2⟩
end
section
variable {K : PySem.W.Frag} {H H' : Hp}
theorem Reps.nil : Reps K H [] [] := by rw [Reps]
theorem Reps.cons {d : D} {ds : List D} {x : V} {r : List V} (a : Rep K H d x) (b : Reps K H ds r) : Reps K H (d :: ds) (x :: r) := by rw [Reps]; exact ⟨x, r, rfl, a, b⟩
theorem Reps.length : ∀ {ds : List D} {xs : List V}, Reps K H ds xs → ds.length = xs.length
  | [], xs, h => by rw [Reps] at h; subst h; rfl
  | d :: ds, xs, h => by
    rw [Reps] at h
    obtain ⟨x, r, rfl, _, h2⟩ := h
    simp [Reps.length h2]
theorem Reps.get : ∀ {ds : List D} {xs : List V} {i : Nat} {d : D}, Reps K H ds xs → ds[i]? = some d → ∃ x, xs[i]? = some x ∧ Rep K H d x
  | [], _, _, _, _, e => by simp at e
  | _ :: _, xs, 0, _, h, e => by
    rw [Reps] at h
    obtain ⟨x, r, rfl, h1, _⟩ := h
    simp at e; subst e
    exact ⟨x, rfl, h1⟩
  | _ :: ds, xs, i + 1, d, h, e => by
    rw [Reps] at h
    obtain ⟨x, r, rfl, _, h2⟩ := h
    simpa using Reps.get (i := i) (d := d) h2 (by simpa using e)
theorem Reps.set {d : D} {x : V} (a : Rep K H d x) : ∀ {ds : List D} {xs : List V} (i : Nat), Reps K H ds xs → Reps K H (ds.set i d) (xs.set i x)
  | [], _, _, h => by rw [Reps] at h; subst h; simp [Reps.nil]
  | _ :: _, _, 0, h => by
    rw [Reps] at h
    obtain ⟨y, r, rfl, _, h2⟩ := h
    exact .cons a h2
  | _ :: ds, _, i + 1, h => by
    rw [Reps] at h
    obtain ⟨y, r, rfl, h1, h2⟩ := h
    exact .cons h1 (Reps.set a i h2)
theorem Reps.append : ∀ {ds es : List D} {xs ys : List V}, Reps K H ds xs → Reps K H es ys → Reps K H (ds ++ es) (xs ++ ys)
  | [], _, _, _, h, k => by rw [Reps] at h; subst h; exact k
  | _ :: ds, _, _, _, h, k => by
    rw [Reps] at h
    obtain ⟨y, r, rfl, h1, h2⟩ := h
    exact .cons h1 (Reps.append h2 k)
theorem Reps.of_get : ∀ {ds : List D} {xs : List V}, ds.length = xs.length → (∀ (i : Nat) d x, ds[i]? = some d → xs[i]? = some x → Rep K H d x) → Reps K H ds xs
  | [], [], _, _ => .nil
  | [], _ :: _, h, _ => by simp at h
  | _ :: _, [], h, _ => by simp at h
  | d :: ds, x :: xs, h, k => .cons (k 0 d x rfl rfl) (Reps.of_get (by simpa using h) fun i d x a b => k (i + 1) d x (by simpa using a) (by simpa using b))
theorem Reps.take {ds : List D} {xs : List V} (n : Nat) (h : Reps K H ds xs) : Reps K H (ds.take n) (xs.take n) := by
  refine .of_get (by simp [h.length]) fun i d x a b => ?_
  have hi : i < n := by
    rw [List.getElem?_take] at a
    split at a
    · assumption
    · cases a
  rw [List.getElem?_take_of_lt hi] at a b
  obtain ⟨y, e, r⟩ := h.get a
  rw [e] at b; cases b
  exact r
theorem Reps.drop {ds : List D} {xs : List V} (n : Nat) (h : Reps K H ds xs) : Reps K H (ds.drop n) (xs.drop n) := by
  refine .of_get (by simp [h.length]) fun i d x a b => ?_
  rw [List.getElem?_drop] at a b
  obtain ⟨y, e, r⟩ := h.get a
  rw [e] at b; cases b
  exact r
theorem reps_ints : ∀ (ns : List Int), Reps K H (ns.map D.int) (ns.map V.int)
  | [] => .nil
  | n :: ns => .cons (by rw [Rep]) (reps_ints ns)
end

/-! ### the store -/
/-- an error of the class at C -/
noncomputable def errF (a C : Addr) : Heap → Prop := fun h => ∃ o, h.get? a = some o ∧ o.cls = .ref C
inductive MO where
  | lst (ds : List D) | err (C : Addr)
  /-- a dict with tuples of ints as keys: at most n, which ones -/
  | dct (n : Nat) (P : List Int → Bool)
  /-- any other thing, by what is true of it in the store of values -/
  | gen (A : PySem.W.Frag → Hp → Addr → Prop)
noncomputable abbrev MH := Addr → Option MO
noncomputable def AbsO (K : PySem.W.Frag) (H : Hp) (a : Addr) : MO → Prop
  | .lst ds => ∃ xs, H a = some (.lst xs) ∧ Reps K H ds xs
  | .err C => H a = some (.ext (errF a C))
  | .dct n P => ∃ kvs : List (List Key × V), H a = some (.dT kvs) ∧ kvs.length ≤ n ∧ ∀ k : List Int, (kvs.any fun kv => decide (kv.1 = k.map Sum.inl)) = P k
  | .gen A => A K H a ∧ H a ≠ none ∧ ∀ H', Grow K H H' → H' a = H a → A K H' a
noncomputable def Abs (K : PySem.W.Frag) (H : Hp) (M : MH) : Prop := ∀ a o, M a = some o → AbsO K H a o
noncomputable def updM (M : MH) (a : Addr) (o : MO) : MH := fun b => if b = a then some o else M b
theorem updM_same {M : MH} {a : Addr} {o : MO} : updM M a o a = some o := by unfold updM; rw [if_pos rfl]
theorem updM_ne {M : MH} {a b : Addr} {o : MO} (h : b ≠ a) : updM M a o b = M b := by unfold updM; rw [if_neg h]
theorem updM_updM {M : MH} {a : Addr} {o u : MO} : updM (updM M a o) a u = updM M a u := by
  funext b; unfold updM; split <;> rfl
section
variable {K : PySem.W.Frag} {H H' : Hp} {M : MH}
theorem AbsO.some {a : Addr} {o : MO} (h : AbsO K H a o) : H a ≠ none := by
  cases o with
  | lst ds =>
    obtain ⟨xs, h1, _⟩ := h
    rw [h1]; simp
  | err C => rw [show H a = _ from h]; simp
  | dct n P =>
    obtain ⟨kvs, h1, _⟩ := h
    rw [h1]; simp
  | gen A => exact h.2.1
theorem Abs.fresh (h : Abs K H M) {p : Addr} (hp : H p = none) : M p = none := by
  cases e : M p with
  | none => rfl
  | some o => exact absurd hp (h p o e).some
theorem AbsO.stay {a : Addr} {o : MO} (g : Grow K H H') (e : H' a = H a) (h : AbsO K H a o) : AbsO K H' a o := by
  cases o with
  | lst ds =>
    obtain ⟨xs, h1, h2⟩ := h
    exact ⟨xs, e.trans h1, h2.mono g⟩
  | err C => exact e.trans h
  | dct n P =>
    obtain ⟨kvs, h1, h2⟩ := h
    exact ⟨kvs, e.trans h1, h2⟩
  | gen A => exact ⟨h.2.2 H' g e, fun z => h.2.1 (by rw [← e]; exact z), fun H2 g2 e2 => h.2.2 H2 (g.trans g2) (e2.trans e)⟩
theorem Abs.new {p : Addr} {o : HO} (h : Abs K H M) (hp : H p = none) : Abs K (upd H p o) M := fun a u e => by
  have ne : a ≠ p := fun z => by subst z; rw [h.fresh hp] at e; cases e
  exact (h a u e).stay (.new hp) (upd_ne ne)
theorem Abs.newL {p : Addr} {xs : List V} {ds : List D} (h : Abs K H M) (hp : H p = none) (r : Reps K H ds xs) : Abs K (upd H p (.lst xs)) (updM M p (.lst ds)) := fun a u e => by
  by_cases ne : a = p
  · subst ne
    rw [updM_same] at e; cases e
    exact ⟨xs, upd_same, r.mono (.new hp)⟩
  · rw [updM_ne ne] at e
    exact (h a u e).stay (.new hp) (upd_ne ne)
theorem Abs.setL {p : Addr} {xs ys : List V} {ds : List D} (h : Abs K H M) (hp : H p = some (.lst xs)) (r : Reps K H ds ys) : Abs K (upd H p (.lst ys)) (updM M p (.lst ds)) := fun a u e => by
  by_cases ne : a = p
  · subst ne
    rw [updM_same] at e; cases e
    exact ⟨ys, upd_same, r.mono (.lst hp)⟩
  · rw [updM_ne ne] at e
    exact (h a u e).stay (.lst hp) (upd_ne ne)
/-- forget -/
theorem Abs.sub {M' : MH} (h : Abs K H M) (s : ∀ a o, M' a = some o → M a = some o) : Abs K H M' := fun a o e => h a o (s a o e)
end

/-! ### the slots -/
noncomputable abbrev DS := List (Option D)
structure Slots (K : PySem.W.Frag) (H : Hp) (δ : DS) (σ : L2.St) : Prop where
  len : δ.length = σ.length
  at' : ∀ (i : Nat) d, δ[i]? = some (some d) → ∃ v, σ[i]? = some (some v) ∧ Rep K H d v
section
variable {K : PySem.W.Frag} {H H' : Hp} {δ : DS} {σ : L2.St}
theorem Slots.mono (g : Grow K H H') (h : Slots K H δ σ) : Slots K H' δ σ := ⟨h.len, fun i d e => let ⟨v, a, b⟩ := h.at' i d e; ⟨v, a, b.mono g⟩⟩
theorem Slots.set {d : D} {v : V} (r : Rep K H d v) (i : Nat) (h : Slots K H δ σ) : Slots K H (δ.set i (some d)) (σ.set i (some v)) := by
  refine ⟨by simp [h.len], fun j e q => ?_⟩
  rw [List.getElem?_set] at q
  by_cases hij : i = j
  · subst hij
    rw [if_pos rfl] at q
    by_cases hl : i < δ.length
    · rw [if_pos hl] at q
      cases q
      exact ⟨v, by rw [List.getElem?_set, if_pos rfl, if_pos (by rw [← h.len]; exact hl)], r⟩
    · rw [if_neg hl] at q; cases q
  · rw [if_neg hij] at q
    obtain ⟨v', e1, e2⟩ := h.at' j e q
    exact ⟨v', by rw [List.getElem?_set, if_neg hij]; exact e1, e2⟩
theorem slots_start {N : List Str} {ds : List D} {vs : List V} (r : Reps K H ds vs) : Slots K H (ds.map some ++ List.replicate (N.length - ds.length) none) (L2.start N vs) := by
  have hl := r.length
  refine ⟨by unfold L2.start; simp [hl], fun i d e => ?_⟩
  unfold L2.start
  by_cases hi : i < ds.length
  · rw [List.getElem?_append_left (by simpa using hi), List.getElem?_map] at e
    cases q : ds[i]? with
    | none => rw [q] at e; cases e
    | some d' =>
      rw [q] at e; cases e
      obtain ⟨x, e1, e2⟩ := r.get q
      refine ⟨x, ?_, e2⟩
      rw [List.getElem?_append_left (by simp; omega), List.getElem?_map, e1]; rfl
  · rw [List.getElem?_append_right (by simpa using hi), List.getElem?_replicate] at e
    split at e <;> cases e
end

/-! ### the judgements -/
noncomputable abbrev DK := D → MH → Prop
noncomputable abbrev TD := DS → MH → DK → Prop
noncomputable abbrev TTD := DS → MH → (Bool → MH → Prop) → Prop
noncomputable abbrev TAD := DS → MH → (List D → MH → Prop) → Prop
structure EndsD where
  nx : DS → MH → Prop
  rt : DK
  bk : DS → MH → Prop := fun _ _ => False
  ct : DS → MH → Prop := fun _ _ => False
noncomputable abbrev TSD := EndsD → DS → MH → Prop
section
variable (K : PySem.W.Frag)
noncomputable def Fin (H : Hp) (R : DK) (Q : VK) : Prop := ∀ d M' v H', Grow K H H' → Rep K H' d v → Abs K H' M' → R d M' → Q v H'
noncomputable def FinT (H : Hp) (R : Bool → MH → Prop) (Q : Bool → Hp → Prop) : Prop := ∀ b M' H', Grow K H H' → Abs K H' M' → R b M' → Q b H'
noncomputable def FinA (H : Hp) (R : List D → MH → Prop) (Q : List V → Hp → Prop) : Prop := ∀ ds M' vs H', Grow K H H' → Reps K H' ds vs → Abs K H' M' → R ds M' → Q vs H'
noncomputable def lift (t : TD) : TE := fun σ H Q => ∃ δ M R, Slots K H δ σ ∧ Abs K H M ∧ t δ M R ∧ Fin K H R Q
noncomputable def liftT (t : TTD) : TT := fun σ H Q => ∃ δ M R, Slots K H δ σ ∧ Abs K H M ∧ t δ M R ∧ FinT K H R Q
noncomputable def liftA (t : TAD) : TA := fun σ H Q => ∃ δ M R, Slots K H δ σ ∧ Abs K H M ∧ t δ M R ∧ FinA K H R Q
structure EndsOk (H : Hp) (B : EndsD) (E : Ends) : Prop where
  nx : ∀ δ M σ H', Grow K H H' → Slots K H' δ σ → Abs K H' M → B.nx δ M → E.nx σ H'
  rt : ∀ d M v H', Grow K H H' → Rep K H' d v → Abs K H' M → B.rt d M → E.rt v H'
  bk : ∀ δ M σ H', Grow K H H' → Slots K H' δ σ → Abs K H' M → B.bk δ M → E.bk σ H'
  ct : ∀ δ M σ H', Grow K H H' → Slots K H' δ σ → Abs K H' M → B.ct δ M → E.ct σ H'
noncomputable def liftS (t : TSD) : TS := fun E σ H => ∃ δ M, Slots K H δ σ ∧ Abs K H M ∧ ∃ B, EndsOk K H B E ∧ t B δ M
end
noncomputable def DE (X : Cx) (e : Expr) (t : TD) : Prop := PE X e (lift X.K t)
noncomputable def DT (X : Cx) (e : Expr) (t : TTD) : Prop := PT X e (liftT X.K t)
noncomputable def DW (X : Cx) (e : Expr) (t : TTD) : Prop := PW X e (liftT X.K t)
noncomputable def DA (X : Cx) (es : List Expr) (t : TAD) : Prop := PA X es (liftA X.K t)
noncomputable def DSt (X : Cx) (st : Stmt) (t : TSD) : Prop := PS X st (liftS X.K t)
noncomputable def DSs (X : Cx) (st : List Stmt) (t : TSD) : Prop := PSs X st (liftS X.K t)

/-! ### weaker readings -/
theorem pe_imp {X : Cx} {e : Expr} {t t' : TE} (h : PE X e t) (k : ∀ σ H Q, t' σ H Q → t σ H Q) : PE X e t' := fun pins s σ H Q I q => h pins s σ H Q I (k σ H Q q)
theorem pt_imp {X : Cx} {e : Expr} {t t' : TT} (h : PT X e t) (k : ∀ σ H Q, t' σ H Q → t σ H Q) : PT X e t' := fun pins s σ H Q I q => h pins s σ H Q I (k σ H Q q)
theorem pw_imp {X : Cx} {e : Expr} {t t' : TT} (h : PW X e t) (k : ∀ σ H Q, t' σ H Q → t σ H Q) : PW X e t' := fun wh pins s σ H Q I q => h wh pins s σ H Q I (k σ H Q q)
theorem pa_imp {X : Cx} {e : List Expr} {t t' : TA} (h : PA X e t) (k : ∀ σ H Q, t' σ H Q → t σ H Q) : PA X e t' := fun pos pins s σ H Q I q => h pos pins s σ H Q I (k σ H Q q)
theorem ps_imp {X : Cx} {e : Stmt} {t t' : TS} (h : PS X e t) (k : ∀ D σ H, t' D σ H → t D σ H) : PS X e t' := fun pins s σ H D I q => h pins s σ H D I (k D σ H q)
theorem pss_imp {X : Cx} {e : List Stmt} {t t' : TS} (h : PSs X e t) (k : ∀ D σ H, t' D σ H → t D σ H) : PSs X e t' := fun pins s σ H D I q => h pins s σ H D I (k D σ H q)
end SD

set_option Elab.async false
set_option linter.all false
set_option maxRecDepth 100000
namespace SD
open PySem PySem.Spec PyProof.Rows L2
section
variable {K : PySem.W.Frag} {H H1 H' : Hp}
theorem Fin.go {R : DK} {Q : VK} (g : Grow K H H1) (h : Fin K H R Q) : Fin K H1 R Q := fun d M v H' g' => h d M v H' (g.trans g')
theorem FinT.go {R : Bool → MH → Prop} {Q : Bool → Hp → Prop} (g : Grow K H H1) (h : FinT K H R Q) : FinT K H1 R Q := fun b M H' g' => h b M H' (g.trans g')
theorem FinA.go {R : List D → MH → Prop} {Q : List V → Hp → Prop} (g : Grow K H H1) (h : FinA K H R Q) : FinA K H1 R Q := fun d M v H' g' => h d M v H' (g.trans g')
theorem EndsOk.go {B : EndsD} {E : Ends} (g : Grow K H H1) (h : EndsOk K H B E) : EndsOk K H1 B E :=
  ⟨fun d M v H' g' => h.nx d M v H' (g.trans g'), fun d M v H' g' => h.rt d M v H' (g.trans g'), fun d M v H' g' => h.bk d M v H' (g.trans g'), fun d M v H' g' => h.ct d M v H' (g.trans g')⟩
end

/-! ### names, constants -/
section
variable {X : Cx}
noncomputable def tVarD (i : Nat) : TD := fun δ M Q => ∃ d, δ[i]? = some (some d) ∧ Q d M
noncomputable def tCD (d : D) : TD := fun _ M Q => Q d M
theorem dv (i : Nat) {x : Str} {pos : Pos} (hN : X.N[i]? = some x := by rfl) (hv : Vis X.env.scope x := by first | exact Or.inl rfl | exact Or.inr (Or.inl rfl) | exact Or.inr (Or.inr rfl)) (hd : (x == ("__debug__" : Str)) = false := by decide)
    (hcd : (x == ("__classdict__" : Str)) = false := by decide) : DE X (.Name x pos) (tVarD i) :=
  pe_imp (pe_var hN hv hd hcd) fun σ H Q ⟨δ, M, R, hs, hM, ⟨d, e, r⟩, fin⟩ => by
    obtain ⟨v, e1, e2⟩ := hs.at' i d e
    exact ⟨v, e1, fin d M v H .refl e2 hM r⟩
theorem dc {e : Expr} {v : V} {d : D} (h : PE X e (tC v)) (r : ∀ H, Rep X.K H d v) : DE X e (tCD d) :=
  pe_imp h fun σ H Q ⟨δ, M, R, hs, hM, q, fin⟩ => fin d M v H .refl (r H) hM q
theorem de_int {i j pos} : DE X (.Constant (.int i) j pos) (tCD (.int i)) := dc pe_int fun _ => by rw [Rep]
theorem de_bl {i j pos} : DE X (.Constant (.bool i) j pos) (tCD (.bl i)) := dc pe_bl fun _ => by rw [Rep]
theorem de_non {j pos} : DE X (.Constant .none j pos) (tCD .non) := dc pe_non fun _ => by rw [Rep]
theorem de_ty {x : Str} {n : String} {pos : Pos} (hg : Gl X x) (hm : X.mg x = none) (hv : bootBuiltins x = some (.type n)) (hn : x ≠ "__name__" := by decide) (hd : (x == ("__debug__" : Str)) = false := by decide) : DE X (.Name x pos) (tCD (.ty n)) :=
  dc (pe_bltn (v := .ty n) hg hm hv rfl hn hd) fun _ => by rw [Rep]
end

/-! ### two-place operations -/
noncomputable abbrev R2D := D → D → MH → DK → Prop
noncomputable def liftR2 (K : PySem.W.Frag) (r : R2D) : R2 := fun v u H Q => ∃ x y M R, Rep K H x v ∧ Rep K H y u ∧ Abs K H M ∧ r x y M R ∧ Fin K H R Q
noncomputable def OpD (X : Cx) (f : Value → Value → Sem Value) (r : R2D) : Prop := OpR X f (liftR2 X.K r)
noncomputable def tOpD (r : R2D) (ta tb : TD) : TD := fun δ M Q => ta δ M fun x M1 => tb δ M1 fun y M2 => r x y M2 Q
theorem op_imp {X : Cx} {f : Value → Value → Sem Value} {r r' : R2} (h : OpR X f r) (k : ∀ x y H Q, r' x y H Q → r x y H Q) : OpR X f r' := fun pins s σ H x y v u Q I a b q => h pins s σ H x y v u Q I a b (k _ _ _ _ q)
theorem lift_op {K : PySem.W.Frag} {r : R2D} {ta tb : TD} {σ : L2.St} {H : Hp} {Q : VK} (h : lift K (tOpD r ta tb) σ H Q) : tOp (liftR2 K r) (lift K ta) (lift K tb) σ H Q := by
  obtain ⟨δ, M, R, hs, hM, q, fin⟩ := h
  refine ⟨δ, M, _, hs, hM, q, fun x M1 v H1 g1 r1 a1 q1 => ?_⟩
  exact ⟨δ, M1, _, hs.mono g1, a1, q1, fun y M2 u H2 g2 r2 a2 q2 => ⟨x, y, M2, R, r1.mono g2, r2, a2, q2, fin.go (g1.trans g2)⟩⟩
section
variable {X : Cx} {a b : Expr} {ta tb : TD} {pos : Pos}
theorem de_op {op : Operator} {r : R2D} (ho : OpD X (binaryOp op) r) (ha : DE X a ta) (hb : DE X b tb) : DE X (.BinOp a op b pos) (tOpD r ta tb) := pe_imp (pe_op ho ha hb) fun _ _ _ h => lift_op h
theorem de_cmp {op : CmpOp} {r : R2D} (ho : OpD X (compareOp op) r) (ha : DE X a ta) (hb : DE X b tb) (hm : behindInMarks op b = false := by exact nomark _) : DE X (.Compare a [op] [b] pos) (tOpD r ta tb) := pe_imp (pe_cmpR ho ha hb hm) fun _ _ _ h => lift_op h
/-- a value as a test -/
noncomputable def tBD (t : TD) : TTD := fun δ M Q => t δ M fun x M1 => ∃ c, x = .bl c ∧ Q c M1
theorem lift_test {K : PySem.W.Frag} {t : TD} {t' : TE} (ht : ∀ σ H Q, lift K t σ H Q → t' σ H Q) {σ : L2.St} {H : Hp} {Q : Bool → Hp → Prop} (h : liftT K (tBD t) σ H Q) : tTest t' σ H Q := by
  obtain ⟨δ, M, R, hs, hM, q, fin⟩ := h
  refine ht _ _ _ ⟨δ, M, _, hs, hM, q, fun x M1 v H1 g1 r1 a1 ⟨c, e, q1⟩ => ?_⟩
  subst e
  rw [Rep] at r1
  exact ⟨c, r1, fin c M1 H1 g1 a1 q1⟩
theorem dt_cmp {op : CmpOp} {r : R2D} (ho : OpD X (compareOp op) r) (ha : DE X a ta) (hb : DE X b tb) (hm : behindInMarks op b = false := by exact nomark _) : DT X (.Compare a [op] [b] pos) (tBD (tOpD r ta tb)) :=
  pt_imp (pt_cmpR ho ha hb hm) fun _ _ _ h => lift_test (fun _ _ _ h => lift_op h) h
theorem dt_val {e : Expr} {t : TD} (h : DE X e t) (he : ∀ whole, isTrue e X.env whole = (do let v ← whole; standAt e.pos; holding [v] (truthy v)) := by intro _; rfl) : DT X e (tBD t) :=
  pt_imp (pt_val h he) fun _ _ _ h => lift_test (t' := lift X.K t) (fun _ _ _ h => h) h
end

/-! ### and, or, not, if-else -/
section
variable {X : Cx} {a b c : Expr} {ta tb : TD} {tA tB' : TTD} {rest : List Expr} {pos : Pos}
noncomputable def tAndD (t u : TTD) : TTD := fun δ M Q => t δ M fun c M1 => if c = true then u δ M1 Q else Q false M1
noncomputable def tOrD (t u : TTD) : TTD := fun δ M Q => t δ M fun c M1 => if c = true then Q true M1 else u δ M1 Q
noncomputable def tNotD (t : TTD) : TTD := fun δ M Q => t δ M fun c M1 => Q (!c) M1
theorem dw_and1 (ha : DT X a tA) : DW X (.BoolOp .And [a] pos) tA := pw_and1 ha
theorem dw_or1 (ha : DT X a tA) : DW X (.BoolOp .Or [a] pos) tA := pw_or1 ha
theorem dw_and (ha : DT X a tA) (hb : DW X (.BoolOp .And (b :: rest) pos) tB') : DW X (.BoolOp .And (a :: b :: rest) pos) (tAndD tA tB') :=
  pw_imp (pw_and ha hb) fun σ H Q ⟨δ, M, R, hs, hM, q, fin⟩ => ⟨δ, M, _, hs, hM, q, fun c M1 H1 g1 a1 q1 => by
    cases c with
    | true => rw [if_pos rfl] at q1 ⊢; exact ⟨δ, M1, R, hs.mono g1, a1, q1, fin.go g1⟩
    | false => rw [if_neg Bool.false_ne_true] at q1 ⊢; exact fin _ _ _ g1 a1 q1⟩
theorem dw_or (ha : DT X a tA) (hb : DW X (.BoolOp .Or (b :: rest) pos) tB') : DW X (.BoolOp .Or (a :: b :: rest) pos) (tOrD tA tB') :=
  pw_imp (pw_or ha hb) fun σ H Q ⟨δ, M, R, hs, hM, q, fin⟩ => ⟨δ, M, _, hs, hM, q, fun c M1 H1 g1 a1 q1 => by
    cases c with
    | true => rw [if_pos rfl] at q1 ⊢; exact fin _ _ _ g1 a1 q1
    | false => rw [if_neg Bool.false_ne_true] at q1 ⊢; exact ⟨δ, M1, R, hs.mono g1, a1, q1, fin.go g1⟩⟩
theorem dt_w {e : Expr} {t : TTD} (h : DW X e t) : DT X e t := PW.pt h
noncomputable def tAndVD (ta tb : TD) : TD := fun δ M Q => ta δ M fun x M1 => ∃ c, x = .bl c ∧ if c = true then tb δ M1 Q else Q (.bl false) M1
noncomputable def tOrVD (ta tb : TD) : TD := fun δ M Q => ta δ M fun x M1 => ∃ c, x = .bl c ∧ if c = true then Q (.bl true) M1 else tb δ M1 Q
noncomputable def tNotVD (ta : TD) : TD := fun δ M Q => ta δ M fun x M1 => ∃ c, x = .bl c ∧ Q (.bl (!c)) M1
theorem de_one {op} {t : TD} (h : DE X a t) : DE X (.BoolOp op [a] pos) t := pe_one h
theorem de_and (ha : DE X a ta) (hb : DE X (.BoolOp .And (b :: rest) pos) tb) : DE X (.BoolOp .And (a :: b :: rest) pos) (tAndVD ta tb) :=
  pe_imp (pe_and ha hb) fun σ H Q ⟨δ, M, R, hs, hM, q, fin⟩ => ⟨δ, M, _, hs, hM, q, fun x M1 v H1 g1 r1 a1 ⟨c, e, q1⟩ => by
    subst e
    rw [Rep] at r1
    refine ⟨c, r1, ?_⟩
    cases c with
    | true => rw [if_pos rfl] at q1 ⊢; exact ⟨δ, M1, R, hs.mono g1, a1, q1, fin.go g1⟩
    | false => rw [if_neg Bool.false_ne_true] at q1 ⊢; exact fin _ _ _ _ g1 (by rw [Rep]) a1 q1⟩
theorem de_or (ha : DE X a ta) (hb : DE X (.BoolOp .Or (b :: rest) pos) tb) : DE X (.BoolOp .Or (a :: b :: rest) pos) (tOrVD ta tb) :=
  pe_imp (pe_or ha hb) fun σ H Q ⟨δ, M, R, hs, hM, q, fin⟩ => ⟨δ, M, _, hs, hM, q, fun x M1 v H1 g1 r1 a1 ⟨c, e, q1⟩ => by
    subst e
    rw [Rep] at r1
    refine ⟨c, r1, ?_⟩
    cases c with
    | true => rw [if_pos rfl] at q1 ⊢; exact fin _ _ _ _ g1 (by rw [Rep]) a1 q1
    | false => rw [if_neg Bool.false_ne_true] at q1 ⊢; exact ⟨δ, M1, R, hs.mono g1, a1, q1, fin.go g1⟩⟩
noncomputable def tIfD (t : TTD) (ta tb : TD) : TD := fun δ M Q => t δ M fun c M1 => if c = true then ta δ M1 Q else tb δ M1 Q
theorem de_ife (hc : DT X c tA) (ha : DE X a ta) (hb : DE X b tb) : DE X (.IfExp c a b pos) (tIfD tA ta tb) :=
  pe_imp (pe_ifExp hc ha hb) fun σ H Q ⟨δ, M, R, hs, hM, q, fin⟩ => ⟨δ, M, _, hs, hM, q, fun c M1 H1 g1 a1 q1 => by
    cases c with
    | true => rw [if_pos rfl] at q1 ⊢; exact ⟨δ, M1, R, hs.mono g1, a1, q1, fin.go g1⟩
    | false => rw [if_neg Bool.false_ne_true] at q1 ⊢; exact ⟨δ, M1, R, hs.mono g1, a1, q1, fin.go g1⟩⟩
end

/-! ### one-place operations -/
noncomputable def tUnD (r : D → MH → DK → Prop) (ta : TD) : TD := fun δ M Q => ta δ M fun x M1 => r x M1 Q
noncomputable def liftU (K : PySem.W.Frag) (r : D → MH → DK → Prop) : V → Hp → VK → Prop := fun v H Q => ∃ x M R, Rep K H x v ∧ Abs K H M ∧ r x M R ∧ Fin K H R Q
theorem de_un {X : Cx} {a : Expr} {ta : TD} {pos : Pos} {op : UnaryOp} {r : D → MH → DK → Prop} (ho : UnR X (unaryOp op) (liftU X.K r)) (ha : DE X a ta) : DE X (.UnaryOp op a pos) (tUnD r ta) :=
  pe_imp (pe_un ho ha) fun σ H Q ⟨δ, M, R, hs, hM, q, fin⟩ => ⟨δ, M, _, hs, hM, q, fun x M1 v H1 g1 r1 a1 q1 => ⟨x, M1, R, r1, a1, q1, fin.go g1⟩⟩

/-! ### argument lists, displays -/
noncomputable def tNilD : TAD := fun _ M Q => Q [] M
noncomputable def tConsD (ta : TD) (tr : TAD) : TAD := fun δ M Q => ta δ M fun x M1 => tr δ M1 fun xs M2 => Q (x :: xs) M2
section
variable {X : Cx} {e : Expr} {es : List Expr} {te : TD} {t : TAD} {pos : Pos}
theorem da_nil : DA X [] tNilD := pa_imp pa_nil fun σ H Q ⟨δ, M, R, hs, hM, q, fin⟩ => fin _ _ _ _ .refl .nil hM q
theorem da_cons (ha : DE X e te) (hr : DA X es t) (hs : starEach (e :: es) X.env = (false, eval e X.env) :: starEach es X.env := by rfl) : DA X (e :: es) (tConsD te t) :=
  pa_imp (pa_cons ha hr hs) fun σ H Q ⟨δ, M, R, hs, hM, q, fin⟩ => ⟨δ, M, _, hs, hM, q, fun x M1 v H1 g1 r1 a1 q1 =>
    ⟨δ, M1, _, hs.mono g1, a1, q1, fun xs M2 vs H2 g2 r2 a2 q2 => fin _ _ _ _ (g1.trans g2) (.cons (r1.mono g2) r2) a2 q2⟩⟩
noncomputable def tTupD (t : TAD) : TD := fun δ M Q => t δ M fun xs M1 => xs.length ≤ sizeLine ∧ Q (.tup xs) M1
noncomputable def tLstD (t : TAD) : TD := fun δ M Q => t δ M fun xs M1 => xs.length ≤ sizeLine ∧ ∀ p, M1 p = none → Q (.ref p) (updM M1 p (.lst xs))
theorem de_tup {x1} (h : DA X es t) : DE X (.Tuple es x1 pos) (tTupD t) :=
  pe_imp (pe_tup h) fun σ H Q ⟨δ, M, R, hs, hM, q, fin⟩ => ⟨δ, M, _, hs, hM, q, fun xs M1 vs H1 g1 r1 a1 ⟨z, q1⟩ =>
    ⟨by rw [← r1.length]; exact z, fun p hp => fin _ _ _ _ (g1.trans (.new hp)) (by rw [Rep]; exact ⟨p, vs, rfl, SqT.of upd_same, r1.mono (.new hp)⟩) (a1.new hp) q1⟩⟩
theorem de_lst (h : DA X es t) : DE X (.List es pos) (tLstD t) :=
  pe_imp (pe_lst h) fun σ H Q ⟨δ, M, R, hs, hM, q, fin⟩ => ⟨δ, M, _, hs, hM, q, fun xs M1 vs H1 g1 r1 a1 ⟨z, q1⟩ =>
    ⟨by rw [← r1.length]; exact z, fun p hp => fin _ _ _ _ (g1.trans (.new hp)) (by rw [Rep]) (a1.newL hp r1) (q1 p (a1.fresh hp))⟩⟩
end

/-! ### subscripts -/
noncomputable def IxD (X : Cx) (r : R2D) : Prop := IxR X (liftR2 X.K r)
theorem ix_imp {X : Cx} {r r' : R2} (h : IxR X r) (k : ∀ x y H Q, r' x y H Q → r x y H Q) : IxR X r' := fun e1 e2 pins s σ H x y v u Q I a b q => h e1 e2 pins s σ H x y v u Q I a b (k _ _ _ _ q)
theorem de_ixR {X : Cx} {a b : Expr} {ta tb : TD} {pos : Pos} {r : R2D} (hr : IxD X r) (ha : DE X a ta) (hb : DE X b tb) (hs : PlainIx b) : DE X (.Subscript a b pos) (tOpD r ta tb) := pe_imp (pe_ix hr ha hb hs) fun _ _ _ h => lift_op h
noncomputable def rIxD : R2D := fun x y M Q => match x, y with
  | .tup ds, .int i => ∃ d, atI ds i = some d ∧ Q d M
  | .rol ds, .int i => ∃ d, atI ds i = some d ∧ Q d M
  | .ref a, .int i => ∃ ds d, M a = some (.lst ds) ∧ atI ds i = some d ∧ Q d M
  | _, _ => False
theorem Reps.atI {K : PySem.W.Frag} {H : Hp} {ds : List D} {xs : List V} {i : Int} {d : D} (h : Reps K H ds xs) (e : L2.atI ds i = some d) : ∃ x, L2.atI xs i = some x ∧ Rep K H d x := by
  unfold L2.atI at e ⊢
  rw [← h.length]
  cases q : ixN ds.length i with
  | none => rw [q] at e; cases e
  | some j =>
    rw [q] at e
    exact h.get e
theorem rIxD_lift {K : PySem.W.Frag} {v u : V} {H : Hp} {Q : VK} (h : liftR2 K rIxD v u H Q) : rIx K v u H Q := by
  obtain ⟨x, y, M, R, r1, r2, a, q, fin⟩ := h
  unfold rIxD at q
  split at q
  · obtain ⟨d, e, q⟩ := q
    obtain rfl : u = .int _ := r2
    rw [Rep] at r1
    obtain ⟨p, xs, rfl, hq, rs⟩ := r1
    obtain ⟨x, e1, e2⟩ := rs.atI e
    exact .inr (.inl ⟨p, xs, _, x, rfl, rfl, hq, e1, fin _ _ _ _ .refl e2 a q⟩)
  · obtain ⟨d, e, q⟩ := q
    obtain rfl : u = .int _ := r2
    rw [Rep] at r1
    obtain ⟨p, xs, rfl, hq, rs⟩ := r1
    obtain ⟨x, e1, e2⟩ := rs.atI e
    exact .inl ⟨p, xs, _, x, rfl, rfl, hq.sql, e1, fin _ _ _ _ .refl e2 a q⟩
  · obtain ⟨ds, d, e0, e, q⟩ := q
    obtain rfl : u = .int _ := r2
    obtain rfl : v = .ref _ := r1
    obtain ⟨xs, hx, rs⟩ := a _ _ e0
    obtain ⟨x, e1, e2⟩ := rs.atI e
    exact .inl ⟨_, xs, _, x, rfl, rfl, SqL.of hx, e1, fin _ _ _ _ .refl e2 a q⟩
  · exact q.elim
theorem de_ix {X : Cx} {a b : Expr} {ta tb : TD} {pos : Pos} (ha : DE X a ta) (hb : DE X b tb) (hs : PlainIx b := by exact fun _ _ => rfl) : DE X (.Subscript a b pos) (tOpD rIxD ta tb) := de_ixR (ix_imp ix_seq fun _ _ _ _ h => rIxD_lift h) ha hb hs
end SD

set_option Elab.async false
set_option linter.all false
set_option maxRecDepth 100000
namespace SD
open PySem PySem.Spec PyProof.Rows L2

/-! ### how great a number is -/
noncomputable def Bd (n : Nat) (i : Int) : Prop := i.natAbs < 2 ^ n
noncomputable instance (n : Nat) (i : Int) : Decidable (Bd n i) := inferInstanceAs (Decidable (i.natAbs < 2 ^ n))
theorem Bd.mono {m n : Nat} {i : Int} (h : Bd m i) (l : m ≤ n) : Bd n i := Nat.lt_of_lt_of_le h (Nat.pow_le_pow_right (by decide) l)
theorem Bd.bits {n : Nat} {i : Int} (h : Bd n i) : Builtin.Int.intBits i ≤ n := by
  unfold Builtin.Int.intBits
  split
  · exact Nat.zero_le _
  · rename_i hz
    have h0 : i.natAbs ≠ 0 := fun e => hz (by simpa using Int.natAbs_eq_zero.mp e)
    exact (Nat.log2_lt h0).mpr h
theorem Bd.log2 {n : Nat} {i : Int} (h : Bd n i) (hn : 0 < n) : i.natAbs.log2 < n := by
  by_cases h0 : i.natAbs = 0
  · rw [h0]; simpa using hn
  · exact (Nat.log2_lt h0).mpr h
theorem Bd.mul {m n : Nat} {i j : Int} (a : Bd m i) (b : Bd n j) : Bd (m + n) (i * j) := by
  unfold Bd at *
  rw [Int.natAbs_mul, Nat.pow_add]
  exact Nat.mul_lt_mul'' a b
theorem Bd.add {n : Nat} {i j : Int} (a : Bd n i) (b : Bd n j) : Bd (n + 1) (i + j) := by
  unfold Bd at *
  rw [Nat.pow_succ]
  have := Int.natAbs_add_le i j
  omega
theorem Bd.sub {n : Nat} {i j : Int} (a : Bd n i) (b : Bd n j) : Bd (n + 1) (i - j) := by
  unfold Bd at *
  rw [Nat.pow_succ]
  have := Int.natAbs_sub_le i j
  omega
theorem Bd.neg {n : Nat} {i : Int} (a : Bd n i) : Bd n (-i) := by
  unfold Bd at *
  rw [Int.natAbs_neg]; exact a
theorem Bd.of_le {n : Nat} {i j : Int} (a : Bd n i) (b : j.natAbs ≤ i.natAbs) : Bd n j := Nat.lt_of_le_of_lt b a
theorem bd64 {n : Nat} {i : Int} (h : i.natAbs < 2 ^ 64) (l : 64 ≤ n := by decide) : Bd n i := Bd.mono (m := 64) h l
theorem mulOk {i j : Int} (a : Bd 1000000 i) (b : Bd 1000000 j) : IntMulOk i j := .of_bits (Nat.le_trans a.bits (by decide)) (Nat.le_trans b.bits (by decide))
theorem mulOk_l {i j : Int} (a : Bd 64 i) : IntMulOk i j := .of_left a.bits
theorem mulOk_r {i j : Int} (a : Bd 64 j) : IntMulOk i j := .of_right a.bits

/-! ### ints -/
noncomputable def rI2 (C : Int → Int → Prop) (g : Int → Int → D) : R2D := fun x y M Q => match x, y with
  | .int i, .int j => C i j ∧ Q (g i j) M
  | _, _ => False
section
variable {X : Cx}
theorem opd_int {f : Value → Value → Sem Value} {C : Int → Int → Prop} {g : Int → Int → V} {g' : Int → Int → D} (h : OpR X f (rI C g)) (e : ∀ i j H, Rep X.K H (g' i j) (g i j)) : OpD X f (rI2 C g') :=
  op_imp h fun v u H Q ⟨x, y, M, R, r1, r2, a, q, fin⟩ => by
    unfold rI2 at q
    split at q
    · obtain rfl : v = .int _ := r1
      obtain rfl : u = .int _ := r2
      exact ⟨_, _, rfl, rfl, q.1, fin _ _ _ _ .refl (e _ _ _) a q.2⟩
    · exact q.elim
theorem ri0 {f : Value → Value → Sem Value} {g : Int → Int → V} (h : OpR X f (rI0 g)) : OpR X f (rI (fun _ _ => True) g) := op_imp h fun x y H Q ⟨i, j, a, b, _, q⟩ => ⟨i, j, a, b, q⟩
noncomputable def rSubD : R2D := rI2 (fun _ _ => True) fun i j => .int (i - j)
noncomputable def rMulD : R2D := rI2 IntMulOk fun i j => .int (i * j)
noncomputable def CFd (i j : Int) : Prop := j ≠ 0 ∧ Bd 8000 j
noncomputable def rFdD : R2D := rI2 CFd fun i j => .int (i.fdiv j)
noncomputable def rModD : R2D := rI2 (fun _ j => j ≠ 0) fun i j => .int (i.fmod j)
noncomputable def rPowD : R2D := rI2 CPow fun i j => .int (i ^ j.toNat)
noncomputable def rLtD : R2D := rI2 (fun _ _ => True) fun i j => .bl (decide (i < j))
noncomputable def rLeD : R2D := rI2 (fun _ _ => True) fun i j => .bl (decide (i ≤ j))
noncomputable def rGtD : R2D := rI2 (fun _ _ => True) fun i j => .bl (decide (j < i))
noncomputable def rGeD : R2D := rI2 (fun _ _ => True) fun i j => .bl (decide (j ≤ i))
theorem od_sub : OpD X (binaryOp .Sub) rSubD := opd_int (ri0 op_sub) fun _ _ _ => by rw [Rep]
theorem od_mul : OpD X (binaryOp .Mult) rMulD := opd_int (opI fun _ _ _ _ _ _ _ hc q => mul_int q hc) fun _ _ _ => by rw [Rep]
theorem od_fd : OpD X (binaryOp .FloorDiv) rFdD := opd_int (opI fun _ _ _ _ _ _ _ hc q => floordiv_int hc.1 q (.inl (PyProof.noPylong_of_log2 (Nat.lt_trans (hc.2.log2 (by decide)) (by decide))))) fun _ _ _ => by rw [Rep]
theorem od_mod : OpD X (binaryOp .Mod) rModD := opd_int op_modN fun _ _ _ => by rw [Rep]
theorem od_pow : OpD X (binaryOp .Pow) rPowD := opd_int op_pow fun _ _ _ => by rw [Rep]
theorem od_lt : OpD X (compareOp .Lt) rLtD := opd_int (ri0 op_lt) fun _ _ _ => by rw [Rep]
theorem od_le : OpD X (compareOp .LtE) rLeD := opd_int (ri0 op_le) fun _ _ _ => by rw [Rep]
theorem od_gt : OpD X (compareOp .Gt) rGtD := opd_int (ri0 op_gt) fun _ _ _ => by rw [Rep]
theorem od_ge : OpD X (compareOp .GtE) rGeD := opd_int (ri0 op_ge) fun _ _ _ => by rw [Rep]
noncomputable def rNegD : D → MH → DK → Prop := fun x M Q => match x with
  | .int i => Q (.int (-i)) M
  | _ => False
theorem un_negD : UnR X (unaryOp .USub) (liftU X.K rNegD) := fun pins s σ H x v Q I r ⟨d, M, R, r1, a, q, fin⟩ => un_neg pins s σ H x v Q I r (by
  unfold rNegD at q
  split at q
  · obtain rfl : x = .int _ := r1
    exact ⟨_, rfl, fin _ _ _ _ .refl (by rw [Rep]) a q⟩
  · exact q.elim)
/-- +: ints, tuples, lists -/
noncomputable def rAddD : R2D := fun x y M Q => match x, y with
  | .int i, .int j => Q (.int (i + j)) M
  | .tup a, .tup b => a ≠ [] ∧ a.length + b.length ≤ sizeLine ∧ Q (.tup (a ++ b)) M
  | .ref a, .ref b => ∃ xs ys, M a = some (.lst xs) ∧ M b = some (.lst ys) ∧ xs.length + ys.length ≤ sizeLine ∧ ∀ p, M p = none → Q (.ref p) (updM M p (.lst (xs ++ ys)))
  | _, _ => False
theorem od_add : OpD X (binaryOp .Add) rAddD := op_imp (op_add.or (op_catT.or op_cat)) fun v u H Q ⟨x, y, M, R, r1, r2, a, q, fin⟩ => by
  unfold rAddD at q
  split at q
  · obtain rfl : v = .int _ := r1
    obtain rfl : u = .int _ := r2
    exact .inl ⟨_, _, rfl, rfl, fin _ _ _ _ .refl (by rw [Rep]) a q⟩
  · rename_i da db
    obtain ⟨hn, hl, q⟩ := q
    rw [Rep] at r1
    obtain ⟨p, xs, rfl, hx, rx⟩ := r1
    obtain ⟨p', ys, rfl, hy, ry⟩ : ∃ a xs, u = V.ref a ∧ SqT X.K H a xs ∧ Reps X.K H db xs := by rw [Rep] at r2; exact r2
    have l1 := rx.length
    have l2 := ry.length
    refine .inr (.inl ⟨p, p', xs, ys, rfl, rfl, hx, hy, ?_, by omega, fun e => ?_, fun _ z hz => ?_⟩)
    · intro e; subst e; exact hn (List.length_eq_zero_iff.mp (by simpa using l1))
    · subst e
      obtain rfl : db = [] := List.length_eq_zero_iff.mp (by simpa using l2)
      exact fin _ _ _ _ .refl (by rw [Rep, List.append_nil]; exact ⟨p, xs, rfl, hx, rx⟩) a q
    · exact fin _ _ _ _ (.new hz) (by rw [Rep]; exact ⟨z, _, rfl, SqT.of upd_same, (rx.append ry).mono (.new hz)⟩) (a.new hz) q
  · obtain ⟨ds, es, e1, e2, hl, q⟩ := q
    obtain rfl : v = .ref _ := r1
    obtain rfl : u = .ref _ := r2
    obtain ⟨xs, hx, rx⟩ := a _ _ e1
    obtain ⟨ys, hy, ry⟩ := a _ _ e2
    have l1 := rx.length
    have l2 := ry.length
    exact .inr (.inr ⟨_, _, xs, ys, rfl, rfl, hx, hy, by omega, fun z hz => fin _ _ _ _ (.new hz) (by rw [Rep]) (a.newL hz (rx.append ry)) (q z (a.fresh hz))⟩)
  · exact q.elim
end

/-! ### equality -/
mutual
inductive Pd (M : MH) : D → PyData → Prop
  | non : Pd M .non .none
  | bl (b : Bool) : Pd M (.bl b) (.bool b)
  | int (i : Int) : Pd M (.int i) (.int i)
  | str (x : Str) : Pd M (.str x) (.str x)
  | tup {ds : List D} {ps : List PyData} : Pds M ds ps → Pd M (.tup ds) (.tuple ps)
  | rol {ds : List D} {ps : List PyData} : Pds M ds ps → Pd M (.rol ds) (.list ps)
  | lst {a : Addr} {ds : List D} {ps : List PyData} : M a = some (.lst ds) → Pds M ds ps → Pd M (.ref a) (.list ps)
inductive Pds (M : MH) : List D → List PyData → Prop
  | nil : Pds M [] []
  | cons {d : D} {ds : List D} {p : PyData} {ps : List PyData} : Pd M d p → Pds M ds ps → Pds M (d :: ds) (p :: ps)
end
mutual
noncomputable def pdO : D → Option PyData
  | .non => some .none
  | .bl b => some (.bool b)
  | .int i => some (.int i)
  | .str x => some (.str x)
  | .tup ds => match pdsO ds with
    | some ps => some (.tuple ps)
    | none => none
  | _ => none
noncomputable def pdsO : List D → Option (List PyData)
  | [] => some []
  | d :: ds => match pdO d, pdsO ds with
    | some p, some ps => some (p :: ps)
    | _, _ => none
end
mutual
theorem Pd.of {M : MH} : ∀ {d : D} {p : PyData}, pdO d = some p → Pd M d p
  | .non, p, h => by rw [pdO] at h; cases h; exact .non
  | .bl b, p, h => by rw [pdO] at h; cases h; exact .bl b
  | .int i, p, h => by rw [pdO] at h; cases h; exact .int i
  | .str x, p, h => by rw [pdO] at h; cases h; exact .str x
  | .ty _, p, h => by simp [pdO] at h
  | .ref _, p, h => by simp [pdO] at h
  | .rol _, p, h => by simp [pdO] at h
  | .tup ds, p, h => by
    rw [pdO] at h
    cases e : pdsO ds with
    | none => rw [e] at h; cases h
    | some ps => rw [e] at h; cases h; exact .tup (Pds.of e)
theorem Pds.of {M : MH} : ∀ {ds : List D} {ps : List PyData}, pdsO ds = some ps → Pds M ds ps
  | [], ps, h => by rw [pdsO] at h; cases h; exact .nil
  | d :: ds, ps, h => by
    rw [pdsO] at h
    cases e1 : pdO d with
    | none => rw [e1] at h; cases h
    | some p =>
      cases e2 : pdsO ds with
      | none => rw [e1, e2] at h; cases h
      | some qs => rw [e1, e2] at h; cases h; exact .cons (Pd.of e1) (Pds.of e2)
end
section
variable {X : Cx} {pins : List (Addr × Obj)} {σ : L2.St} {H : Hp} {s : Shared} {M : MH}
mutual
theorem pd_reads (I : Inv X pins σ H s) (hM : Abs X.K H M) : ∀ {d : D} {p : PyData} {v : V} {u : Value}, Pd M d p → Rep X.K H d v → L2.RelV v u → ∃ as, Reads s.heap u p as
  | _, _, _, _, .non, r, e => by rw [Rep] at r; subst r; cases e; exact ⟨_, .none⟩
  | _, _, _, _, .bl b, r, e => by rw [Rep] at r; subst r; cases e; exact ⟨_, .bool b⟩
  | _, _, _, _, .int i, r, e => by rw [Rep] at r; subst r; obtain ⟨t, rfl⟩ := e; exact ⟨_, .int i t⟩
  | _, _, _, _, .str x, r, e => by rw [Rep] at r; subst r; obtain ⟨t, rfl⟩ := e; exact ⟨_, .str x t⟩
  | _, _, _, _, .tup hp, r, e => by
    rw [Rep] at r
    obtain ⟨a, xs, rfl, hq, rs⟩ := r
    cases e
    obtain ⟨its, rv, ⟨o, h1, h2, n, h3⟩, _⟩ := I.tuple hq
    obtain ⟨as, hh⟩ := pds_reads I hM hp rs rv
    exact ⟨as, reads_tuple_at h1 h2 h3 (by simpa using hh)⟩
  | _, _, _, _, .rol hp, r, e => by
    rw [Rep] at r
    obtain ⟨a, xs, rfl, hq, rs⟩ := r
    cases e
    obtain ⟨its, rv, ⟨o, n, h1, h2, _, h3⟩, _⟩ := I.list hq.sql
    obtain ⟨as, hh⟩ := pds_reads I hM hp rs rv
    exact ⟨_, reads_list_at h1 h2 h3 (by simpa using hh)⟩
  | _, _, _, _, .lst ha hp, r, e => by
    rw [Rep] at r
    subst r
    cases e
    obtain ⟨xs, hx, rs⟩ := hM _ _ ha
    obtain ⟨its, rv, ⟨o, n, h1, h2, _, h3⟩, _⟩ := I.list (SqL.of hx)
    obtain ⟨as, hh⟩ := pds_reads I hM hp rs rv
    exact ⟨_, reads_list_at h1 h2 h3 (by simpa using hh)⟩
theorem pds_reads (I : Inv X pins σ H s) (hM : Abs X.K H M) : ∀ {ds : List D} {ps : List PyData} {vs : List V} {us : List Value}, Pds M ds ps → Reps X.K H ds vs → Vals vs us → ∃ as, ReadsAll s.heap us ps as
  | _, _, _, _, .nil, r, e => by rw [Reps] at r; subst r; cases e; exact ⟨_, .nil⟩
  | _, _, _, _, .cons h1 h2, r, e => by
    rw [Reps] at r
    obtain ⟨x, r, rfl, r1, r2⟩ := r
    cases e with
    | cons e1 e2 =>
      obtain ⟨as, q1⟩ := pd_reads I hM h1 r1 e1
      obtain ⟨bs, q2⟩ := pds_reads I hM h2 r2 e2
      exact ⟨_, .cons q1 q2⟩
end
end
noncomputable def rEqG (g : Bool → Bool) : R2D := fun x y M Q => ∃ p q, Pd M x p ∧ Pd M y q ∧ SeqAt.shaped p = true ∧ SeqAt.shaped q = true ∧ Q (.bl (g (PyData.eqv p q))) M
noncomputable def rEqD : R2D := fun x y M Q => match x, y with
  | .int i, .int j => Q (.bl (decide (i = j))) M
  | .bl i, .bl j => Q (.bl (decide (i = j))) M
  | x, y => rEqG (fun b => b) x y M Q
noncomputable def rNeD : R2D := fun x y M Q => match x, y with
  | .int i, .int j => Q (.bl (!decide (i = j))) M
  | .bl i, .bl j => Q (.bl (!decide (i = j))) M
  | x, y => rEqG (fun b => !b) x y M Q
section
variable {X : Cx}
theorem od_eqG (hu : X.A.units + 64 < cLine) : OpD X (compareOp .Eq) (rEqG fun b => b) := by
  intro pins s σ H v u v' u' Q I rv ru h
  obtain ⟨x, y, M, R, r1, r2, a, ⟨p, q, p1, p2, s1, s2, hq⟩, fin⟩ := h
  obtain ⟨as, q1⟩ := pd_reads I a p1 r1 rv
  obtain ⟨bs, q2⟩ := pd_reads I a p2 r2 ru
  exact eq_dataH q1 q2 s1 s2 hu ⟨.bl _, H, I, rfl, fin _ _ _ _ .refl (by rw [Rep]) a hq⟩
theorem od_neG (hu : X.A.units + 64 < cLine) : OpD X (compareOp .NotEq) (rEqG fun b => !b) := by
  intro pins s σ H v u v' u' Q I rv ru h
  obtain ⟨x, y, M, R, r1, r2, a, ⟨p, q, p1, p2, s1, s2, hq⟩, fin⟩ := h
  obtain ⟨as, q1⟩ := pd_reads I a p1 r1 rv
  obtain ⟨bs, q2⟩ := pd_reads I a p2 r2 ru
  exact ne_dataH q1 q2 s1 s2 hu ⟨.bl _, H, I, rfl, fin _ _ _ _ .refl (by rw [Rep]) a hq⟩
theorem beq_dec {i j : Int} : (i == j) = decide (i = j) := by
  by_cases h : i = j <;> simp [h]
theorem beq_decB {i j : Bool} : (i == j) = decide (i = j) := by
  cases i <;> cases j <;> rfl
theorem od_eq (hu : X.A.units + 64 < cLine) : OpD X (compareOp .Eq) rEqD := op_imp (od_eqG hu) fun v u H Q ⟨x, y, M, R, r1, r2, a, q, fin⟩ => by
  refine ⟨x, y, M, R, r1, r2, a, ?_, fin⟩
  unfold rEqD at q
  split at q
  · exact ⟨_, _, .int _, .int _, rfl, rfl, by simpa [PyData.eqv, beq_dec] using q⟩
  · exact ⟨_, _, .bl _, .bl _, rfl, rfl, by simpa [PyData.eqv, beq_decB] using q⟩
  · exact q
theorem od_ne (hu : X.A.units + 64 < cLine) : OpD X (compareOp .NotEq) rNeD := op_imp (od_neG hu) fun v u H Q ⟨x, y, M, R, r1, r2, a, q, fin⟩ => by
  refine ⟨x, y, M, R, r1, r2, a, ?_, fin⟩
  unfold rNeD at q
  split at q
  · exact ⟨_, _, .int _, .int _, rfl, rfl, by simpa [PyData.eqv, beq_dec] using q⟩
  · exact ⟨_, _, .bl _, .bl _, rfl, rfl, by simpa [PyData.eqv, beq_decB] using q⟩
  · exact q
/-- is, is not: against None, True, False -/
noncomputable def isC : D → D → Option Bool
  | .non, .non => some true
  | .non, .bl _ => some false
  | .bl _, .non => some false
  | .bl a, .bl b => some (decide (a = b))
  | _, .non => some false
  | _, .bl _ => some false
  | _, _ => none
noncomputable def rIsG (g : Bool → Bool) : R2D := fun x y M Q => ∃ b, isC x y = some b ∧ Q (.bl (g b)) M
noncomputable def rIsD : R2D := rIsG fun b => b
noncomputable def rIsNotD : R2D := rIsG fun b => !b
theorem isC_plain {K : PySem.W.Frag} {H : Hp} {x y : D} {b : Bool} {v u : V} {v' u' : Value} (h : isC x y = some b) (r1 : Rep K H x v) (r2 : Rep K H y u) (rv : L2.RelV v v') (ru : L2.RelV u u') : plainIs v' u' = true ∧ (v' == u') = b := by
  have hu : u' = .none ∨ ∃ c, u' = .bool c := by
    cases y with
    | non => rw [Rep] at r2; subst r2; exact .inl ru
    | bl c => rw [Rep] at r2; subst r2; exact .inr ⟨c, ru⟩
    | _ => cases x <;> simp [isC] at h
  cases x with
  | non =>
    rw [Rep] at r1; subst r1; cases (show v' = Value.none from rv)
    cases y <;> simp [isC] at h
    · rw [Rep] at r2; subst r2; cases (show u' = Value.none from ru); subst h; exact ⟨rfl, rfl⟩
    · rw [Rep] at r2; subst r2; cases (show u' = Value.bool _ from ru); subst h; exact ⟨rfl, rfl⟩
  | bl c =>
    rw [Rep] at r1; subst r1; cases (show v' = Value.bool _ from rv)
    cases y <;> simp [isC] at h
    · rw [Rep] at r2; subst r2; cases (show u' = Value.none from ru); subst h; exact ⟨rfl, rfl⟩
    · rename_i c'
      rw [Rep] at r2; subst r2; cases (show u' = Value.bool _ from ru); subst h
      refine ⟨rfl, ?_⟩
      cases c <;> cases c' <;> rfl
  | int i =>
    rw [Rep] at r1; subst r1; obtain ⟨t, rfl⟩ := rv
    cases y <;> simp [isC] at h <;> (rcases hu with rfl | ⟨c, rfl⟩ <;> (subst h; exact ⟨rfl, rfl⟩))
  | str i =>
    rw [Rep] at r1; subst r1; obtain ⟨t, rfl⟩ := rv
    cases y <;> simp [isC] at h <;> (rcases hu with rfl | ⟨c, rfl⟩ <;> (subst h; exact ⟨rfl, rfl⟩))
  | ty i =>
    rw [Rep] at r1; subst r1; cases (show v' = Value.type _ from rv)
    cases y <;> simp [isC] at h <;> (rcases hu with rfl | ⟨c, rfl⟩ <;> (subst h; exact ⟨rfl, rfl⟩))
  | ref i =>
    rw [Rep] at r1; subst r1; cases (show v' = Value.ref _ from rv)
    cases y <;> simp [isC] at h <;> (rcases hu with rfl | ⟨c, rfl⟩ <;> (subst h; exact ⟨rfl, rfl⟩))
  | rol i =>
    rw [Rep] at r1; obtain ⟨a, xs, rfl, _, _⟩ := r1; cases (show v' = Value.ref _ from rv)
    cases y <;> simp [isC] at h <;> (rcases hu with rfl | ⟨c, rfl⟩ <;> (subst h; exact ⟨rfl, rfl⟩))
  | tup i =>
    rw [Rep] at r1; obtain ⟨a, xs, rfl, _, _⟩ := r1; cases (show v' = Value.ref _ from rv)
    cases y <;> simp [isC] at h <;> (rcases hu with rfl | ⟨c, rfl⟩ <;> (subst h; exact ⟨rfl, rfl⟩))
theorem od_is : OpD X (compareOp .Is) rIsD := by
  intro pins s σ H v u v' u' Q I rv ru ⟨x, y, M, R, r1, r2, a, ⟨b, e, q⟩, fin⟩
  obtain ⟨e1, e2⟩ := isC_plain e r1 r2 rv ru
  exact wpAny_is_plain e1 ⟨.bl b, H, I, by rw [e2]; rfl, fin _ _ _ _ .refl (by rw [Rep]) a q⟩
end
end SD

set_option Elab.async false
set_option linter.all false
set_option maxRecDepth 100000
namespace SD
open PySem PySem.Spec PyProof.Rows L2

/-! ### built-in calls -/
noncomputable abbrev RC := List D → MH → DK → Prop
noncomputable def liftC (K : PySem.W.Frag) (r : RC) : List V → Hp → VK → Prop := fun vs H Q => ∃ ds M R, Reps K H ds vs ∧ Abs K H M ∧ r ds M R ∧ Fin K H R Q
noncomputable def CallD (X : Cx) (f : Value) (r : RC) : Prop := CallR X f (liftC X.K r)
theorem call_imp {X : Cx} {f : Value} {r r' : List V → Hp → VK → Prop} (h : CallR X f r) (k : ∀ xs H Q, r' xs H Q → r xs H Q) : CallR X f r' := fun pins s σ H xs us Q I a q => h pins s σ H xs us Q I a (k _ _ _ q)
noncomputable def tCBD (r : RC) (t : TAD) : TD := fun δ M Q => t δ M fun ds M1 => r ds M1 Q
theorem lift_cb {K : PySem.W.Frag} {r : RC} {t : TAD} {σ : L2.St} {H : Hp} {Q : VK} (h : lift K (tCBD r t) σ H Q) : tCB (liftC K r) (liftA K t) σ H Q := by
  obtain ⟨δ, M, R, hs, hM, q, fin⟩ := h
  exact ⟨δ, M, _, hs, hM, q, fun ds M1 vs H1 g1 r1 a1 q1 => ⟨ds, M1, R, r1, a1, q1, fin.go g1⟩⟩
section
variable {X : Cx} {x : Str} {p pos : Pos} {e : Expr} {es : List Expr} {t : TAD} {id T : String} {r : RC}
theorem de_callB (hc : CallD X (.builtin id) r) (hg : Gl X x) (hm : X.mg x = none) (hv : bootBuiltins x = some (.builtin id)) (ha : DA X (e :: es) t) (hn : x ≠ "__name__" := by decide) (hdb : (x == ("__debug__" : Str)) = false := by decide)
    (he : starEach (e :: es) X.env = (false, eval e X.env) :: starEach es X.env := by rfl) (hpl : (backTo pos (starEach es X.env)).any (·.1) = false := by rfl) : DE X (.Call (.Name x p) (e :: es) [] pos) (tCBD r t) :=
  pe_imp (pe_callB hc hg hm hv ha hn hdb he hpl) fun _ _ _ h => lift_cb h
theorem de_callTy (hc : CallD X (.type T) r) (hg : Gl X x) (hm : X.mg x = none) (hv : bootBuiltins x = some (.type T)) (ha : DA X (e :: es) t) (hn : x ≠ "__name__" := by decide) (hdb : (x == ("__debug__" : Str)) = false := by decide)
    (he : starEach (e :: es) X.env = (false, eval e X.env) :: starEach es X.env := by rfl) (hpl : (backTo pos (starEach es X.env)).any (·.1) = false := by rfl) : DE X (.Call (.Name x p) (e :: es) [] pos) (tCBD r t) :=
  pe_imp (pe_callTy hc hg hm hv ha hn hdb he hpl) fun _ _ _ h => lift_cb h
theorem reps1 {K : PySem.W.Frag} {H : Hp} {d : D} {vs : List V} (h : Reps K H [d] vs) : ∃ v, vs = [v] ∧ Rep K H d v := by
  rw [Reps] at h
  obtain ⟨x, r, rfl, h1, h2⟩ := h
  rw [Reps] at h2
  subst h2
  exact ⟨x, rfl, h1⟩
theorem reps2 {K : PySem.W.Frag} {H : Hp} {d e : D} {vs : List V} (h : Reps K H [d, e] vs) : ∃ v u, vs = [v, u] ∧ Rep K H d v ∧ Rep K H e u := by
  rw [Reps] at h
  obtain ⟨x, r, rfl, h1, h2⟩ := h
  obtain ⟨u, rfl, h3⟩ := reps1 h2
  exact ⟨x, u, rfl, h1, h3⟩
noncomputable def rAbs : RC := fun ds M Q => match ds with
  | [.int i] => Q (.int (i.natAbs : Int)) M
  | _ => False
theorem cd_abs : CallD X (.builtin "abs") rAbs := call_imp call_abs fun vs H Q ⟨ds, M, R, rs, a, q, fin⟩ => by
  unfold rAbs at q
  split at q
  · rename_i i
    obtain ⟨v, rfl, r⟩ := reps1 rs
    rw [Rep] at r; subst r
    have e : (if i < 0 then -i else i) = (i.natAbs : Int) := by split <;> omega
    exact ⟨_, rfl, fin _ _ _ _ .refl (by rw [Rep, e]) a q⟩
  · exact q.elim
noncomputable def rMax : RC := fun ds M Q => match ds with
  | [.int i, .int j] => Q (.int (max i j)) M
  | _ => False
noncomputable def rMin : RC := fun ds M Q => match ds with
  | [.int i, .int j] => Q (.int (min i j)) M
  | _ => False
theorem cd_max (hc : X.calm = true) : CallD X (.builtin "max") rMax := call_imp (call_max2 hc) fun vs H Q ⟨ds, M, R, rs, a, q, fin⟩ => by
  unfold rMax at q
  split at q
  · rename_i i j
    obtain ⟨v, u, rfl, r, r'⟩ := reps2 rs
    rw [Rep] at r; subst r
    have r2 : u = .int j := by rw [Rep] at r'; exact r'
    subst r2
    have e : (if j > i then j else i) = max i j := by split <;> omega
    exact ⟨_, _, rfl, fin _ _ _ _ .refl (by rw [Rep, e]) a q⟩
  · exact q.elim
theorem cd_min (hc : X.calm = true) : CallD X (.builtin "min") rMin := call_imp (call_min2 hc) fun vs H Q ⟨ds, M, R, rs, a, q, fin⟩ => by
  unfold rMin at q
  split at q
  · rename_i i j
    obtain ⟨v, u, rfl, r, r'⟩ := reps2 rs
    rw [Rep] at r; subst r
    have r2 : u = .int j := by rw [Rep] at r'; exact r'
    subst r2
    have e : (if j < i then j else i) = min i j := by split <;> omega
    exact ⟨_, _, rfl, fin _ _ _ _ .refl (by rw [Rep, e]) a q⟩
  · exact q.elim
noncomputable def rLen : RC := fun ds M Q => match ds with
  | [.tup xs] => Q (.int (xs.length : Int)) M
  | [.rol xs] => Q (.int (xs.length : Int)) M
  | [.ref l] => ∃ xs, M l = some (.lst xs) ∧ Q (.int (xs.length : Int)) M
  | _ => False
theorem cd_len : CallD X (.builtin "len") rLen := call_imp call_len_seq fun vs H Q ⟨ds, M, R, rs, a, q, fin⟩ => by
  unfold rLen at q
  split at q
  · obtain ⟨v, rfl, r⟩ := reps1 rs
    rw [Rep] at r
    obtain ⟨l, xs, rfl, h1, h2⟩ := r
    exact ⟨l, xs, rfl, .inr h1, fin _ _ _ _ .refl (by rw [Rep, h2.length]) a q⟩
  · obtain ⟨v, rfl, r⟩ := reps1 rs
    rw [Rep] at r
    obtain ⟨l, xs, rfl, h1, h2⟩ := r
    exact ⟨l, xs, rfl, .inl h1.sql, fin _ _ _ _ .refl (by rw [Rep, h2.length]) a q⟩
  · obtain ⟨v, rfl, r⟩ := reps1 rs
    rw [Rep] at r; subst r
    obtain ⟨xs, e, q⟩ := q
    obtain ⟨ys, h1, h2⟩ := a _ _ e
    exact ⟨_, ys, rfl, .inl (SqL.of h1), fin _ _ _ _ .refl (by rw [Rep, h2.length]) a q⟩
  · exact q.elim
noncomputable def rTuple : RC := fun ds M Q => match ds with
  | [.tup xs] => Q (.tup xs) M
  | [.rol xs] => Q (.tup xs) M
  | [.ref l] => ∃ xs, M l = some (.lst xs) ∧ Q (.tup xs) M
  | _ => False
theorem cd_tuple : CallD X (.type "tuple") rTuple := call_imp call_tuple_of fun vs H Q ⟨ds, M, R, rs, a, q, fin⟩ => by
  unfold rTuple at q
  split at q
  · obtain ⟨v, rfl, r⟩ := reps1 rs
    rw [Rep] at r
    obtain ⟨l, xs, rfl, h1, h2⟩ := r
    exact ⟨l, xs, rfl, .inr ⟨h1, fin _ _ _ _ .refl (by rw [Rep]; exact ⟨l, xs, rfl, h1, h2⟩) a q⟩⟩
  · obtain ⟨v, rfl, r⟩ := reps1 rs
    rw [Rep] at r
    obtain ⟨l, xs, rfl, h1, h2⟩ := r
    exact ⟨l, xs, rfl, .inl ⟨h1.sql, fun p hp => fin _ _ _ _ (.new hp) (by rw [Rep]; exact ⟨p, xs, rfl, SqT.of upd_same, h2.mono (.new hp)⟩) (a.new hp) q⟩⟩
  · obtain ⟨v, rfl, r⟩ := reps1 rs
    rw [Rep] at r; subst r
    obtain ⟨xs, e, q⟩ := q
    obtain ⟨ys, h1, h2⟩ := a _ _ e
    exact ⟨_, ys, rfl, .inl ⟨SqL.of h1, fun p hp => fin _ _ _ _ (.new hp) (by rw [Rep]; exact ⟨p, ys, rfl, SqT.of upd_same, h2.mono (.new hp)⟩) (a.new hp) q⟩⟩
  · exact q.elim
noncomputable def rInt1 : RC := fun ds M Q => match ds with
  | [.int i] => Q (.int i) M
  | [.bl k] => Q (.int (if k = true then 1 else 0)) M
  | _ => False
theorem cd_int : CallD X (.type "int") rInt1 := call_imp call_int1 fun vs H Q ⟨ds, M, R, rs, a, q, fin⟩ => by
  unfold rInt1 at q
  split at q
  · obtain ⟨v, rfl, r⟩ := reps1 rs
    rw [Rep] at r; subst r
    exact .inl ⟨_, rfl, fin _ _ _ _ .refl (by rw [Rep]) a q⟩
  · obtain ⟨v, rfl, r⟩ := reps1 rs
    rw [Rep] at r; subst r
    exact .inr ⟨_, rfl, fin _ _ _ _ .refl (by rw [Rep]) a q⟩
  · exact q.elim
/-- isinstance(x, T), T a built-in type, x no ref -/
noncomputable def tyN : D → Option String
  | .non => some "NoneType"
  | .bl _ => some "bool"
  | .int _ => some "int"
  | .str _ => some "str"
  | .tup _ => some "tuple"
  | .rol _ => some "list"
  | _ => none
noncomputable def rIsInst (K : PySem.W.Frag) : RC := fun ds M Q => match ds with
  | [x, .ty n] => ∃ t b, tyN x = some t ∧ PySem.W.kitOne K (.type t) (.type n) = some b ∧ Q (.bl b) M
  | _ => False
theorem cd_isinst : CallD X (.builtin "isinstance") (rIsInst X.K) := by
  intro pins s σ H vs us Q I rv ⟨ds, M, R, rs, a, q, fin⟩
  unfold rIsInst at q
  split at q
  · rename_i x n
    obtain ⟨v, u, rfl, r, r'⟩ := reps2 rs
    rw [Rep] at r'; subst r'
    obtain ⟨v', u', rfl, rw0, ru⟩ := vals2 rv
    cases (show u' = Value.type n from ru)
    obtain ⟨t, b, et, e, q⟩ := q
    have h : ∀ tk, EP X pins σ Q (.bool b) { s with toks := tk } := fun tk => ⟨.bl b, H, I.tok tk, rfl, fin _ _ _ _ .refl (by rw [Rep]) a q⟩
    cases x with
    | non => cases et; rw [Rep] at r; subst r; cases (show v' = Value.none from rw0); exact PySem.W.kia_one PySem.W.kitx_none I.kIn True.intro e (fun z => nomatch z) h
    | bl y => cases et; rw [Rep] at r; subst r; cases (show v' = Value.bool y from rw0); exact PySem.W.kia_one PySem.W.kitx_bool I.kIn True.intro e (fun z => nomatch z) h
    | int y => cases et; rw [Rep] at r; subst r; obtain ⟨t, q⟩ := (show ∃ t, v' = Value.int y t from rw0); cases q; exact PySem.W.kia_one PySem.W.kitx_int I.kIn True.intro e (fun z => nomatch z) h
    | str y => cases et; rw [Rep] at r; subst r; obtain ⟨t, q⟩ := (show ∃ t, v' = Value.str y t from rw0); cases q; exact PySem.W.kia_one PySem.W.kitx_str I.kIn True.intro e (fun z => nomatch z) h
    | tup y =>
      cases et; rw [Rep] at r
      obtain ⟨p, xs, rfl, h1, _⟩ := r
      cases (show v' = Value.ref p from rw0)
      obtain ⟨its, _, ⟨o, z1, z2, _⟩, _⟩ := I.tuple h1
      exact PySem.W.kia_one PySem.W.kitx_tuple I.kIn ⟨o, z1, z2⟩ e (fun z => nomatch z) h
    | rol y =>
      cases et; rw [Rep] at r
      obtain ⟨p, xs, rfl, h1, _⟩ := r
      cases (show v' = Value.ref p from rw0)
      obtain ⟨its, _, ⟨o, n, z1, z2, _⟩, _⟩ := I.list h1.sql
      exact PySem.W.kia_one PySem.W.kitx_list I.kIn ⟨o, z1, z2⟩ e (fun z => nomatch z) h
    | _ => cases et
  · exact q.elim
end

/-! ### targets -/
noncomputable abbrev TGD := D → DS → MH → (DS → MH → Prop) → Prop
noncomputable abbrev TGsD := List D → DS → MH → (DS → MH → Prop) → Prop
section
variable (K : PySem.W.Frag)
noncomputable def FinG (H : Hp) (R : DS → MH → Prop) (Q : L2.St → Hp → Prop) : Prop := ∀ δ' M' σ' H', Grow K H H' → Slots K H' δ' σ' → Abs K H' M' → R δ' M' → Q σ' H'
noncomputable def liftG (t : TGD) : TG := fun v σ H Q => ∃ d δ M R, Rep K H d v ∧ Slots K H δ σ ∧ Abs K H M ∧ t d δ M R ∧ FinG K H R Q
noncomputable def liftGs (t : TGsD) : TGs := fun vs σ H Q => ∃ ds δ M R, Reps K H ds vs ∧ Slots K H δ σ ∧ Abs K H M ∧ t ds δ M R ∧ FinG K H R Q
end
theorem FinG.go {K : PySem.W.Frag} {H H1 : Hp} {R : DS → MH → Prop} {Q : L2.St → Hp → Prop} (g : Grow K H H1) (h : FinG K H R Q) : FinG K H1 R Q := fun d M v H' g' => h d M v H' (g.trans g')
noncomputable def DG (X : Cx) (e : Expr) (t : TGD) : Prop := PG X e (liftG X.K t)
noncomputable def DGs (X : Cx) (es : List Expr) (t : TGsD) : Prop := PGs X es (liftGs X.K t)
theorem pg_imp {X : Cx} {e : Expr} {t t' : TG} (h : PG X e t) (k : ∀ v σ H Q, t' v σ H Q → t v σ H Q) : PG X e t' := fun pins s σ H v u Q I r q => h pins s σ H v u Q I r (k _ _ _ _ q)
theorem pgs_imp {X : Cx} {e : List Expr} {t t' : TGs} (h : PGs X e t) (k : ∀ v σ H Q, t' v σ H Q → t v σ H Q) : PGs X e t' := fun pins s σ H v u Q I r q => h pins s σ H v u Q I r (k _ _ _ _ q)
section
variable {X : Cx} {pos : Pos}
noncomputable def gNameD (i : Nat) : TGD := fun d δ M Q => Q (δ.set i (some d)) M
theorem dg_name (i : Nat) {x : Str} (hN : X.N.Nodup) (hi : X.N[i]? = some x := by rfl) (hx : Loc X.env.scope x := by first | exact Or.inl rfl | exact Or.inr rfl) (hf : X.fn x = true ∨ X.env.scope.names.lookup x = some .local := by first | exact .inl rfl | exact .inr rfl | assumption) : DG X (.Name x pos) (gNameD i) :=
  pg_imp (pg_name hN hi hx hf) fun v σ H Q ⟨d, δ, M, R, r, hs, a, q, fin⟩ => fin _ _ _ _ .refl (hs.set r i) a q
noncomputable def gNilD : TGsD := fun ds δ M Q => ds = [] ∧ Q δ M
noncomputable def gConsD (t : TGD) (u : TGsD) : TGsD := fun ds δ M Q => ∃ d r, ds = d :: r ∧ t d δ M fun δ' M' => u r δ' M' Q
theorem dgs_nil : DGs X [] gNilD := pgs_imp pgs_nil fun vs σ H Q ⟨ds, δ, M, R, rs, hs, a, ⟨e, q⟩, fin⟩ => by
  subst e
  rw [Reps] at rs
  exact ⟨rs, fin _ _ _ _ .refl hs a q⟩
theorem dgs_cons {e : Expr} {es : List Expr} {t : TGD} {u : TGsD} (h1 : DG X e t) (h2 : DGs X es u)
    (hs : (assignEach (e :: es) X.env).map (·.2) = assign e X.env :: (assignEach es X.env).map (·.2) := by rfl) : DGs X (e :: es) (gConsD t u) := pgs_imp (pgs_cons h1 h2 hs) fun vs σ H Q ⟨ds, δ, M, R, rs, hs, a, ⟨d, r, e, q⟩, fin⟩ => by
  subst e
  rw [Reps] at rs
  obtain ⟨x, xs, rfl, r1, r2⟩ := rs
  exact ⟨x, xs, rfl, d, δ, M, _, r1, hs, a, q, fun δ' M' σ' H' g' s' a' q' => ⟨r, δ', M', R, r2.mono g', s', a', q', fin.go g'⟩⟩
noncomputable def gTupD (n : Nat) (t : TGsD) : TGD := fun d δ M Q => ∃ ds, d = .tup ds ∧ ds.length = n ∧ t ds δ M Q
theorem dg_tup {es : List Expr} {k : Nat} {t : TGsD} {n : Nat} (hc : X.calm = true) (h : DGs X es t)
    (hn : (assignEach es X.env).length = n := by rfl) (hst : (assignEach es X.env).findIdx? (·.1) = none := by rfl) : DG X (.Tuple es k pos) (gTupD n t) := pg_imp (pg_tup hc h hn hst) fun v σ H Q ⟨d, δ, M, R, r, hs, a, ⟨ds, e, hl, q⟩, fin⟩ => by
  subst e
  rw [Rep] at r
  obtain ⟨p, xs, rfl, h1, h2⟩ := r
  exact ⟨p, xs, rfl, h1, by rw [← h2.length]; exact hl, ds, δ, M, R, h2, hs, a, q, fin⟩
/-- o[i] = v -/
noncomputable def rSetD : D → D → D → MH → (MH → Prop) → Prop := fun o i v M Q => match o, i with
  | .ref p, .int k => ∃ ds j, M p = some (.lst ds) ∧ ixN ds.length k = some j ∧ Q (updM M p (.lst (ds.set j v)))
  | _, _ => False
noncomputable def gSubD (to ti : TD) : TGD := fun v δ M Q => to δ M fun o M1 => ti δ M1 fun i M2 => rSetD o i v M2 fun M3 => Q δ M3
theorem dg_sub {o i : Expr} {to ti : TD} (ho : DE X o to) (hi : DE X i ti)
    (ha : ∀ v, assign (.Subscript o i pos) X.env v = (do
      let ov ← holding [v] (eval o X.env)
      let iv ← holding [v, ov] (eval i X.env)
      standAt pos
      holding [v, ov, iv] (setItem ov iv v)
      release [v, ov, iv] []) := by intro _; rfl) : DG X (.Subscript o i pos) (gSubD to ti) :=
  pg_imp (pg_sub ho hi set_list ha) fun v σ H Q ⟨d, δ, M, R, r, hs, a, q, fin⟩ =>
    ⟨δ, M, _, hs, a, q, fun o M1 vo H1 g1 r1 a1 q1 => ⟨δ, M1, _, hs.mono g1, a1, q1, fun i M2 vi H2 g2 r2 a2 q2 => by
      unfold rSetD at q2
      split at q2
      · obtain ⟨ds, j, e1, e2, q2⟩ := q2
        obtain rfl : vo = .ref _ := r1
        obtain rfl : vi = .int _ := r2
        obtain ⟨xs, h1, h2⟩ := a2 _ _ e1
        refine ⟨_, xs, _, j, rfl, rfl, h1, by rw [← h2.length]; exact e2, ?_⟩
        have g3 : Grow X.K H2 (upd H2 _ (.lst (xs.set j v))) := .lst h1
        exact fin _ _ _ _ ((g1.trans g2).trans g3) (hs.mono ((g1.trans g2).trans g3)) (a2.setL h1 (h2.set (r.mono (g1.trans g2)) j)) q2
      · exact q2.elim⟩⟩
end

/-! ### statements -/
section
variable {X : Cx} {pos : Pos} {st : Stmt} {rest : List Stmt} {t u : TSD}
noncomputable def tNextD : TSD := fun B δ M => B.nx δ M
noncomputable def tSeqD (t u : TSD) : TSD := fun B δ M => t { B with nx := u B } δ M
theorem dss_nil : DSs X [] tNextD := pss_imp pss_nil fun E σ H ⟨δ, M, hs, a, B, ok, q⟩ => ok.nx _ _ _ _ .refl hs a q
theorem dss_cons (h1 : DSt X st t) (h2 : DSs X rest u) : DSs X (st :: rest) (tSeqD t u) := pss_imp (pss_cons h1 h2) fun E σ H ⟨δ, M, hs, a, B, ok, q⟩ =>
  ⟨δ, M, hs, a, { B with nx := u B }, ⟨fun δ' M' σ' H' g s' a' q' => ⟨δ', M', s', a', B, ok.go g, q'⟩, ok.rt, ok.bk, ok.ct⟩, q⟩
theorem dss_one (h1 : DSt X st t) : DSs X [st] t := pss_one h1
noncomputable def tBreakD : TSD := fun B δ M => B.bk δ M
noncomputable def tContD : TSD := fun B δ M => B.ct δ M
noncomputable def tNeverD : TSD := fun _ _ _ => False
noncomputable def tDropD (te : TD) : TSD := fun B δ M => te δ M fun _ M1 => B.nx δ M1
theorem ds_expr {e : Expr} {te : TD} (he : DE X e te) (hs : swapsWith e none pos.line X.env = pure false := by rfl) : DSt X (.Expr e pos) (tDropD te) :=
  ps_imp (ps_expr he hs) fun E σ H ⟨δ, M, hs, a, B, ok, q⟩ => ⟨δ, M, _, hs, a, q, fun d M1 v H1 g1 r1 a1 q1 => ok.nx _ _ _ _ g1 (hs.mono g1) a1 q1⟩
noncomputable def tRetD (te : TD) : TSD := fun B δ M => te δ M B.rt
theorem ds_ret {e : Expr} {te : TD} (he : DE X e te) : DSt X (.Return (some e) pos) (tRetD te) :=
  ps_imp (ps_ret he) fun E σ H ⟨δ, M, hs, a, B, ok, q⟩ => ⟨δ, M, _, hs, a, q, fun d M1 v H1 g1 r1 a1 q1 => ok.rt _ _ _ _ g1 r1 a1 q1⟩
noncomputable def tRetND : TSD := fun B _ M => B.rt .non M
noncomputable def tIfSD (c : TTD) (t u : TSD) : TSD := fun B δ M => c δ M fun b M1 => if b = true then t B δ M1 else u B δ M1
theorem ds_if {c : Expr} {a b : List Stmt} {tc : TTD} (hc : DT X c tc) (ha : DSs X a t) (hb : DSs X b u) : DSt X (.If c a b pos) (tIfSD tc t u) :=
  ps_imp (ps_if hc ha hb) fun E σ H ⟨δ, M, hs, a, B, ok, q⟩ => ⟨δ, M, _, hs, a, q, fun c M1 H1 g1 a1 q1 => by
    cases c with
    | true => rw [if_pos rfl] at q1 ⊢; exact ⟨δ, M1, hs.mono g1, a1, B, ok.go g1, q1⟩
    | false => rw [if_neg Bool.false_ne_true] at q1 ⊢; exact ⟨δ, M1, hs.mono g1, a1, B, ok.go g1, q1⟩⟩
noncomputable def tAsgD (te : TD) (g : TGD) : TSD := fun B δ M => te δ M fun d M1 => g d δ M1 B.nx
theorem ds_asg {tg e : Expr} {te : TD} {g : TGD} (he : DE X e te) (hg : DG X tg g) (hs : swapsWithSole [tg] e pos.line X.env = pure false := by rfl) (hw : swappedStores [tg] e X.env = pure none := by rfl)
    (h1 : (assignEach [tg] X.env).map (·.2) = [assign tg X.env] := by rfl) : DSt X (.Assign [tg] e pos) (tAsgD te g) :=
  ps_imp (ps_asg he hg hs hw h1) fun E σ H ⟨δ, M, hs, a, B, ok, q⟩ => ⟨δ, M, _, hs, a, q, fun d M1 v H1 g1 r1 a1 q1 =>
    ⟨d, δ, M1, B.nx, r1, hs.mono g1, a1, q1, fun δ' M' σ' H' g' s' a' q' => ok.nx _ _ _ _ (g1.trans g') s' a' q'⟩⟩
theorem ds_set (i : Nat) {x : Str} {e : Expr} {te : TD} {pos' : Pos} (hN : X.N.Nodup) (he : DE X e te) (hi : X.N[i]? = some x := by rfl) (hx : Loc X.env.scope x := by first | exact Or.inl rfl | exact Or.inr rfl) (hs : swapsWith e (some (.Name x pos')) pos.line X.env = pure false := by rfl)
    (hf : X.fn x = true ∨ X.env.scope.names.lookup x = some .local := by first | exact .inl rfl | exact .inr rfl | assumption) : DSt X (.Assign [.Name x pos'] e pos) (tAsgD te (gNameD i)) :=
  ps_imp (ps_set hN hi hx he hs hf) fun E σ H ⟨δ, M, hs, a, B, ok, q⟩ => ⟨δ, M, _, hs, a, q, fun d M1 v H1 g1 r1 a1 q1 => ok.nx _ _ _ _ g1 ((hs.mono g1).set r1 i) a1 q1⟩
noncomputable def tParD (i j : Nat) (ta : TAD) : TSD := fun B δ M => ta δ M fun ds M1 => ∃ d e, ds = [d, e] ∧ B.nx ((δ.set i (some d)).set j (some e)) M1
theorem ds_par (i j : Nat) {x y : Str} {a b : Expr} {ta : TAD} {px py pt : Pos} {kt k2 pt2} (hc : X.calm = true) (hN : X.N.Nodup) (ha : DA X [a, b] ta) (hij : i ≠ j := by decide) (hi : X.N[i]? = some x := by rfl) (hj : X.N[j]? = some y := by rfl)
    (hx : X.env.scope.names.lookup x = some .local := by rfl) (hy : X.env.scope.names.lookup y = some .local := by rfl)
    (hw : swappedStores [.Tuple [.Name x px, .Name y py] kt pt] (.Tuple [a, b] k2 pt2) X.env = pure (some [x, y]) := by rfl)
    (hs : swapsWithSole [.Tuple [.Name x px, .Name y py] kt pt] (.Tuple [a, b] k2 pt2) pos.line X.env = pure false := by rfl) :
    DSt X (.Assign [.Tuple [.Name x px, .Name y py] kt pt] (.Tuple [a, b] k2 pt2) pos) (tParD i j ta) :=
  ps_imp (ps_par hc hN hi hj hij hx hy ha hw hs) fun E σ H ⟨δ, M, hs, a, B, ok, q⟩ => ⟨δ, M, _, hs, a, q, fun ds M1 vs H1 g1 r1 a1 ⟨d, e, z, q1⟩ => by
    subst z
    obtain ⟨v, u, rfl, r2, r3⟩ := reps2 r1
    exact ⟨v, u, rfl, ok.nx _ _ _ _ g1 (((hs.mono g1).set r2 i).set r3 j) a1 q1⟩⟩
/-- while, by a word and a measure -/
noncomputable def tWhileD (c : TTD) (tb : TSD) : TSD := fun B δ M => ∃ W : Nat → DS → MH → Prop, (∃ m, W m δ M) ∧ ∀ m δ M, W m δ M →
  c δ M fun b M1 => if b = true then tb { B with nx := fun δ' M' => ∃ m', m' < m ∧ W m' δ' M', ct := fun δ' M' => ∃ m', m' < m ∧ W m' δ' M', bk := B.nx } δ M1 else B.nx δ M1
theorem ds_while {c : Expr} {body : List Stmt} {tc : TTD} {tb : TSD} (hp : PassesOwn (model X.prog X.w) X.A X.env X.xe) (hc : DT X c tc) (hb : DSs X body tb) : DSt X (.While c body [] pos) (tWhileD tc tb) :=
  ps_imp (ps_while hp hc hb) fun E σ H ⟨δ, M, hs, a, B, ok, W, ⟨m, w0⟩, turn⟩ => by
    refine ⟨fun m σ H' => Grow X.K H H' ∧ ∃ δ M, Slots X.K H' δ σ ∧ Abs X.K H' M ∧ W m δ M, ⟨m, .refl, δ, M, hs, a, w0⟩, ?_⟩
    rintro m σ H' ⟨g, δ, M, hs, a, w0⟩
    refine ⟨δ, M, _, hs, a, turn m δ M w0, fun b M1 H1 g1 a1 q1 => ?_⟩
    cases b with
    | true =>
      rw [if_pos rfl] at q1 ⊢
      refine ⟨fun σ2 H2 => ∃ m', m' < m ∧ (Grow X.K H H2 ∧ ∃ δ M, Slots X.K H2 δ σ2 ∧ Abs X.K H2 M ∧ W m' δ M), fun σ' H' h => h, δ, M1, hs.mono g1, a1, _, ?_, q1⟩
      refine ⟨fun δ' M' σ' H' g' s' a' ⟨m', l, w'⟩ => ⟨m', l, (g.trans g1).trans g', δ', M', s', a', w'⟩, fun d M v H' g' => ok.rt d M v H' ((g.trans g1).trans g'), fun δ' M' σ' H' g' s' a' q' => ok.nx _ _ _ _ ((g.trans g1).trans g') s' a' q', fun δ' M' σ' H' g' s' a' ⟨m', l, w'⟩ => ⟨m', l, (g.trans g1).trans g', δ', M', s', a', w'⟩⟩
    | false =>
      rw [if_neg Bool.false_ne_true] at q1 ⊢
      exact ok.nx _ _ _ _ (g.trans g1) (hs.mono g1) a1 q1
/-- for x in range(n) -/
noncomputable def tForRD (ta : TAD) (g : TGD) (tb : TSD) : TSD := fun B δ M => ta δ M fun ds M1 => ∃ n : Nat, ds = [.int (n : Int)] ∧ n < 2 ^ 60 ∧ ∃ W : Nat → DS → MH → Prop, W 0 δ M1 ∧
  (∀ i δ M, i < n → W i δ M → g (.int (i : Int)) δ M fun δ2 M2 => tb { B with nx := W (i + 1), ct := W (i + 1), bk := B.nx } δ2 M2) ∧ ∀ δ M, W n δ M → B.nx δ M
theorem ds_forR {tg e : Expr} {body : List Stmt} {ta : TAD} {g : TGD} {tb : TSD} {p p2 : Pos} (hp : PassesOwn (model X.prog X.w) X.A X.env X.xe) (hc : X.calm = true) (hg : Gl X "range") (hm : X.mg "range" = none) (ha : DA X [e] ta) (hG : DG X tg g) (hb : DSs X body tb)
    (hs : starEach [e] X.env = [(false, eval e X.env)] := by rfl) (hf : ∀ x, foldedSetIterable (.Call (.Name "range" p) [e] [] p2) X.env x = pure x := by intro _; rfl) : DSt X (.For tg (.Call (.Name "range" p) [e] [] p2) body [] pos) (tForRD ta g tb) :=
  ps_imp (ps_for hp hc (pi_range1 hg hm ha hs) hG hb hf) fun E σ H ⟨δ, M, hs, a, B, ok, q⟩ => ⟨δ, M, _, hs, a, q, fun ds M1 vs H1 g1 r1 a1 ⟨n, e, hn, W, w0, turn, done⟩ => by
    subst e
    obtain ⟨v, rfl, r⟩ := reps1 r1
    rw [Rep] at r; subst r
    refine ⟨(n : Int), rfl, by omega, by omega, ?_⟩
    rw [show ((n : Int)).toNat = n from by simp]
    refine for_range (fun i σ H' => Grow X.K H H' ∧ ∃ δ M, Slots X.K H' δ σ ∧ Abs X.K H' M ∧ W i δ M) ⟨g1, δ, M1, hs.mono g1, a1, w0⟩ ?_ ?_
    · rintro i σ H2 hi ⟨g2, δ, M, s2, a2, w2⟩
      refine ⟨.int (i : Int), δ, M, _, by rw [Rep]; simp, s2, a2, turn i δ M hi w2, fun δ3 M3 σ3 H3 g3 s3 a3 q3 => ?_⟩
      refine ⟨δ3, M3, s3, a3, _, ?_, q3⟩
      exact ⟨fun δ' M' σ' H' g' s' a' w' => ⟨(g2.trans g3).trans g', δ', M', s', a', w'⟩, fun d M v H' g' => ok.rt d M v H' ((g2.trans g3).trans g'), fun δ' M' σ' H' g' s' a' q' => ok.nx _ _ _ _ ((g2.trans g3).trans g') s' a' q', fun δ' M' σ' H' g' s' a' w' => ⟨(g2.trans g3).trans g', δ', M', s', a', w'⟩⟩
    · rintro σ H2 ⟨g2, δ, M, s2, a2, w2⟩
      exact ok.nx _ _ _ _ g2 s2 a2 (done δ M w2)⟩
end

theorem iteA {b : Bool} {A B : Prop} (e : b = true) (h : A) : if b = true then A else B := by rw [if_pos e]; exact h
theorem iteB {b : Bool} {A B : Prop} (e : b = false) (h : B) : if b = true then A else B := by rw [if_neg (by rw [e]; exact Bool.false_ne_true)]; exact h
theorem orV {ta tb : TD} {δ : DS} {M : MH} {Q : DK} (c1 c2 : Bool) (ha : ∀ K : DK, K (.bl c1) M → ta δ M K) (hb : c1 = false → ∀ K : DK, K (.bl c2) M → tb δ M K) (hq : Q (.bl (c1 || c2)) M) : tOrVD ta tb δ M Q :=
  ha _ ⟨c1, rfl, by
    cases c1 with
    | true => rw [if_pos rfl]; exact hq
    | false => rw [if_neg Bool.false_ne_true]; exact hb rfl _ hq⟩
theorem andV {ta tb : TD} {δ : DS} {M : MH} {Q : DK} (c1 c2 : Bool) (ha : ∀ K : DK, K (.bl c1) M → ta δ M K) (hb : c1 = true → ∀ K : DK, K (.bl c2) M → tb δ M K) (hq : Q (.bl (c1 && c2)) M) : tAndVD ta tb δ M Q :=
  ha _ ⟨c1, rfl, by
    cases c1 with
    | true => rw [if_pos rfl]; exact hb rfl _ hq
    | false => rw [if_neg Bool.false_ne_true]; exact hq⟩
theorem orT {ta tb : TTD} {δ : DS} {M : MH} {Q : Bool → MH → Prop} (c1 c2 : Bool) (ha : ∀ K : Bool → MH → Prop, K c1 M → ta δ M K) (hb : c1 = false → ∀ K : Bool → MH → Prop, K c2 M → tb δ M K) (hq : Q (c1 || c2) M) : tOrD ta tb δ M Q :=
  ha _ (by
    cases c1 with
    | true => rw [if_pos rfl]; exact hq
    | false => rw [if_neg Bool.false_ne_true]; exact hb rfl _ hq)
theorem andT {ta tb : TTD} {δ : DS} {M : MH} {Q : Bool → MH → Prop} (c1 c2 : Bool) (ha : ∀ K : Bool → MH → Prop, K c1 M → ta δ M K) (hb : c1 = true → ∀ K : Bool → MH → Prop, K c2 M → tb δ M K) (hq : Q (c1 && c2) M) : tAndD ta tb δ M Q :=
  ha _ (by
    cases c1 with
    | true => rw [if_pos rfl]; exact hb rfl _ hq
    | false => rw [if_neg Bool.false_ne_true]; exact hq)
/-- a op b op c -/
noncomputable def tChainD (r r' : R2D) (ta tb tc : TD) : TD := fun δ M Q => ta δ M fun x M1 => tb δ M1 fun y M2 => r x y M2 fun z M3 => ∃ k, z = .bl k ∧ if k = true then tc δ M3 fun u M4 => r' y u M4 Q else Q (.bl false) M3
theorem de_chain {X : Cx} {a b c : Expr} {ta tb tc : TD} {pos : Pos} {op op' : CmpOp} {r r' : R2D} (ho : OpD X (compareOp op) r) (ho' : OpD X (compareOp op') r') (ha : DE X a ta) (hb : DE X b tb) (hc : DE X c tc)
    (hm : lastMarks [op, op'] [b, c] = false := by with_unfolding_all rfl) : DE X (.Compare a [op, op'] [b, c] pos) (tChainD r r' ta tb tc) :=
  pe_imp (pe_chain ho ho' ha hb hc hm) fun σ H Q ⟨δ, M, R, hs, hM, q, fin⟩ => by
    refine ⟨δ, M, _, hs, hM, q, fun x M1 v H1 g1 r1 a1 q1 => ?_⟩
    refine ⟨δ, M1, _, hs.mono g1, a1, q1, fun y M2 u H2 g2 r2 a2 q2 => ?_⟩
    refine ⟨x, y, M2, _, r1.mono g2, r2, a2, q2, fun z M3 w H3 g3 r3 a3 ⟨k, e, q3⟩ => ?_⟩
    subst e
    rw [Rep] at r3
    refine ⟨k, r3, ?_⟩
    cases k with
    | true =>
      rw [if_pos rfl] at q3 ⊢
      exact ⟨δ, M3, _, hs.mono ((g1.trans g2).trans g3), a3, q3, fun u' M4 w' H4 g4 r4 a4 q4 => ⟨y, u', M4, R, r2.mono (g3.trans g4), r4, a4, q4, fin.go (((g1.trans g2).trans g3).trans g4)⟩⟩
    | false =>
      rw [if_neg Bool.false_ne_true] at q3 ⊢
      exact fin _ _ _ _ ((g1.trans g2).trans g3) (by rw [Rep]) a3 q3
/-- what holds between two statements -/
theorem seq_cut {t u : TSD} {B : EndsD} {δ : DS} {M : MH} (W : DS → MH → Prop) (hu : ∀ δ' M', W δ' M' → u B δ' M') (ht : (∀ δ' M', W δ' M' → u B δ' M') → t { B with nx := u B } δ M) : tSeqD t u B δ M := ht hu
/-! ### what may be forgotten when a def is left -/
noncomputable def Sub (M' M : MH) : Prop := ∀ a o, M' a = some o → M a = some o
noncomputable def SubX (r : Addr) (M' M : MH) : Prop := ∀ a o, a ≠ r → M' a = some o → M a = some o
theorem Sub.refl {M : MH} : Sub M M := fun _ _ h => h
theorem Sub.trans {M M1 M2 : MH} (a : Sub M M1) (b : Sub M1 M2) : Sub M M2 := fun x o h => b x o (a x o h)
theorem Sub.new {M M' : MH} {p : Addr} {o : MO} (hp : M p = none) (s : Sub M' M) : Sub M' (updM M p o) := fun a u h => by
  rw [updM_ne (fun e => by subst e; rw [s _ _ h] at hp; cases hp)]
  exact s _ _ h
theorem SubX.refl {M : MH} {r : Addr} : SubX r M M := fun _ _ _ h => h
theorem SubX.new {M M' : MH} {r p : Addr} {o : MO} (hp : M p = none) (s : SubX r M' M) : SubX r M' (updM M p o) := fun a u ne h => by
  rw [updM_ne (fun e => by subst e; rw [s _ _ ne h] at hp; cases hp)]
  exact s _ _ ne h
theorem SubX.same {M M' : MH} {r : Addr} {o : MO} (s : SubX r M' M) : SubX r M' (updM M r o) := fun a u ne h => by
  rw [updM_ne ne]
  exact s _ _ ne h
theorem Sub.updR {M M' : MH} {r : Addr} {o : MO} (s : SubX r M' M) : Sub (updM M' r o) (updM M r o) := fun a u h => by
  by_cases e : a = r
  · subst e
    rw [updM_same] at h ⊢
    exact h
  · rw [updM_ne e] at h ⊢
    exact s _ _ e h
noncomputable def Ret (Q : DK) : DK := fun d M => ∃ M', Sub M' M ∧ Q d M'
theorem rtn {Q : DK} {d : D} {M : MH} (q : Q d M) : Ret Q d M := ⟨M, .refl, q⟩

/-! ### defs -/
noncomputable abbrev SpD := List D → MH → DK → Prop
noncomputable def liftSp (K : PySem.W.Frag) (sp : SpD) : Sp := fun vs H Q _ => ∃ ds M R, Reps K H ds vs ∧ Abs K H M ∧ sp ds M R ∧ Fin K H R Q
/-- a def that can be called by its name -/
noncomputable def Cal (P : Program) (w : World) (K : PySem.W.Frag) (mg : Str → Option Value) (base : Heap) (k : Nat) (x : Str) (sp : SpD) : Prop :=
  ∃ f fd ps, FnOk P w K mg base CX0 k f fd ps (liftSp K sp) ∧ mg x = some (.ref f) ∧ PySem.W.keepIn K (.ref f) = true ∧ Binds K fd ps []
theorem Cal.mono {P : Program} {w : World} {K : PySem.W.Frag} {mg : Str → Option Value} {base : Heap} {j k : Nat} {x : Str} {sp : SpD} (h : Cal P w K mg base j x sp) (l : j ≤ k) : Cal P w K mg base k x sp :=
  let ⟨f, fd, ps, F, r⟩ := h; ⟨f, fd, ps, F.mono l, r⟩
section
variable {X : Cx} {k : Nat} {x : Str} {sp : SpD} {p pos : Pos} {e : Expr} {es : List Expr} {t : TAD}
noncomputable def tCallD (sp : SpD) (t : TAD) : TD := fun δ M Q => t δ M fun ds M1 => sp ds M1 Q
theorem de_call (C : Cal X.prog X.w X.K X.mg X.base k x sp) (hr : Room k X.A) (ha : DA X (e :: es) t) (hg : Gl X x := by rfl) (hdb : (x == ("__debug__" : Str)) = false := by decide)
    (he : starEach (e :: es) X.env = (false, eval e X.env) :: starEach es X.env := by rfl) (hpl : (backTo pos (starEach es X.env)).any (·.1) = false := by rfl) : DE X (.Call (.Name x p) (e :: es) [] pos) (tCallD sp t) := by
  obtain ⟨f, fd, ps, F, hm, hk, hb⟩ := C
  refine pe_imp (pe_call F hr hg hm hk hb .nil pass0 ha hdb he hpl) fun σ H Q ⟨δ, M, R, hs, hM, q, fin⟩ => ?_
  refine ⟨δ, M, _, hs, hM, q, fun ds M1 vs H1 g1 r1 a1 q1 => ?_⟩
  show liftSp X.K sp (vs ++ []) H1 Q E0
  rw [List.append_nil]
  exact ⟨ds, M1, R, r1, a1, q1, fin.go g1⟩
end
noncomputable def startD (N : List Str) (ds : List D) : DS := ds.map some ++ List.replicate (N.length - ds.length) none
section
variable {P : Program} {w : World} {K : PySem.W.Frag} {mg : Str → Option Value} {base : Heap}
theorem fnD {x qual : Str} {st : Stmt} {f : Addr} {fd : FuncData} {N ps : List Str} {k : Nat} {sp : SpD} (F : Fun K x qual st f fd) (S : FnScope N ps (defScope st)) (len : ∀ ds M Q, sp ds M Q → ds.length = ps.length)
    (hbody : ∀ X : Cx, X.prog = P → True) (body : ∀ (cdv : Value) (A : Around) (outer : List Env) (s : Shared) (H : Hp) (E : XK), Room k (A.deeper (envOfC qual (defScope st) s.heap.objs.size f cdv)) →
      ∃ t, DSs (cxOf CX0 P w K mg base N qual (defScope st) f cdv A outer s H E).nox (defBody st) t ∧ ∀ ds M Q, sp ds M Q → t { nx := fun _ M' => Ret Q .non M', rt := Ret Q } (startD N ds) M) : FnOk P w K mg base CX0 (k + 1) f fd ps (liftSp K sp) := by
  refine F.ok S (fun vs H Q E ⟨ds, M, R, rs, _, q, _⟩ => by rw [← rs.length]; exact len _ _ _ q) fun cdv A outer s H vs Q E hr ⟨ds, M, R, rs, a, q, fin⟩ => ?_
  obtain ⟨t, h, hq⟩ := body cdv A outer s H E hr
  refine ⟨_, h, startD N ds, M, slots_start rs, a, { nx := fun _ M' => Ret R .non M', rt := Ret R }, ⟨fun δ' M' σ' H' g s' a' q' => ?_, fun d M' v H' g r a' ⟨M2, s2, q'⟩ => fin _ _ _ _ g r (a'.sub s2) q', fun _ _ _ _ _ _ _ z => z, fun _ _ _ _ _ _ _ z => z⟩, hq ds M R q⟩
  obtain ⟨M2, s2, q'⟩ := q'
  exact fin .non M2 .non H' g (by rw [Rep]) (a'.sub s2) q'
/-- what the top has written of a def -/
noncomputable def Txt (K : PySem.W.Frag) (mg : Str → Option Value) (x : Str) (st : Stmt) : Prop := ∃ f fd, Fun K x x st f fd ∧ mg x = some (.ref f)
theorem Txt.mk {h : Heap} {x : Str} {st : Stmt} {f : Addr} {oc : Value} {od an : Option Addr} {osl : Array (Option Value)} {kV doc pm cdv ct : Value} (X : K.In h) (G : h.Ns mainGlobals mg) (a : PySem.W.nsIn K mainGlobals x = some (some (.ref f)))
    (l : K.lookup f = some ⟨oc, od, .func (PySem.W.fnOf x x (defArgs st) (defBody st) (defScope st) .none kV doc pm an cdv ct), osl⟩)
    (c : PySem.W.codeIn K cdv x = true) (k : PySem.W.keepIn K (.ref f) = true) : Txt K mg x st := ⟨f, _, fun_mk l c k, PySem.W.mg_of X G a⟩
theorem calD {x : Str} {st : Stmt} {N ps : List Str} {k : Nat} {sp : SpD} (T : Txt K mg x st) (S : FnScope N ps (defScope st))
    (hb : ∀ (kV doc pm : Value) (an : Option Addr) (cdv ct : Value) (us : List Value), us.length = ps.length → bindArgs (PySem.W.fnOf x x (defArgs st) (defBody st) (defScope st) .none kV doc pm an cdv ct) ⟨us, []⟩ = pure (ps.zip us))
    (len : ∀ ds M Q, sp ds M Q → ds.length = ps.length)
    (body : ∀ (f : Addr) (cdv : Value) (A : Around) (outer : List Env) (s : Shared) (H : Hp) (E : XK), Room k (A.deeper (envOfC x (defScope st) s.heap.objs.size f cdv)) →
      ∃ t, DSs (cxOf CX0 P w K mg base N x (defScope st) f cdv A outer s H E).nox (defBody st) t ∧ ∀ ds M Q, sp ds M Q → t { nx := fun _ M' => Ret Q .non M', rt := Ret Q } (startD N ds) M) : Cal P w K mg base (k + 1) x sp := by
  obtain ⟨f, fd, F, hm⟩ := T
  exact ⟨f, fd, ps, fnD F S len (fun _ _ => trivial) (body f), hm, F.kp, F.binds hb⟩
end
end SD

set_option Elab.async false
set_option linter.all false
set_option maxRecDepth 100000
namespace SD
open PySem PySem.Spec PyProof.Rows L2
theorem bt_abs : bootBuiltins "abs" = some (.builtin "abs") := by decide +kernel
theorem bt_max : bootBuiltins "max" = some (.builtin "max") := by decide +kernel
theorem bt_min : bootBuiltins "min" = some (.builtin "min") := by decide +kernel
theorem bt_len : bootBuiltins "len" = some (.builtin "len") := by decide +kernel
theorem bt_all : bootBuiltins "all" = some (.builtin "all") := by decide +kernel
theorem bt_isinstance : bootBuiltins "isinstance" = some (.builtin "isinstance") := by decide +kernel
theorem bt_tuple : bootBuiltins "tuple" = some (.type "tuple") := by decide +kernel
theorem bt_list : bootBuiltins "list" = some (.type "list") := by decide +kernel
theorem bt_int : bootBuiltins "int" = some (.type "int") := by decide +kernel
theorem bt_bool : bootBuiltins "bool" = some (.type "bool") := by decide +kernel
section
variable {P : Program} {w : World} {K : PySem.W.Frag} {mg : Str → Option Value}
theorem lawD {x : Str} {st : Stmt} {N : List Str} {p : Str} {k : Nat} {sp : SpD} {fa : Addr} (T : Txt K mg x st) (hfa : mg x = some (.ref fa)) (S : FnScope N [p] (defScope st))
    (hb : ∀ (kV doc pm : Value) (an : Option Addr) (cdv ct : Value) (us : List Value), us.length = [p].length → bindArgs (PySem.W.fnOf x x (defArgs st) (defBody st) (defScope st) .none kV doc pm an cdv ct) ⟨us, []⟩ = pure ([p].zip us))
    (len : ∀ ds M Q, sp ds M Q → ds.length = [p].length)
    (body : ∀ (base : Heap) (f : Addr) (cdv : Value) (A : Around) (outer : List Env) (s : Shared) (H : Hp) (E : XK), Room k (A.deeper (envOfC x (defScope st) s.heap.objs.size f cdv)) →
      ∃ t, DSs (cxOf CX0 P w K mg base N x (defScope st) f cdv A outer s H E).nox (defBody st) t ∧ ∀ ds M Q, sp ds M Q → t { nx := fun _ M' => Ret Q .non M', rt := Ret Q } (startD N ds) M) :
    ∃ fd, (∀ (s : Shared) (u : Value), BindsTo s fd ⟨[u], []⟩ [(p, u)]) ∧ ∀ base : Heap, FnOk P w K mg base CX0 (k + 1) fa fd [p] (liftSp K sp) := by
  obtain ⟨f, fd, F, hm⟩ := T
  have e := hfa.symm.trans hm
  cases e
  refine ⟨fd, fun s u => ?_, fun base => fnD F S len (fun _ _ => trivial) (body base _)⟩
  obtain ⟨oc, od, kV, doc, pm, an, cdv, ct, osl, rfl, lk, hcd⟩ := F.ex
  exact .of_eq (hb kV doc pm an cdv ct [u] rfl)
end
theorem law_walk {l : PySem.W.OpenLaw} {k : Nat} {q : Program} {loose : List Str} {XP : (Str → Option Value) → Heap → Prop} {YP : World → Heap → Prop} {d : DefRec} {K : Params → PySem.W.Frag} {sp : SpD} {x : Str}
    (hn : l.most = some 63) (hdf : d.params.defaults = []) (hr : Room k callerA)
    (hY : ∀ (w : World) (h : Heap), YP w h → (K w.params).In h)
    (F : ∀ (w : World) (mg : Str → Option Value) (fa : Addr) (h : Heap), (K w.params).In h → h.Ns mainGlobals mg → mg d.name = some (.ref fa) →
      ∃ fd : FuncData, (∀ (s : Shared) (u : Value), BindsTo s fd ⟨[u], []⟩ [(x, u)]) ∧
        ∀ base : Heap, FnOk l.prog w (K w.params) mg base CX0 k fa fd [x] (liftSp (K w.params) sp))
    (hsp : ∀ (ns : List Int) (M : MH), ns.length ≤ 63 → sp [.rol (ns.map D.int)] M (fun d _ => d = .bl true)) :
    PySem.W.WalkO q loose XP YP l.row.toRowW d [] (fun f vs => PySem.call f vs) := by
  refine walk_of (x := x) (n := 63) (CX := fun _ => CX0) (sp := fun w => liftSp (K w.params) sp) hn (by decide) hdf hr hY (fun w mg fa h a b c => ?_) (fun w H a ns hl hO hS => ?_) fun _ _ _ _ _ z => z
  · obtain ⟨fd, h1, h2⟩ := F w mg fa h a b c
    exact ⟨fd, h1, fun base _ _ => h2 base⟩
  · have hF : SqF (K w.params) H a (ns.map V.int) := by
      rcases hS with (z | z) | z
      · rcases hO a with y | ⟨o, xs, y⟩
        · rw [z] at y; cases y
        · rw [z] at y; cases y
      · exact .inl z
      · exact .inr z
    refine ⟨[.rol (ns.map D.int)], fun _ => none, _, .cons (by rw [Rep]; exact ⟨a, _, rfl, hF, reps_ints ns⟩) .nil, (fun _ _ e => nomatch e : Abs (K w.params) H fun _ => none), hsp ns _ hl, fun d M' v H' g r a' e => ?_⟩
    subst e
    rw [Rep] at r
    exact r
end SD

set_option Elab.async false
set_option linter.all false
set_option maxRecDepth 100000
/-! Fractions as rational numbers. -/
namespace Ma
open PySem PySem.Spec PyProof.Rows L2 SD
noncomputable abbrev fr (q : Rat) : D := .tup [.int q.num, .int (q.den : Int)]
theorem den_pos (q : Rat) : (0 : Int) < (q.den : Int) := by have := q.den_pos; omega
noncomputable def Bq (n : Nat) (q : Rat) : Prop := Bd n q.num ∧ Bd n (q.den : Int)
theorem Bq.mono {m n : Nat} {q : Rat} (h : Bq m q) (l : m ≤ n) : Bq n q := ⟨h.1.mono l, h.2.mono l⟩
theorem fdiv_pos {t b : Int} (hb : 0 < b) : t.fdiv b = t / b := Int.fdiv_eq_ediv_of_nonneg _ (by omega)
theorem fdiv_neg {t b : Int} (hd : b ∣ t) (hb : 0 < b) : t.fdiv (-b) = -(t / b) := by
  obtain ⟨c, rfl⟩ := hd
  have hb' : b ≠ 0 := by omega
  rw [Int.mul_ediv_cancel_left _ hb']
  have : b * c = -b * -c := by rw [Int.neg_mul_neg]
  rw [this]
  exact Int.mul_fdiv_cancel_left _ (by omega)
theorem g_dvd_l (t b : Int) : ((Nat.gcd t.natAbs b.natAbs : Nat) : Int) ∣ t := Int.ofNat_dvd_left.mpr (Nat.gcd_dvd_left _ _)
theorem g_dvd_r (t b : Int) : ((Nat.gcd t.natAbs b.natAbs : Nat) : Int) ∣ b := Int.ofNat_dvd_left.mpr (Nat.gcd_dvd_right _ _)
theorem gcd_comm' (t b : Int) : Int.gcd b t = Nat.gcd t.natAbs b.natAbs := by
  unfold Int.gcd
  exact Nat.gcd_comm _ _
theorem g_pos {t b : Int} (hb : b ≠ 0) : 0 < Nat.gcd t.natAbs b.natAbs := Nat.gcd_pos_of_pos_right _ (by omega)
/-- the fraction's two numbers, the bottom above 0 -/
theorem low_pos {t b : Int} (hb : 0 < b) : t.fdiv (Nat.gcd t.natAbs b.natAbs : Nat) = (Rat.divInt t b).num ∧ b.fdiv (Nat.gcd t.natAbs b.natAbs : Nat) = ((Rat.divInt t b).den : Int) := by
  have hg := g_pos (t := t) (b := b) (by omega)
  rw [fdiv_pos (by omega), fdiv_pos (by omega), Rat.num_divInt, Rat.den_divInt, if_neg (by omega), Int.sign_eq_one_of_pos hb, Int.one_mul, gcd_comm']
  refine ⟨rfl, ?_⟩
  rw [Int.natCast_ediv]
  congr 1
  omega
theorem low_neg {t b : Int} (hb : b < 0) : t.fdiv (-((Nat.gcd t.natAbs b.natAbs : Nat) : Int)) = (Rat.divInt t b).num ∧ b.fdiv (-((Nat.gcd t.natAbs b.natAbs : Nat) : Int)) = ((Rat.divInt t b).den : Int) := by
  have hg := g_pos (t := t) (b := b) (by omega)
  rw [fdiv_neg (g_dvd_l t b) (by omega), fdiv_neg (g_dvd_r t b) (by omega), Rat.num_divInt, Rat.den_divInt, if_neg (by omega), Int.sign_eq_neg_one_of_neg hb, gcd_comm']
  constructor
  · rw [show (-1 : Int) * t = -t from by omega, Int.neg_ediv_of_dvd (g_dvd_l t b)]
  · rw [Int.natCast_ediv, show ((b.natAbs : Nat) : Int) = -b from by omega, Int.neg_ediv_of_dvd (g_dvd_r t b)]
theorem divInt_len {t b : Int} (hb : b ≠ 0) : (Rat.divInt t b).num.natAbs ≤ t.natAbs ∧ (Rat.divInt t b).den ≤ b.natAbs := by
  constructor
  · rw [Rat.num_divInt]
    refine Nat.le_trans (Int.natAbs_ediv_le_natAbs _ _) ?_
    rw [Int.natAbs_mul]
    rcases Int.lt_trichotomy b 0 with h | h | h
    · rw [Int.sign_eq_neg_one_of_neg h]; simp
    · exact absurd h hb
    · rw [Int.sign_eq_one_of_pos h]; simp
  · rw [Rat.den_divInt, if_neg hb]
    exact Nat.div_le_self _ _
theorem Bq.divInt {n : Nat} {t b : Int} (hb : b ≠ 0) (h1 : Bd n t) (h2 : Bd n b) : Bq n (Rat.divInt t b) := by
  obtain ⟨a1, a2⟩ := divInt_len (t := t) hb
  exact ⟨Nat.lt_of_le_of_lt a1 h1, Nat.lt_of_le_of_lt (by simpa using a2) h2⟩
theorem mod_nat (x y : Nat) : Int.fmod (x : Int) (y : Int) = ((x % y : Nat) : Int) := by
  rw [Int.fmod_eq_emod_of_nonneg _ (by omega)]
  rfl
noncomputable abbrev spt (a b : Rat) : D := .tup [fr a, fr b]
theorem den_ne (q : Rat) : (q.den : Int) ≠ 0 := by have := q.den_pos; omega
theorem add_eq (q r : Rat) : Rat.divInt (q.num * (r.den : Int) + r.num * (q.den : Int)) ((q.den : Int) * (r.den : Int)) = q + r := by
  rw [← Rat.divInt_add_divInt _ _ (den_ne q) (den_ne r), Rat.num_divInt_den, Rat.num_divInt_den]
theorem sub_eq (q r : Rat) : Rat.divInt (q.num * (r.den : Int) - r.num * (q.den : Int)) ((q.den : Int) * (r.den : Int)) = q - r := by
  rw [← Rat.divInt_sub_divInt _ _ (den_ne q) (den_ne r), Rat.num_divInt_den, Rat.num_divInt_den]
theorem mul_eq (q r : Rat) : Rat.divInt (q.num * r.num) ((q.den : Int) * (r.den : Int)) = q * r := by
  rw [← Rat.divInt_mul_divInt, Rat.num_divInt_den, Rat.num_divInt_den]
theorem dd_ne (q r : Rat) : (q.den : Int) * (r.den : Int) ≠ 0 := Int.mul_ne_zero (den_ne q) (den_ne r)
theorem Bq.t_add {n : Nat} {q r : Rat} (a : Bq n q) (b : Bq n r) : Bd (2 * n + 1) (q.num * (r.den : Int) + r.num * (q.den : Int)) := ((a.1.mul b.2).add (b.1.mul a.2)).mono (by omega)
theorem Bq.t_sub {n : Nat} {q r : Rat} (a : Bq n q) (b : Bq n r) : Bd (2 * n + 1) (q.num * (r.den : Int) - r.num * (q.den : Int)) := ((a.1.mul b.2).sub (b.1.mul a.2)).mono (by omega)
theorem Bq.t_mul {n : Nat} {q r : Rat} (a : Bq n q) (b : Bq n r) : Bd (2 * n + 1) (q.num * r.num) := (a.1.mul b.1).mono (by omega)
theorem Bq.t_den {n : Nat} {q r : Rat} (a : Bq n q) (b : Bq n r) : Bd (2 * n + 1) ((q.den : Int) * (r.den : Int)) := (a.2.mul b.2).mono (by omega)
theorem Bq.add {n : Nat} {q r : Rat} (a : Bq n q) (b : Bq n r) : Bq (2 * n + 1) (q + r) := by rw [← add_eq]; exact .divInt (dd_ne q r) (a.t_add b) (a.t_den b)
theorem Bq.sub {n : Nat} {q r : Rat} (a : Bq n q) (b : Bq n r) : Bq (2 * n + 1) (q - r) := by rw [← sub_eq]; exact .divInt (dd_ne q r) (a.t_sub b) (a.t_den b)
theorem Bq.mul {n : Nat} {q r : Rat} (a : Bq n q) (b : Bq n r) : Bq (2 * n + 1) (q * r) := by rw [← mul_eq]; exact .divInt (dd_ne q r) (a.t_mul b) (a.t_den b)
theorem Bq.neg {n : Nat} {q : Rat} (a : Bq n q) : Bq n (-q) := ⟨by rw [Rat.neg_num]; exact a.1.neg, by rw [Rat.neg_den]; exact a.2⟩
/-- the side -/
noncomputable def sgn (z : Rat) : Int := if 0 < z then 1 else if z < 0 then -1 else 0
noncomputable def cr (a b c d x y : Rat) : Rat := (c - a) * (y - b) - (d - b) * (x - a)
noncomputable abbrev wll (a b c d : Rat) : D := .tup [spt a b, spt c d]
noncomputable def ah (a b c d : Rat) : Prop := a < c ∨ a = c ∧ b < d
noncomputable instance (a b c d : Rat) : Decidable (ah a b c d) := inferInstanceAs (Decidable (_ ∨ _))
/-! the sixth law: a spot at a part p of the wall's length and s aside -/
noncomputable def absq (q : Rat) : Rat := if q < 0 then -q else q
theorem Bq.absq {n : Nat} {q : Rat} (h : Bq n q) : Bq n (absq q) := by
  unfold Ma.absq
  split
  · exact h.neg
  · exact h
theorem pos_int {i : Int} (h : 0 < i) : (0 : Rat) < (i : Rat) := by
  rw [Rat.lt_iff]
  simpa using h
theorem pick {xs : List Int} {v : Int} (h0 : 0 ≤ v) (h1 : v < xs.length) {P : Int → Prop} (h : ∀ m ∈ xs, P m) : ∃ m, atI (xs.map D.int) v = some (.int m) ∧ P m := by
  obtain ⟨j, rfl⟩ : ∃ j : Nat, v = (j : Int) := ⟨v.toNat, by omega⟩
  have hj : j < xs.length := by omega
  exact ⟨xs[j], atI_nat (by simp [hj]), h _ (List.getElem_mem hj)⟩
end Ma

set_option Elab.async false
set_option linter.all false
set_option maxRecDepth 100000
namespace SD
open PySem PySem.Spec PyProof.Rows L2
noncomputable def clOf (names : List (Str × NameKind)) (env : Env) : List (Str × Addr) := (names.filter fun y => y.2 == .free).reverse.map fun y => (y.1, (env.cells.lookup y.1).getD 0)
theorem closure_eq {scope : Scope} {env : Env} (h : ∀ y ∈ scope.names, y.2 = .free → ∃ c, env.cells.lookup y.1 = some c) : closureFor scope env = pure (clOf scope.names env) := by
  have key : ∀ (names : List (Str × NameKind)) (acc : List (Str × Addr)), (∀ y ∈ names, y.2 = .free → ∃ c, env.cells.lookup y.1 = some c) →
      (forIn names acc (fun (x : Str × NameKind) (r : List (Str × Addr)) => if (x.2 == NameKind.free) = true then do let a ← cellOf env x.1; pure (ForInStep.yield ((x.1, a) :: r)) else pure (ForInStep.yield r)) : Sem (List (Str × Addr))) = pure (clOf names env ++ acc) := by
    intro names
    induction names with
    | nil => intro acc _; rfl
    | cons y ys ih =>
      intro acc hy
      obtain ⟨n, k⟩ := y
      rw [List.forIn_cons]
      by_cases hk : (k == NameKind.free) = true
      · obtain ⟨c, hc⟩ := hy (n, k) (List.mem_cons_self ..) (by simpa using hk)
        have e1 : cellOf env n = pure c := by unfold cellOf; rw [hc]
        dsimp only
        rw [if_pos hk, e1]
        simp only [pure_bind]
        rw [ih _ fun y hm => hy y (List.mem_cons_of_mem _ hm)]
        unfold clOf
        rw [List.filter_cons_of_pos (by simpa using hk), List.reverse_cons, List.map_append, List.append_assoc]
        simp [hc]
      · dsimp only
        rw [if_neg hk]
        simp only [pure_bind]
        rw [ih _ fun y hm => hy y (List.mem_cons_of_mem _ hm)]
        unfold clOf
        rw [List.filter_cons_of_neg (by simpa using hk)]
  have := key scope.names [] h
  rw [List.append_nil] at this
  unfold closureFor
  exact Eq.trans (congrArg (fun t : Sem (List (Str × Addr)) => t >>= fun cs => pure cs) this) rfl
theorem lookup_clOf {env : Env} {y : Str} {c : Addr} : ∀ {names : List (Str × NameKind)}, (∀ z ∈ names, z.2 = .free → ∃ c, env.cells.lookup z.1 = some c) → (clOf names env).lookup y = some c → env.cells.lookup y = some c := by
  intro names h e
  have hm := PySem.mem_of_lookup e
  unfold clOf at hm
  obtain ⟨z, hz, e2⟩ := List.mem_map.mp hm
  rw [List.mem_reverse, List.mem_filter] at hz
  obtain ⟨c', hc⟩ := h z hz.1 (by simpa using hz.2)
  rw [hc] at e2
  cases e2
  exact hc
theorem has_clOf {env : Env} {y : Str} {names : List (Str × NameKind)} (hm : (y, NameKind.free) ∈ names) : ∃ c, (clOf names env).lookup y = some c := by
  cases e : (clOf names env).lookup y with
  | some c => exact ⟨c, rfl⟩
  | none =>
    have := List.lookup_eq_none_iff.mp e (y, (env.cells.lookup y).getD 0) (List.mem_map.mpr ⟨(y, .free), List.mem_reverse.mpr (List.mem_filter.mpr ⟨hm, rfl⟩), rfl⟩)
    simp at this
/-- a name's kind in the block -/
theorem lookup_relabel {env : Env} (hk : env.scope.kind = .function) : ∀ {names : List (Str × NameKind)} {y : Str} {k : NameKind},
    (names.map fun (n, k) => if (k == NameKind.free && env.scope.kind == .function && env.kindOf n == some .cell) then (n, NameKind.cell) else (n, k)).lookup y = some k →
      names.lookup y = some k ∨ (k = .cell ∧ names.lookup y = some .free)
  | [], _, _, h => by simp at h
  | (n, q) :: r, y, k, h => by
    have ih := @lookup_relabel env hk r y k
    rw [List.map_cons] at h
    dsimp only at h
    by_cases hy : (y == n) = true
    · by_cases hc : (q == NameKind.free && env.scope.kind == .function && env.kindOf n == some .cell) = true
      · rw [if_pos hc, List.lookup_cons, hy] at h
        have hf : q = .free := by
          rw [Bool.and_eq_true, Bool.and_eq_true] at hc
          simpa using hc.1.1
        cases h
        right
        exact ⟨rfl, by rw [List.lookup_cons, hy, hf]⟩
      · rw [if_neg hc, List.lookup_cons, hy] at h
        left
        rw [List.lookup_cons, hy]; exact h
    · have hy' : (y == n) = false := by simpa using hy
      have h' : (r.map fun (n, k) => if (k == NameKind.free && env.scope.kind == .function && env.kindOf n == some .cell) then (n, NameKind.cell) else (n, k)).lookup y = some k := by
        split at h
        · rw [List.lookup_cons, hy'] at h; exact h
        · rw [List.lookup_cons, hy'] at h; exact h
      rw [List.lookup_cons, hy']
      exact ih h'
end SD

set_option Elab.async false
set_option linter.all false
set_option maxRecDepth 100000
/-! What a loop or a comprehension walks, as data: a range, a list, a tuple; for; x += e. -/
namespace SD
open PySem PySem.Spec PyProof.Rows L2
theorem pi_imp {X : Cx} {tg iter : Expr} {wi wi' : TI} (h : PI X tg iter wi) (k : ∀ σ H R, wi' σ H R → wi σ H R) : PI X tg iter wi' := fun pins s σ H R I q => h pins s σ H R I (k _ _ _ q)
noncomputable def iSeq (K : PySem.W.Frag) (tl : TE) : TI := fun σ H R => tl σ H fun x H1 => ∃ a, x = .ref a ∧ (((∃ xs, SqL K H1 a xs) ∧ R (Itl K a) H1) ∨ ((∃ xs, SqT K H1 a xs) ∧ R (Itt K a) H1))
theorem pi_seq {X : Cx} {tg l : Expr} {tl : TE} (hl : PE X l tl) : PI X tg l (iSeq X.K tl) := by
  intro pins s σ H R I h
  refine thn (hl pins s σ H _ I h) fun v s1 ⟨x, H1, I1, r1, q1⟩ => ?_
  obtain ⟨a, e, z⟩ := q1
  subst e
  cases r1
  have fp : ∀ b ∈ [s1.heap.objs.size], FpOk X pins H1 b := fun b hb => by
    obtain rfl : b = s1.heap.objs.size := by simpa using hb
    exact I1.fpOk (Nat.le_refl _) (I1.hok.fresh (Nat.le_refl _))
  rcases z with ⟨⟨xs, hq⟩, q⟩ | ⟨⟨xs, hq⟩, q⟩
  · obtain ⟨its, rv, p, hz⟩ := I1.list hq
    exact wpAny_pyIter_list p.isList ⟨_, [s1.heap.objs.size], _, _, H1, rfl, I1.kept (t' := s1.toks) fun b o e => Heap.get?_push_of_some _ e, turn_list a _, ⟨_, Heap.get?_push_size _ rfl, rfl, rfl⟩, fp, q⟩
  · obtain ⟨its, rv, p, hz⟩ := I1.tuple hq
    exact wpAny_pyIter_tuple (show s1.heap.IsTuple a its.toArray from p) ⟨_, [s1.heap.objs.size], _, _, H1, rfl, I1.kept (t' := s1.toks) fun b o e => Heap.get?_push_of_some _ e, turn_tuple a _, ⟨_, Heap.get?_push_size _ rfl, rfl, rfl⟩, fp, q⟩

structure ItD where
  n : Nat
  item : Nat → Option D
  C : MH → Prop
noncomputable abbrev TID := DS → MH → (ItD → MH → Prop) → Prop
structure ItOk (K : PySem.W.Frag) (H1 : Hp) (I : ItD) (J : It) : Prop where
  stop : ∀ H2 M2, Grow K H1 H2 → Abs K H2 M2 → I.C M2 → J.stop I.n H2
  go : ∀ i H2 M2, i < I.n → Grow K H1 H2 → Abs K H2 M2 → I.C M2 → J.go i H2
  yld : ∀ i H2 M2 v H3, i < I.n → Grow K H1 H2 → Abs K H2 M2 → I.C M2 → J.yld i H2 v H3 → Grow K H2 H3 ∧ Abs K H3 M2 ∧ ∃ d, I.item i = some d ∧ Rep K H3 d v
noncomputable def liftI (K : PySem.W.Frag) (t : TID) : TI := fun σ H R => ∃ δ M RD, Slots K H δ σ ∧ Abs K H M ∧ t δ M RD ∧ ∀ I M' H' J, Grow K H H' → Abs K H' M' → RD I M' → ItOk K H' I J → R J H'
noncomputable def DI (X : Cx) (tg iter : Expr) (t : TID) : Prop := PI X tg iter (liftI X.K t)
/-- a list (its own store's, or one that nobody changes) or a tuple -/
noncomputable def seqD (M : MH) : D → List D → Prop
  | .tup ds, es => es = ds
  | .rol ds, es => es = ds
  | .ref a, es => M a = some (.lst es)
  | _, _ => False
noncomputable def dRng1 (ta : TAD) : TID := fun δ M R => ta δ M fun ds M1 => ∃ n : Nat, ds = [.int (n : Int)] ∧ n < 2 ^ 60 ∧ R ⟨n, fun i => some (.int (i : Int)), fun _ => True⟩ M1
noncomputable def dRng2 (ta : TAD) : TID := fun δ M R => ta δ M fun ds M1 => ∃ lo hi : Int, ds = [.int lo, .int hi] ∧ (-(2 ^ 60) ≤ lo ∧ lo < 2 ^ 60 ∧ -(2 ^ 60) ≤ hi ∧ hi < 2 ^ 60) ∧ R ⟨(hi - lo).toNat, fun i => some (.int (lo + i)), fun _ => True⟩ M1
noncomputable def dSeq (tl : TD) : TID := fun δ M R => tl δ M fun d M1 => ∃ ds, seqD M1 d ds ∧ R ⟨ds.length, fun i => ds[i]?, fun M => seqD M d ds⟩ M1
section
variable {X : Cx} {tg : Expr}
theorem di_range1 {a : Expr} {ta : TAD} {p pos : Pos} (hg : Gl X "range") (hm : X.mg "range" = none) (ha : DA X [a] ta) (hs : starEach [a] X.env = [(false, eval a X.env)] := by rfl) : DI X tg (.Call (.Name "range" p) [a] [] pos) (dRng1 ta) :=
  pi_imp (pi_range1 hg hm ha hs) fun σ H R ⟨δ, M, RD, hs, hM, q, fin⟩ => ⟨δ, M, _, hs, hM, q, fun ds M1 vs H1 g1 r1 a1 ⟨n, e, hn, q1⟩ => by
    subst e
    obtain ⟨v, rfl, r⟩ := reps1 r1
    rw [Rep] at r; subst r
    refine ⟨(n : Int), rfl, by omega, by omega, fin _ M1 H1 _ g1 a1 q1 ⟨fun _ _ _ _ _ => by show ((n : Int)).toNat ≤ n; simp, fun i _ _ hi _ _ _ => by show i < ((n : Int)).toNat; simpa using hi, ?_⟩⟩
    rintro i H2 M2 v H3 hi g2 a2 _ ⟨rfl, rfl⟩
    exact ⟨.refl, a2, _, rfl, by rw [Rep]; simp⟩⟩
theorem di_seq {l : Expr} {tl : TD} (hl : DE X l tl) : DI X tg l (dSeq tl) :=
  pi_imp (pi_seq hl) fun σ H R ⟨δ, M, RD, hs, hM, q, fin⟩ => ⟨δ, M, _, hs, hM, q, fun d M1 v H1 g1 r1 a1 ⟨ds, sq, q1⟩ => by
    cases d with
    | tup es =>
      obtain rfl : ds = es := sq
      rw [Rep] at r1
      obtain ⟨a, xs, rfl, hq, rs⟩ := r1
      refine ⟨a, rfl, .inr ⟨⟨xs, hq⟩, fin _ M1 H1 _ g1 a1 q1 ⟨fun H2 _ g2 _ _ => ⟨xs, g2.t _ _ hq, by rw [rs.length]; exact Nat.le_refl _⟩, fun i H2 _ hi g2 _ _ => ?_, ?_⟩⟩⟩
      · have hi' : i < xs.length := by rw [← rs.length]; exact hi
        exact ⟨xs, xs[i], g2.t _ _ hq, by simp [hi']⟩
      · rintro i H2 M2 v H3 hi g2 a2 _ ⟨rfl, hy⟩
        have hi : i < ds.length := hi
        obtain ⟨x, e1, e2⟩ := (rs.mono g2).get (show ds[i]? = some ds[i] by simp [hi])
        have := hy xs (g2.t _ _ hq)
        rw [e1] at this; cases this
        exact ⟨.refl, a2, _, by simp [hi], e2⟩
    | rol es =>
      obtain rfl : ds = es := sq
      rw [Rep] at r1
      obtain ⟨a, xs, rfl, hq, rs⟩ := r1
      refine ⟨a, rfl, .inl ⟨⟨xs, hq.sql⟩, fin _ M1 H1 _ g1 a1 q1 ⟨fun H2 _ g2 _ _ => ⟨xs, (g2.f _ _ hq).sql, by rw [rs.length]; exact Nat.le_refl _⟩, fun i H2 _ hi g2 _ _ => ?_, ?_⟩⟩⟩
      · have hi' : i < xs.length := by rw [← rs.length]; exact hi
        exact ⟨xs, xs[i], (g2.f _ _ hq).sql, by simp [hi']⟩
      · rintro i H2 M2 v H3 hi g2 a2 _ ⟨rfl, hy⟩
        have hi : i < ds.length := hi
        obtain ⟨x, e1, e2⟩ := (rs.mono g2).get (show ds[i]? = some ds[i] by simp [hi])
        have := hy xs (g2.f _ _ hq).sql
        rw [e1] at this; cases this
        exact ⟨.refl, a2, _, by simp [hi], e2⟩
    | ref a =>
      rw [Rep] at r1; subst r1
      obtain ⟨xs, hx, rs⟩ := a1 _ _ (show M1 a = some (.lst ds) from sq)
      refine ⟨a, rfl, .inl ⟨⟨xs, SqL.of hx⟩, fin _ M1 H1 _ g1 a1 q1 ⟨fun H2 M2 g2 a2 c2 => ?_, fun i H2 M2 hi g2 a2 c2 => ?_, ?_⟩⟩⟩
      · obtain ⟨ys, hy, ry⟩ := a2 _ _ (show M2 a = some (.lst ds) from c2)
        exact ⟨ys, SqL.of hy, by rw [ry.length]; exact Nat.le_refl _⟩
      · obtain ⟨ys, hy, ry⟩ := a2 _ _ (show M2 a = some (.lst ds) from c2)
        have hi' : i < ys.length := by rw [← ry.length]; exact hi
        exact ⟨ys, ys[i], SqL.of hy, by simp [hi']⟩
      · rintro i H2 M2 v H3 hi g2 a2 c2 ⟨rfl, hy⟩
        have hi : i < ds.length := hi
        obtain ⟨ys, hys, ry⟩ := a2 _ _ (show M2 a = some (.lst ds) from c2)
        obtain ⟨x, e1, e2⟩ := ry.get (show ds[i]? = some ds[i] by simp [hi])
        have := hy ys (SqL.of hys)
        rw [e1] at this; cases this
        exact ⟨.refl, a2, _, by simp [hi], e2⟩
    | _ => exact sq.elim⟩
/-- for target in source -/
noncomputable def tForD (wd : TID) (g : TGD) (tb : TSD) : TSD := fun B δ M => wd δ M fun I M1 => ∃ W : Nat → DS → MH → Prop, W 0 δ M1 ∧ (∀ i δ M, i ≤ I.n → W i δ M → I.C M) ∧
  (∀ i d δ M, i < I.n → I.item i = some d → W i δ M → g d δ M fun δ2 M2 => tb { B with nx := W (i + 1), ct := W (i + 1), bk := B.nx } δ2 M2) ∧ ∀ δ M, W I.n δ M → B.nx δ M
theorem ds_for {iter : Expr} {body : List Stmt} {wd : TID} {g : TGD} {tb : TSD} {pos : Pos} (hp : PassesOwn (model X.prog X.w) X.A X.env X.xe) (hc : X.calm = true) (hi : DI X tg iter wd) (hG : DG X tg g) (hb : DSs X body tb)
    (hf : ∀ x, foldedSetIterable iter X.env x = pure x := by intro _; rfl) : DSt X (.For tg iter body [] pos) (tForD wd g tb) :=
  ps_imp (ps_for hp hc hi hG hb hf) fun E σ H ⟨δ, M, hs, a, B, ok, q⟩ => ⟨δ, M, _, hs, a, q, fun I M1 H1 J g1 a1 ⟨W, w0, hC, turn, done⟩ io => by
    refine ⟨fun i m σ H2 => m = I.n - i ∧ i ≤ I.n ∧ Grow X.K H1 H2 ∧ ∃ δ M, Slots X.K H2 δ σ ∧ Abs X.K H2 M ∧ W i δ M, ⟨I.n, by simp, Nat.zero_le _, .refl, δ, M1, hs.mono g1, a1, w0⟩, ?_⟩
    rintro i m σ H2 ⟨rfl, hi, g2, δ2, M2, s2, a2, w2⟩
    by_cases hlt : i < I.n
    · refine .inr ⟨io.go i H2 M2 hlt g2 a2 (hC _ _ _ hi w2), fun σ' H3 => Grow X.K H1 H3 ∧ ∃ δ M, Slots X.K H3 δ σ' ∧ Abs X.K H3 M ∧ W (i + 1) δ M, fun σ' H3 z => ⟨I.n - (i + 1), by omega, rfl, hlt, z⟩, fun x H3 y => ?_⟩
      obtain ⟨g3, a3, d, ed, rd⟩ := io.yld i H2 M2 x H3 hlt g2 a2 (hC _ _ _ hi w2) y
      refine ⟨d, δ2, M2, _, rd, s2.mono g3, a3, turn i d δ2 M2 hlt ed w2, fun δ4 M4 σ4 H4 g4 s4 a4 q4 => ⟨δ4, M4, s4, a4, _, ?_, q4⟩⟩
      have G : Grow X.K H1 H4 := (g2.trans g3).trans g4
      exact ⟨fun δ' M' σ' H' g' s' a' w' => ⟨G.trans g', δ', M', s', a', w'⟩, fun d M v H' g' => ok.rt d M v H' ((g1.trans G).trans g'), fun δ' M' σ' H' g' s' a' q' => ok.nx _ _ _ _ ((g1.trans G).trans g') s' a' q', fun δ' M' σ' H' g' s' a' w' => ⟨G.trans g', δ', M', s', a', w'⟩⟩
    · obtain rfl : i = I.n := by omega
      exact .inl ⟨io.stop H2 M2 g2 a2 (hC _ _ _ hi w2), ok.nx _ _ _ _ (g1.trans g2) s2 a2 (done δ2 M2 w2)⟩⟩
/-- x += e, x -= e, ints -/
noncomputable def tAugD (i : Nat) (te : TD) (f : Int → Int → Int) : TSD := fun B δ M => ∃ k, δ[i]? = some (some (.int k)) ∧ te δ M fun y M1 => ∃ j, y = .int j ∧ B.nx (δ.set i (some (.int (f k j)))) M1
/-- what is made on the way is forgotten -/
noncomputable def tForgetD (t : TD) : TD := fun δ M Q => t δ M fun d M1 => ∃ M2, Sub M2 M1 ∧ Q d M2
end
end SD

set_option Elab.async false
set_option linter.all false
set_option maxRecDepth 100000
namespace SD
/-! ### halves -/
noncomputable def hv (n : Nat) : Nat := if n = 0 then 0 else n.log2 + 1
end SD
namespace Ma
open SD
theorem divInt_pos {a b : Int} (h : 0 < b) : 0 < Rat.divInt a b ↔ 0 < a := by
  have h1 := Rat.divInt_nonneg_iff_of_pos_right (a := -a) h
  rw [← Rat.neg_divInt] at h1
  have : ¬ (0 ≤ -Rat.divInt a b) ↔ 0 < Rat.divInt a b := by
    constructor <;> intro z <;> grind
  rw [← this, h1]
  omega
theorem divInt_neg {a b : Int} (h : 0 < b) : Rat.divInt a b < 0 ↔ a < 0 := by
  have h1 := Rat.divInt_nonneg_iff_of_pos_right (a := a) h
  have : ¬ (0 ≤ Rat.divInt a b) ↔ Rat.divInt a b < 0 := by
    constructor <;> intro z <;> grind
  rw [← this, h1]
  omega
theorem sgn_top {t b : Int} (h : 0 < b) : sgn (Rat.divInt t b) = if 0 < t then 1 else if t < 0 then -1 else 0 := by
  unfold sgn
  simp only [divInt_pos h, divInt_neg h]
/-- the side's number over bottoms that are left as they come -/
theorem lean_eq (a b c d x y : Rat) :
    Rat.divInt ((c.num * (a.den : Int) - a.num * (c.den : Int)) * (y.num * (b.den : Int) - b.num * (y.den : Int)) * ((d.den : Int) * (b.den : Int) * ((x.den : Int) * (a.den : Int))) -
        (d.num * (b.den : Int) - b.num * (d.den : Int)) * (x.num * (a.den : Int) - a.num * (x.den : Int)) * ((c.den : Int) * (a.den : Int) * ((y.den : Int) * (b.den : Int))))
      ((c.den : Int) * (a.den : Int) * ((y.den : Int) * (b.den : Int)) * ((d.den : Int) * (b.den : Int) * ((x.den : Int) * (a.den : Int)))) = cr a b c d x y := by
  rw [← Rat.divInt_sub_divInt _ _ (Int.mul_ne_zero (dd_ne c a) (dd_ne y b)) (Int.mul_ne_zero (dd_ne d b) (dd_ne x a)), ← Rat.divInt_mul_divInt, ← Rat.divInt_mul_divInt, sub_eq, sub_eq, sub_eq, sub_eq]
  rfl
end Ma

set_option Elab.async false
set_option linter.all false
set_option maxRecDepth 100000
/-! Comprehensions: [elt for target in source if test], the target a name or a tuple of names. -/
namespace SD
open PySem PySem.Spec PyProof.Rows L2
noncomputable abbrev NoE : Value → Shared → Prop := fun _ _ => False
/-- the names of a comprehension's block: its own, then those at the places js of the body's -/
noncomputable def cN (X : Cx) (xs : List Str) (js : List Nat) : List Str := xs ++ js.map fun j => (X.N[j]?).getD ("" : Str)
noncomputable def cσ (os : L2.St) (js : List Nat) (σ : L2.St) : L2.St := os ++ js.map fun j => (σ[j]?).join
/-! the block's own cells (names that a comprehension within reads) lie ahead of those of the closure -/
theorem cells_app : ∀ (names : List (Str × NameKind)) (n : Nat) (acc : List (Str × Addr)), cellsFrom n names acc = cellsFrom n names [] ++ acc
  | [], _, _ => rfl
  | (x, k) :: r, n, acc => by
    unfold cellsFrom
    split
    · rw [cells_app r (n + 1) ((x, n) :: acc), cells_app r (n + 1) [(x, n)], List.append_assoc]; rfl
    · exact cells_app r n acc
theorem mem_cells : ∀ (names : List (Str × NameKind)) (n : Nat) {y : Str} {c : Addr}, (y, c) ∈ cellsFrom n names [] → (y, NameKind.cell) ∈ names
  | [], _, _, _, h => by cases h
  | (x, k) :: r, n, y, c, h => by
    unfold cellsFrom at h
    split at h
    · rename_i hk
      rw [cells_app] at h
      rcases List.mem_append.mp h with h | h
      · exact List.mem_cons_of_mem _ (mem_cells r _ h)
      · have e : (y, c) = (x, n) := by simpa using h
        cases e
        obtain rfl : k = .cell := by simpa using hk
        exact List.mem_cons_self
    · exact List.mem_cons_of_mem _ (mem_cells r _ h)
theorem look_app {l r : List (Str × Addr)} {y : Str} {c : Addr} (h : (l ++ r).lookup y = some c) : l.lookup y = some c ∨ (l.lookup y = none ∧ r.lookup y = some c) := by
  rw [List.lookup_append] at h
  cases e : l.lookup y with
  | some c' => rw [e] at h; exact .inl h
  | none => rw [e] at h; exact .inr ⟨rfl, h⟩
theorem mem_clOf {env : Env} {y : Str} {c : Addr} {names : List (Str × NameKind)} (h : (clOf names env).lookup y = some c) : (y, NameKind.free) ∈ names := by
  have hm := PySem.mem_of_lookup h
  unfold clOf at hm
  obtain ⟨z, hz, e⟩ := List.mem_map.mp hm
  rw [List.mem_reverse, List.mem_filter] at hz
  obtain ⟨n, k⟩ := z
  obtain rfl : k = .free := by simpa using hz.2
  cases e
  exact hz.1
theorem relabel_keep {env : Env} {k : NameKind} (hk : k ≠ .free) : ∀ {names : List (Str × NameKind)} {x : Str}, names.lookup x = some k →
    (names.map fun (n, k) => if (k == NameKind.free && env.scope.kind == .function && env.kindOf n == some .cell) then (n, NameKind.cell) else (n, k)).lookup x = some k
  | [], _, h => by simp at h
  | (n, q) :: r, x, h => by
    have ih := @relabel_keep env k hk r x
    rw [List.map_cons]
    dsimp only
    by_cases hx : (x == n) = true
    · rw [List.lookup_cons, hx] at h
      cases h
      rw [if_neg (by intro z; rw [Bool.and_eq_true, Bool.and_eq_true] at z; exact hk (by simpa using z.1.1)), List.lookup_cons, hx]
    · have hx' : (x == n) = false := by simpa using hx
      rw [List.lookup_cons, hx'] at h
      split <;> (rw [List.lookup_cons, hx']; exact ih h)
theorem new_env {M : Model} {A : Around} {E : Value → Shared → Prop} {s : Shared} {scope : Scope} {globals : Addr} {cl : List (Str × Addr)} {qual : Str} {env : Env} {Q : Env → Shared → Prop}
    (h : Q { scope := scope, locals := s.heap.objs.size, globals := globals, cells := cellsFrom (s.heap.objs.size + 1) scope.names cl, qual := qual, func := none, code := env.code, frame := env.frame, builtins := env.builtins } { s with heap := pushCells (s.heap.push { cls := .type "dict", data := .dict #[] }) scope.names }) :
    wpAny M A (newFunctionEnv scope globals cl [] qual none .none (some env)) Q E s := by
  simp only [newFunctionEnv, Option.isSome_some, if_true]
  refine wpAny_bind (wpAny_alloc ?_)
  refine wpAny_bind (wpAny_layCells _ (fun name kind cells => by cases hkc : kind == NameKind.cell <;> simp [hkc]) _ _ _ _ ?_)
  rw [show ({ s with heap := s.heap.push { cls := .type "dict", data := .dict #[] } } : Shared).heap.objs.size = s.heap.objs.size + 1 from Heap.size_push ..]
  refine wpAny_bind ?_
  rw [List.forIn_nil]
  exact wpAny_pure (wpAny_pure h)
/-- the block's environment -/
noncomputable def cEnv (scope : Scope) (C : Addr) (env : Env) : Env :=
  { scope := relabel scope env, locals := C, globals := env.globals, cells := cellsFrom (C + 1) scope.names (clOf scope.names env), qual := env.qual, func := none, code := env.code, frame := env.frame, builtins := env.builtins }
/-- the context of a comprehension's block -/
noncomputable def cxC (X : Cx) (xs : List Str) (js : List Nat) (scope : Scope) (C : Addr) (s : Shared) (H : Hp) (fp : List Addr) : Cx where
  prog := X.prog
  w := X.w
  K := X.K
  mg := X.mg
  base := X.base
  A := X.A
  N := cN X xs js
  s₀ := s
  H₀ := H
  env := cEnv scope C X.env
  outer := X.stack
  stack := X.stack
  ex := fp
  fn := fun y => xs.contains y
  calm := X.calm
  pn := []
  xe := fun _ _ => False
/-- what the tables must say -/
structure CScope (X : Cx) (xs : List Str) (js : List Nat) (scope : Scope) : Prop where
  kind : scope.kind = .function
  cell : ∀ y ∈ scope.names, y.2 = .cell → y.1 ∈ xs
  free' : ∀ y ∈ scope.names, y.2 = .free → y.1 ∉ xs
  names : ∀ y ∈ scope.names, y.2 = .local → scope.names.lookup y.1 = some .local
  own : ∀ x ∈ xs, scope.names.lookup x = some .local ∨ scope.names.lookup x = some .cell
  out : ∀ y ∈ scope.names, y.2 = .free → X.env.kindOf y.1 = some .cell ∨ X.env.kindOf y.1 = some .free
  nd : (cN X xs js).Nodup
  js : ∀ j ∈ js, scope.names.lookup ((X.N[j]?).getD ("" : Str)) ≠ some .local
section
variable {X : Cx} {xs : List Str} {js : List Nat} {scope : Scope} {pins : List (Addr × Obj)} {σ : L2.St} {H : Hp} {s : Shared} {fp : List Addr}
theorem CScope.cells (c : CScope X xs js scope) (ok : X.Ok) : ∀ y ∈ scope.names, y.2 = .free → ∃ a, X.env.cells.lookup y.1 = some a := fun y hy hf => ok.has _ (c.out y hy hf)
theorem CScope.clos (c : CScope X xs js scope) (ok : X.Ok) : closureFor scope X.env = pure (clOf scope.names X.env) := closure_eq (c.cells ok)
theorem CScope.kindOf (c : CScope X xs js scope) (ok : X.Ok) {C : Addr} {y : Str} {k : NameKind} (e : (cEnv scope C X.env).kindOf y = some k) : scope.names.lookup y = some k ∨ (k = .cell ∧ scope.names.lookup y = some .free) :=
  lookup_relabel ok.kind e
/-- the block begins -/
theorem inv_comp (c : CScope X xs js scope) (I : Inv X pins σ H s) (hf : ∀ b ∈ fp, FpOk X pins H b) (hfp : ∀ b ∈ fp, b < s.heap.objs.size) {h' : Heap} (eh : h' = pushCells (s.heap.push { cls := .type "dict", data := .dict #[] }) scope.names) (k : ∀ b o, s.heap.get? b = some o → h'.get? b = some o) :
    Inv (cxC X xs js scope s.heap.objs.size s H fp) [] (cσ (List.replicate xs.length none) js σ) H { s with heap := h' } := by
  have ok := I.ok
  have hn : h'.Ns s.heap.objs.size fun _ => none := by rw [eh]; exact (Heap.Ns.new s.heap (.type "dict")).keeps (pushCells_keeps _ _)
  have cok : CellsOk h' (s.heap.objs.size + 1) (cellsFrom (s.heap.objs.size + 1) scope.names []) := by
    have := cellsFrom_ok scope.names (s.heap.push { cls := .type "dict", data := .dict #[] }) (s.heap.objs.size + 1) [] ⟨fun _ _ hm => (nomatch hm), List.Pairwise.nil⟩ (by rw [Heap.size_push]; exact Nat.le_refl _)
    rw [Heap.size_push] at this
    rw [eh]; exact this
  have cl : ∀ {y : Str} {a : Addr}, (clOf scope.names X.env).lookup y = some a → X.env.cells.lookup y = some a := fun e => lookup_clOf (c.cells ok) e
  have olt : ∀ {y : Str} {a : Addr}, X.env.cells.lookup y = some a → a < s.heap.objs.size := fun e => by obtain ⟨v, z⟩ := I.cell _ _ e; exact z.lt
  -- a cell of the block: new, or the closure's
  have both : ∀ {y : Str} {a : Addr}, (cEnv scope s.heap.objs.size X.env).cells.lookup y = some a → ((y, a) ∈ cellsFrom (s.heap.objs.size + 1) scope.names [] ∧ s.heap.objs.size < a) ∨ X.env.cells.lookup y = some a := fun {y a} e => by
    have e : (cellsFrom (s.heap.objs.size + 1) scope.names (clOf scope.names X.env)).lookup y = some a := e
    rw [cells_app] at e
    rcases look_app e with z | ⟨_, z⟩
    · exact .inl ⟨PySem.mem_of_lookup z, (cok.empty _ _ (PySem.mem_of_lookup z)).2⟩
    · exact .inr (cl z)
  have free : ∀ {y : Str}, (cEnv scope s.heap.objs.size X.env).kindOf y = some .cell ∨ (cEnv scope s.heap.objs.size X.env).kindOf y = some .free → scope.names.lookup y = some .cell ∨ scope.names.lookup y = some .free := fun {y} e => by
    rcases e with e | e
    · rcases c.kindOf ok e with z | ⟨_, z⟩
      · exact .inl z
      · exact .inr z
    · rcases c.kindOf ok e with z | ⟨z, _⟩
      · exact .inr z
      · cases z
  refine ⟨⟨ok.mod, c.kind, ok.glob, ok.blt, Nat.le_refl _, fun y z a h1 h2 => ?_, fun y hy => ?_, fun y a h e => ?_, ok.hd, ok.frames, .inl rfl, fun b hb => ⟨Nat.ne_of_lt (hfp b hb), fun y a e => ?_⟩,
    I.bs, Nat.le_trans ok.bsz I.sz, fun b o e hb => ?_, fun b hb => ?_, I.stack, I.stkFree⟩, rfl, I.bare, Un.kept k, ?_, fun y a e => ?_, I.hok.fresh (Nat.le_refl _), fun y a e => ?_, fun p hp => absurd (show p ∈ ([] : List (Addr × Obj)) from hp) (by simp), I.hok.kept k, ?_⟩
  · rcases both h1 with ⟨m1, l1⟩ | o1 <;> rcases both h2 with ⟨m2, l2⟩ | o2
    · exact name_of_addr cok.apart m1 m2
    · exact absurd (olt o2) (Nat.not_lt.mpr (Nat.le_of_lt l1))
    · exact absurd (olt o1) (Nat.not_lt.mpr (Nat.le_of_lt l2))
    · exact ok.inj y z a o1 o2
  · show ∃ c, (cellsFrom (s.heap.objs.size + 1) scope.names (clOf scope.names X.env)).lookup y = some c
    rw [cells_app, List.lookup_append]
    rcases free hy with z | z
    · obtain ⟨a, e⟩ := cell_has (n := s.heap.objs.size + 1) z
      exact ⟨a, by rw [e]; rfl⟩
    · obtain ⟨a, e⟩ := has_clOf (env := X.env) (PySem.mem_of_lookup z)
      cases q : (cellsFrom (s.heap.objs.size + 1) scope.names []).lookup y with
      | none => exact ⟨a, by rw [e]; rfl⟩
      | some a' => exact ⟨a', rfl⟩
  · have hx : y ∈ xs := by simpa [cxC] using h
    have e : (cellsFrom (s.heap.objs.size + 1) scope.names (clOf scope.names X.env)).lookup y = some a := e
    rw [cells_app] at e
    rcases look_app e with z | ⟨_, z⟩
    · exact Nat.le_of_lt (cok.empty _ _ (PySem.mem_of_lookup z)).2
    · exact absurd hx (c.free' _ (mem_clOf z) rfl)
  · rcases both e with ⟨_, l⟩ | o
    · exact Nat.ne_of_gt (Nat.lt_trans (hfp b hb) l)
    · exact (hf b hb).2.2.2.2.1 y a o
  · rcases (hf b hb).2.2.2.1 with z | z
    · exact ok.noex b o e z
    · exact absurd (Nat.lt_of_lt_of_le (Nat.lt_of_lt_of_le (Heap.lt_size e) ok.bsz) z) (Nat.lt_irrefl _)
  · intro z
    rcases List.mem_cons.mp (I.stkSub b z) with y | y
    · exact (hf b hb).2.1 y
    · exact (hf b hb).2.2.1 y
  · refine ⟨_, hn, fun i y v h1 h2 h3 => ?_⟩
    have h1 : (xs ++ js.map fun j => (X.N[j]?).getD ("" : Str))[i]? = some y := h1
    have h2 : (List.replicate xs.length (none : Option V) ++ js.map fun j => (σ[j]?).join)[i]? = some (some v) := h2
    by_cases hi : i < xs.length
    · rw [List.getElem?_append_left (by simpa using hi), List.getElem?_replicate, if_pos hi] at h2
      cases h2
    · have hout : y ∉ xs := fun hy => by
        rw [List.getElem?_append_right (by omega)] at h1
        have nd := c.nd
        unfold cN at nd
        exact (List.nodup_append.mp nd).2.2 y hy y (List.mem_of_getElem? h1) rfl
      rw [List.getElem?_append_right (by omega)] at h1
      rw [List.getElem?_append_right (by simp; omega)] at h2
      rw [List.length_replicate] at h2
      rw [List.getElem?_map] at h1 h2
      cases ej : js[i - xs.length]? with
      | none => rw [ej] at h1; cases h1
      | some j =>
        rw [ej] at h1 h2
        have e1 : (X.N[j]?).getD ("" : Str) = y := Option.some.inj h1
        have e2 : (σ[j]?).join = some v := Option.some.inj h2
        have e3 : σ[j]? = some (some v) := by
          cases q : σ[j]? with
          | none => rw [q] at e2; cases e2
          | some o => rw [q] at e2; exact congrArg some e2
        have hj : j < X.N.length := by rw [← I.len]; exact (List.getElem?_eq_some_iff.mp e3).1
        have e4 : X.N[j]? = some y := by
          rw [List.getElem?_eq_getElem hj] at e1 ⊢
          exact congrArg some e1
        have nl : scope.names.lookup y ≠ some .local := by
          have := c.js j (List.mem_of_getElem? ej)
          rw [e1] at this
          exact this
        have kc : (cEnv scope s.heap.objs.size X.env).kindOf y = some .cell ∨ (cEnv scope s.heap.objs.size X.env).kindOf y = some .free := by
          rcases h3 with z | z | z
          · rcases c.kindOf (C := s.heap.objs.size) ok z with q | ⟨q, _⟩
            · exact absurd q nl
            · cases q
          · exact .inl z
          · exact .inr z
        have hm : (y, NameKind.free) ∈ scope.names := by
          rcases free kc with z | z
          · exact absurd (c.cell _ (PySem.mem_of_lookup z) rfl) hout
          · exact PySem.mem_of_lookup z
        obtain ⟨a, ha⟩ := has_clOf (env := X.env) hm
        have ha2 : (cEnv scope s.heap.objs.size X.env).cells.lookup y = some a := by
          show (cellsFrom (s.heap.objs.size + 1) scope.names (clOf scope.names X.env)).lookup y = some a
          rw [cells_app, List.lookup_append]
          cases q : (cellsFrom (s.heap.objs.size + 1) scope.names []).lookup y with
          | none => rw [ha]; rfl
          | some a' => exact absurd (c.cell _ (mem_cells _ _ (PySem.mem_of_lookup q)) rfl) hout
        have hvis : Vis X.env.scope y := by
          rcases c.out _ hm rfl with z | z
          · exact .inr (.inl z)
          · exact .inr (.inr z)
        obtain ⟨m, _, hl⟩ := I.loc
        obtain ⟨u, r, l⟩ := hl j y v e4 e3 hvis
        refine ⟨u, r, ?_⟩
        rcases l with ⟨z, _⟩ | ⟨_, a', ha', o, ho, hd⟩
        · rcases c.out _ hm rfl with q | q
          · have z' : X.env.kindOf y = some .local := z
            rw [q] at z'; cases z'
          · have z' : X.env.kindOf y = some .local := z
            rw [q] at z'; cases z'
        · refine .inr ⟨kc, a', ?_, o, k _ _ ho, hd⟩
          have := cl ha
          rw [ha'] at this
          cases this
          exact ha2
  · rcases both e with ⟨m, _⟩ | o
    · exact ⟨_, (cok.empty _ _ m).1⟩
    · obtain ⟨v, o, ho, hd⟩ := I.cell y a o
      exact ⟨v, o, k _ _ ho, hd⟩
  · rcases both e with ⟨_, l⟩ | o
    · exact I.hok.fresh (Nat.le_of_lt l)
    · exact I.freeC y a o
  · show (cσ (List.replicate xs.length none) js σ).length = (cN X xs js).length
    unfold cσ cN
    simp
end
/-- the tests of a comprehension -/
noncomputable def PTs (X : Cx) (ifs : List Expr) (t : TT) : Prop := ∀ (pins : List (Addr × Obj)) (s : Shared) (σ : L2.St) (H : Hp) (Q : Bool → Hp → Prop), Inv X pins σ H s → t σ H Q →
  wpAny (model X.prog X.w) X.A (forIn ifs true fun c r => if r = true then do let ok ← isTrue c X.env (eval c X.env); pure (ForInStep.yield ok) else pure (ForInStep.yield r)) (TP X pins σ Q) X.xe s
theorem pts_nil {X : Cx} : PTs X [] (fun _ H Q => Q true H) := fun pins s σ H Q I q => wpAny_tests_nil ⟨H, I, q⟩
theorem pts_one {X : Cx} {c : Expr} {t : TT} (h : PT X c t) : PTs X [c] t := fun pins s σ H Q I q => wpAny_tests_one (h pins s σ H Q I q)
theorem comp_loop {prog : Program} {w : World} {A : Around} {R : Result → Shared → Prop} {s : Shared} {elt target iter : Expr} {ifs : List Expr} {scope : Scope} {pos : Pos} {it acc : Value} {env : Env} (J : Nat → Shared → Prop)
    (step : ∀ n s, J n s → wpAny (model prog w) A (pyNext it) (fun r s1 => match r with
      | none => R (.ok .next) s1
      | some v => wpAny (model prog w) A (letOwnedTupleGo target it v) (fun _ s2 => wpAny (model prog w) A (assign target env v) (fun _ s3 =>
          wpAny (model prog w) A (forIn ifs true fun c r => if r = true then do let ok ← isTrue c env (eval c env); pure (ForInStep.yield ok) else pure (ForInStep.yield r)) (fun ok s4 =>
            if ok = true then wpAny (model prog w) A (eval elt env) (fun x s5 => wpAny (model prog w) A (call (.builtin "list.append") [acc, x]) (fun _ s6 => ∃ m, m < n ∧ J m s6) NoE s5) NoE s4
            else ∃ m, m < n ∧ J m s4) NoE s3) NoE s2) NoE s1) NoE s)
    (n : Nat) (h : J n s) : codeAny (model prog w) A (.compLoop (.ListComp elt [⟨target, iter, ifs, 0⟩] scope pos) 0 it acc env) R s := by
  have no : ∀ {E : Value → Shared → Prop} e s', NoE e s' → E e s' := fun _ _ z => z.elim
  refine codeAny_loop rfl J (fun n s hJ => ?_) n h
  show wpAny _ _ (Sem.onRaise (compTurn (.ListComp elt [⟨target, iter, ifs, 0⟩] scope pos) 0 it acc env) (fun x => do noteFrame x env; theTreesLotGoes x)) _ _ s
  refine wpAny_noted ?_
  rw [compTurn_list]
  refine wpAny_bind (wpAny_standAt (wpAny_bind (wpAny_mono (step n s hJ) (fun r s1 h1 => ?_) no)))
  cases r with
  | none => exact wpAny_pure h1
  | some v =>
    refine wpAny_bind (wpAny_mono h1 (fun _ s2 h2 => wpAny_bind (wpAny_mono h2 (fun _ s3 h3 => wpAny_bind (wpAny_mono h3 (fun ok s4 h4 => ?_) no)) no)) no)
    cases ok with
    | false => exact wpAny_pure ⟨rfl, h4⟩
    | true => exact wpAny_bind (wpAny_bind (wpAny_mono h4 (fun x s5 h5 => wpAny_bind (wpAny_mono h5 (fun _ s6 h6 => wpAny_pure (wpAny_pure ⟨rfl, h6⟩)) no)) no))
/-- the target's own slots behind the store -/
noncomputable abbrev Own := V → Hp → L2.St → Prop
structure TgOk (n : Nat) (g : TG) (own : Own) : Prop where
  len : ∀ y H os, own y H os → os.length = n
  run : ∀ y H os0 tail os (Q : L2.St → Hp → Prop), os0.length = n → own y H os → Q (os ++ tail) H → g y (os0 ++ tail) H Q
/-- [elt for target in iter if test] -/
noncomputable def wComp (js : List Nat) (own : Own) (tc : TT) (te : TE) (σ : L2.St) (J : It) (H1 : Hp) (Q : VK) : Prop := ∀ D, H1 D = none → ∃ W : Nat → Nat → Hp → Prop, (∃ m, W 0 m (upd H1 D (.lst []))) ∧ ∀ i m H, W i m H →
  (J.stop i H ∧ Q (.ref D) H) ∨ (J.go i H ∧ ∀ y H', J.yld i H y H' → ∃ os, own y H' os ∧ tc (cσ os js σ) H' fun b H2 => if b = true then
    te (cσ os js σ) H2 fun v H3 => ∃ xs, H3 D = some (.lst xs) ∧ xs.length < sizeLine ∧ ∃ m', m' < m ∧ W (i + 1) m' (upd H3 D (.lst (xs ++ [v]))) else ∃ m', m' < m ∧ W (i + 1) m' H2)
noncomputable def tCompL (js : List Nat) (own : Own) (wi : TI) (tc : TT) (te : TE) : TE := fun σ H Q => wi σ H fun J H1 => wComp js own tc te σ J H1 Q
section
variable {X : Cx} {xs : List Str} {tg : Expr} {pos : Pos} {js : List Nat} {scope : Scope} {elt iter : Expr} {ifs : List Expr} {te : TE} {tc : TT} {g : TG} {own : Own} {wi : TI} {pins : List (Addr × Obj)} {σ : L2.St} {H : Hp} {s : Shared} {fp : List Addr} {it : Addr} {tn : Nat → Heap → Prop} {J : It}
theorem comp_run (c : CScope X xs js scope) (hc : X.calm = true) (hG : TgOk xs.length g own) (hg : ∀ C s H fp, PG (cxC X xs js scope C s H fp) tg g) (ht : ∀ C s H fp, PTs (cxC X xs js scope C s H fp) ifs tc) (he : ∀ C s H fp, PE (cxC X xs js scope C s H fp) elt te)
    {R : Value → Addr → Result → Shared → Prop} {E : Value → Shared → Prop} {Q : VK}
    (I : Inv X pins σ H s) (T : Turn X.prog X.w X.K tg J fp it tn) (st : tn 0 s.heap) (hf : ∀ b ∈ fp, FpOk X pins H b) (wc : wComp js own tc te σ J H Q)
    (hR : ∀ D C H' s', Inv X pins σ H' s' → FpOk X pins H' C → (∃ m, s'.heap.Ns C m) → Q (.ref D) H' → R (.ref D) C (.ok .next) s') :
    wpAny (model X.prog X.w) X.A (newList []) (fun acc s₃ => wpAny (model X.prog X.w) X.A (newFunctionEnv scope X.env.globals (clOf scope.names X.env) [] X.env.qual none .none (some X.env)) (fun cenv s₄ =>
      codeAny (model X.prog X.w) X.A (.compStart (.ListComp elt [⟨tg, iter, ifs, 0⟩] scope pos) 0 (.ref it) acc { cenv with scope := relabel scope X.env }) (R acc cenv.locals) s₄) E s₃) E s := by
  have hfp : ∀ b ∈ fp, b < s.heap.objs.size := fun b hb => let ⟨o, e, _⟩ := T.obj 0 _ st b hb; Heap.lt_size e
  have hD : H s.heap.objs.size = none := I.hok.fresh (Nat.le_refl _)
  refine wpAny_newObj_type (new_env ?_)
  generalize hh : s.heap.push { cls := .type "list", dict := none, data := .seq ([] : List Value).toArray } = h3
  generalize hh1 : pushCells (({ s with heap := h3 } : Shared).heap.push { cls := .type "dict", data := .dict #[] }) scope.names = h₁
  have k3 : ∀ b o, s.heap.get? b = some o → h3.get? b = some o := fun b o e => by rw [← hh]; exact Heap.get?_push_of_some _ e
  have I3 : Inv X pins σ (upd H s.heap.objs.size (.lst [])) { s with heap := h3 } := by
    refine I.laid (t' := s.toks) k3 (Nat.le_refl _) ?_
    refine ⟨Nat.zero_le _, [], 0, .nil, ?_⟩
    rw [← hh]
    exact Heap.get?_push_size _ rfl
  have hf3 : ∀ b ∈ fp, FpOk X pins (upd H s.heap.objs.size (.lst [])) b := fun b hb => ⟨by rw [upd_ne (Nat.ne_of_lt (hfp b hb))]; exact (hf b hb).1, (hf b hb).2⟩
  have hsz : h3.objs.size = s.heap.objs.size + 1 := by rw [← hh, Heap.size_push]
  have hfp3 : ∀ b ∈ fp, b < h3.objs.size := fun b hb => by rw [hsz]; exact Nat.lt_succ_of_lt (hfp b hb)
  have k4 : ∀ b o, h3.get? b = some o → h₁.get? b = some o := fun b o e => by rw [← hh1]; exact pushCells_keeps _ _ b o (Heap.get?_push_of_some _ e)
  have I4 := inv_comp c I3 hf3 hfp3 (h' := h₁) hh1.symm k4
  obtain ⟨W, ⟨m0, w0⟩, turn⟩ := wc _ hD
  have st4 : tn 0 h₁ := T.keep 0 _ _ st fun b hb o e => k4 b o (k3 b o e)
  generalize hX : cxC X xs js scope h3.objs.size { s with heap := h3 } (upd H s.heap.objs.size (.lst [])) fp = X' at I4
  have fok : ∀ {pins' : List (Addr × Obj)} {H' : Hp} {σ' : L2.St} {s' : Shared}, Inv X' [] σ' H' s' → (∀ b ∈ fp, H' b = none) → ∀ b ∈ fp, FpOk X' [] H' b := fun {pins' H' σ' s'} J' hn b hb => by
    subst hX
    obtain ⟨a1, a2⟩ := J'.ok.exf b hb
    exact ⟨hn b hb, a1, J'.ok.exfs b hb, .inl hb, a2, fun p hp => absurd (show p ∈ ([] : List (Addr × Obj)) from hp) (by simp)⟩
  have loop : codeAny (model X.prog X.w) X.A (.compLoop (.ListComp elt [⟨tg, iter, ifs, 0⟩] scope pos) 0 (.ref it) (.ref s.heap.objs.size) (cEnv scope h3.objs.size X.env)) (R (.ref s.heap.objs.size) h3.objs.size)
      { s with heap := h₁ } := by
    refine comp_loop (fun n s' => ∃ i os H', os.length = xs.length ∧ Inv X' [] (cσ os js σ) H' s' ∧ tn i s'.heap ∧ (∀ b ∈ fp, H' b = none) ∧ W i n H') ?_ m0 ⟨0, _, _, by simp, I4, st4, fun b hb => (hf3 b hb).1, w0⟩
    rintro n s5 ⟨i, os, H5, hl5, I5, st5, fr5, w5⟩
    rcases turn i n H5 w5 with ⟨stop, q⟩ | ⟨go, step⟩
    · subst hX
      refine wpAny_mono (T.done (cxC X xs js scope h3.objs.size { s with heap := h3 } (upd H s.heap.objs.size (.lst [])) fp) rfl rfl rfl hc i [] s5 _ H5 NoE I5 (fok (pins' := []) I5 fr5) st5 stop) (fun r s6 ⟨hr, I6⟩ => ?_) fun _ _ z => z
      subst hr
      refine hR _ _ H5 s6 (I3.call' I6.os I6.base I6.hok I6.bare fun b hb => ⟨(hf3 b hb).2.2.2.1, (hf3 b hb).2.1, (hf3 b hb).2.2.2.2.1, (hf3 b hb).2.2.2.2.2⟩) (I3.fpOk (Nat.le_refl _) I6.free) (let ⟨m, hm, _⟩ := I6.loc; ⟨m, hm⟩) q
    · subst hX
      refine wpAny_mono (T.item (cxC X xs js scope h3.objs.size { s with heap := h3 } (upd H s.heap.objs.size (.lst [])) fp) rfl rfl rfl hc i [] s5 _ H5 NoE I5 (fok (pins' := []) I5 fr5) st5 go) (fun r s6 ⟨u, hr, h6⟩ => ?_) fun _ _ z => z
      subst hr
      refine wpAny_mono h6 (fun _ s7 ⟨y, H7, I7, r7, y7, st7, fr7⟩ => ?_) fun _ _ z => z
      have I7' := I7.pinned (fok (pins' := []) I7 fr7) (T.obj _ _ st7)
      obtain ⟨os8, ow8, q8⟩ := step y H7 y7
      have l8 := hG.len _ _ _ ow8
      refine wpAny_mono (hg _ _ _ _ _ s7 _ H7 y u (fun σ' H' => σ' = cσ os8 js σ ∧ H' = H7) I7' r7 (hG.run y H7 os _ os8 _ hl5 ow8 ⟨rfl, rfl⟩)) (fun _ s8 ⟨σ8, H8, I8, e8, e8'⟩ => ?_) fun _ _ z => z
      subst e8 e8'
      refine wpAny_mono (ht _ _ _ _ _ s8 _ _ _ I8 q8) (fun ok s9 ⟨H9, I9, q9⟩ => ?_) fun _ _ z => z
      have back : ∀ {m' : Nat} {H10 : Hp} {s10 : Shared}, Inv (cxC X xs js scope h3.objs.size { s with heap := h3 } (upd H s.heap.objs.size (.lst [])) fp) ([] ++ pinsAt fp s7.heap) (cσ os8 js σ) H10 s10 → m' < n → W (i + 1) m' H10 →
          ∃ m, m < n ∧ ∃ i os H', os.length = xs.length ∧ Inv (cxC X xs js scope h3.objs.size { s with heap := h3 } (upd H s.heap.objs.size (.lst [])) fp) [] (cσ os js σ) H' s10 ∧ tn i s10.heap ∧ (∀ b ∈ fp, H' b = none) ∧ W i m H' := fun {m' H10 s10} I10 hm' w10 => by
        refine ⟨m', hm', i + 1, os8, H10, l8, I10.unpinned, T.keep _ _ _ st7 fun b hb o e => (I10.pin (b, o) (List.mem_append_right _ (List.mem_append_right _ (mem_pinsAt hb e)))).1, fun b hb => ?_, w10⟩
        obtain ⟨o', e, d⟩ := T.obj _ _ st7 b hb
        exact (I10.pin (b, o') (List.mem_append_right _ (List.mem_append_right _ (mem_pinsAt hb e)))).2.1
      cases ok with
      | false =>
        rw [if_neg Bool.false_ne_true] at q9 ⊢
        obtain ⟨m', hm', w9⟩ := q9
        exact back I9 hm' w9
      | true =>
        rw [if_pos rfl] at q9 ⊢
        refine wpAny_mono (he _ _ _ _ _ s9 _ _ _ I9 q9) (fun v s10 ⟨vv, H10, I10, r10, ys, hd10, hl10, q10⟩ => ?_) fun _ _ z => z
        refine wpAny_mono (mt_append (X := (cxC X xs js scope h3.objs.size { s with heap := h3 } (upd H s.heap.objs.size (.lst [])) fp)) _ s10 _ H10 (.ref s.heap.objs.size) [vv] (.ref s.heap.objs.size) [v] (fun _ H' => ∃ m', m' < n ∧ W (i + 1) m' H') I10 rfl (.cons r10 .nil) ⟨_, ys, vv, rfl, rfl, hd10, hl10, q10⟩) (fun _ s11 ⟨_, H11, I11, _, m', hm', w11⟩ => ?_) fun _ _ z => z
        exact back I11 hm' w11
  exact codeAny_compStart_list loop (T.self X.A 0 _ _ _ st4 loop)
/-- as a value -/
theorem pe_comp (c : CScope X xs js scope) (hc : X.calm = true) (hi : PI X tg iter wi) (hG : TgOk xs.length g own) (hg : ∀ C s H fp, PG (cxC X xs js scope C s H fp) tg g) (ht : ∀ C s H fp, PTs (cxC X xs js scope C s H fp) ifs tc) (he : ∀ C s H fp, PE (cxC X xs js scope C s H fp) elt te) (hs : ∀ x, foldedSetIterable iter X.env x = pure x := by intro _; rfl) :
    PE X (.ListComp elt [⟨tg, iter, ifs, 0⟩] scope pos) (tCompL js own wi tc te) := by
  intro pins s σ H Q I h
  rw [eval_ListComp]
  refine wpAny_comprehension_free (use := none) rfl hs (c.clos I.ok) c.kind c.names (thn (hi pins s σ H _ I h) fun v s1 h1 => thn h1 fun itv s2 ⟨it, fp, tn, J, H2, e, I2, T, st, f2, w⟩ => ?_)
  subst e
  refine comp_run (R := fun acc C => compPost (model X.prog X.w) X.A X.xe none (EP X pins σ Q) acc C) c hc hG hg ht he I2 T st f2 w fun D C H' s' I' fC ⟨m, hm⟩ q => ?_
  exact ⟨m, hm, fun h' hsb => ⟨.ref D, H', I'.turned (t' := s'.toks) (fun b o ne e => hsb.extBut b o ne e) fC.1 fC.2.1 fC.2.2.2.1 fC.2.2.2.2.1 fC.2.2.2.2.2, rfl, q⟩⟩
/-- name = [..] on one row: the store ahead of the block's names -/
theorem ps_comp {i : Nat} {y : Str} {py spos : Pos} (c : CScope X xs js scope) (hc : X.calm = true) (hN : X.N.Nodup) (hi : PI X tg iter wi) (hG : TgOk xs.length g own) (hg : ∀ C s H fp, PG (cxC X xs js scope C s H fp) tg g) (ht : ∀ C s H fp, PTs (cxC X xs js scope C s H fp) ifs tc) (he : ∀ C s H fp, PE (cxC X xs js scope C s H fp) elt te) (hy : X.N[i]? = some y) (hl : X.env.scope.names.lookup y = some .local)
    (hsw : swapsWith (.ListComp elt [⟨tg, iter, ifs, 0⟩] scope pos) (some (.Name y py)) spos.line X.env = pure true) (hs : ∀ x, foldedSetIterable iter X.env x = pure x := by intro _; rfl) :
    PS X (.Assign [.Name y py] (.ListComp elt [⟨tg, iter, ifs, 0⟩] scope pos) spos) (tAsg (tCompL js own wi tc te) (gName i)) := by
  intro pins s σ H B I h
  rw [exec_Assign_Name_used _ _ _ _ hsw]
  refine wpAny_bind (wpAny_standAt (wpAny_bind ?_))
  show wpAny _ X.A (do let _ ← comprehension (.ListComp elt [⟨tg, iter, ifs, 0⟩] scope pos) scope X.env _ (newList []) false (eval iter X.env) (some (assign (.Name y py) X.env))) _ _ s
  refine wpAny_bind (wpAny_mono (wpAny_comprehension_free (use := some (assign (.Name y py) X.env)) (Q := fun _ s' => SP X pins B .next s') rfl hs (c.clos I.ok) c.kind c.names
    (thn (hi pins s σ H _ I h) fun v s1 h1 => thn h1 fun itv s2 ⟨it, fp, tn, J, H2, e, I2, T, st, f2, w⟩ => ?_)) (fun _ s' hq => wpAny_pure (wpAny_pure hq)) fun _ _ e => e)
  subst e
  refine comp_run (R := fun acc C => compPost (model X.prog X.w) X.A X.xe (some (assign (.Name y py) X.env)) (fun _ s' => SP X pins B .next s') acc C) c hc hG hg ht he I2 T st f2 w fun D C H' s' I' fC ⟨m, hm⟩ q => ?_
  show wpAny _ X.A (assign (.Name y py) X.env (.ref D)) _ _ _
  refine wpAny_assign_Name (store_ok2 I' hN hy (.inl hl) (v := .ref D) rfl (fun s9 I9 ⟨a, sb, ha⟩ => ?_) (.inr hl))
  have hne : C ≠ a := by
    rcases ha with z | z
    · rw [z]; exact fC.2.1
    · exact fun e => fC.2.2.2.2.1 y a z e.symm
  refine ⟨m, hm.sameBut sb hne, fun h' hsb => ?_⟩
  exact ⟨_, H', I9.turned (t' := s9.toks) (fun b o ne e => hsb.extBut b o ne e) fC.1 fC.2.1 fC.2.2.2.1 fC.2.2.2.2.1 fC.2.2.2.2.2, q⟩
end
end SD

set_option Elab.async false
set_option linter.all false
set_option maxRecDepth 100000
namespace SD
open PySem PySem.Spec PyProof.Rows L2
inductive Tgt where
  | one | many (n : Nat)
noncomputable def Tgt.len : Tgt → Nat
  | .one => 1
  | .many n => n
noncomputable def ownV (K : PySem.W.Frag) : Tgt → Own
  | .one => fun y _ os => os = [some y]
  | .many n => fun y H os => ∃ a xs, y = .ref a ∧ SqT K H a xs ∧ xs.length = n ∧ os = xs.map some
theorem tg_one {K : PySem.W.Frag} : TgOk 1 (gName 0) (ownV K .one) := ⟨fun _ _ os h => by rw [h]; rfl, fun y H os0 tail os Q hl ho q => by
  match os0, hl with
  | [o], _ => rw [show os = [some y] from ho] at q; exact q⟩
theorem tg_two {K : PySem.W.Frag} : TgOk 2 (gTup K 2 (gCons (gName 0) (gCons (gName 1) gNil))) (ownV K (.many 2)) := ⟨fun _ _ os ⟨a, xs, _, _, hl, e⟩ => by rw [e]; simpa using hl, fun y H os0 tail os Q hl ⟨a, xs, e, hq, hx, ho⟩ q => by
  match os0, hl, xs, hx with
  | [o, o'], _, [u, v], hx => rw [ho] at q; exact ⟨a, _, e, hq, hx, u, _, rfl, v, _, rfl, rfl, q⟩⟩
noncomputable def ownD : Tgt → D → DS → Prop
  | .one, d, os => os = [some d]
  | .many n, d, os => ∃ ds, d = .tup ds ∧ ds.length = n ∧ os = ds.map some
noncomputable def cδ (os : DS) (js : List Nat) (δ : DS) : DS := os ++ js.map fun j => (δ[j]?).join
theorem slots_c {K : PySem.W.Frag} {H : Hp} {δ os : DS} {σ us : L2.St} {js : List Nat} (hs : Slots K H δ σ) (r : Slots K H os us) : Slots K H (cδ os js δ) (cσ us js σ) := by
  refine ⟨by simp [cδ, cσ, r.len], fun i e q => ?_⟩
  unfold cδ at q
  unfold cσ
  by_cases hi : i < os.length
  · rw [List.getElem?_append_left hi] at q
    rw [List.getElem?_append_left (by rw [← r.len]; exact hi)]
    exact r.at' i e q
  · rw [List.getElem?_append_right (by omega)] at q
    rw [List.getElem?_append_right (by rw [← r.len]; omega), ← r.len]
    rw [List.getElem?_map] at q ⊢
    cases ej : js[i - os.length]? with
    | none => rw [ej] at q; cases q
    | some j =>
      rw [ej] at q
      have e2 : (δ[j]?).join = some e := Option.some.inj q
      have e3 : δ[j]? = some (some e) := by
        cases z : δ[j]? with
        | none => rw [z] at e2; cases e2
        | some o => rw [z] at e2; exact congrArg some e2
      obtain ⟨v', e4, e5⟩ := hs.at' j e e3
      exact ⟨v', by rw [show (some j).map (fun j => (σ[j]?).join) = some ((σ[j]?).join) from rfl, e4]; rfl, e5⟩
theorem slots_all {K : PySem.W.Frag} {H : Hp} {ds : List D} {xs : List V} (r : Reps K H ds xs) : Slots K H (ds.map some) (xs.map some) := by
  refine ⟨by simp [r.length], fun i d e => ?_⟩
  rw [List.getElem?_map] at e ⊢
  cases q : ds[i]? with
  | none => rw [q] at e; cases e
  | some d' =>
    rw [q] at e; cases e
    obtain ⟨x, e1, e2⟩ := r.get q
    exact ⟨x, by rw [e1]; rfl, e2⟩
theorem own_lift {K : PySem.W.Frag} {H : Hp} {tk : Tgt} {d : D} {v : V} {os : DS} (r : Rep K H d v) (h : ownD tk d os) : ∃ us, ownV K tk v H us ∧ Slots K H os us := by
  cases tk with
  | one =>
    rw [show os = [some d] from h]
    exact ⟨[some v], rfl, slots_all (.cons r .nil)⟩
  | many n =>
    obtain ⟨ds, rfl, hl, rfl⟩ := h
    rw [Rep] at r
    obtain ⟨a, xs, rfl, hq, rs⟩ := r
    exact ⟨_, ⟨a, xs, rfl, hq, by rw [← rs.length]; exact hl, rfl⟩, slots_all rs⟩
noncomputable def tTrueD : TTD := fun _ M Q => Q true M
/-- what holds between two turns: the items made so far lie in the store at p -/
noncomputable def kComp (I : ItD) (tk : Tgt) (js : List Nat) (tc : TTD) (te : TD) (δ : DS) (M1 : MH) (Q : DK) : Prop := I.n ≤ 1000000 ∧ ∀ p, M1 p = none → ∃ W : Nat → List D → MH → Prop, W 0 [] (updM M1 p (.lst [])) ∧ (∀ i ys M, i ≤ I.n → W i ys M → I.C M) ∧
  (∀ i ys d M, i < I.n → I.item i = some d → W i ys M → ∃ os, ownD tk d os ∧ tc (cδ os js δ) M fun b M2 => if b = true then te (cδ os js δ) M2 fun e M' => ∃ M3, Sub M3 M' ∧ M3 p = some (.lst ys) ∧ W (i + 1) (ys ++ [e]) (updM M3 p (.lst (ys ++ [e]))) else ∃ M3, Sub M3 M2 ∧ W (i + 1) ys M3) ∧ ∀ ys M, W I.n ys M → Q (.ref p) M
noncomputable def tCompD (wd : TID) (tk : Tgt) (js : List Nat) (tc : TTD) (te : TD) : TD := fun δ M Q => wd δ M fun I M1 => kComp I tk js tc te δ M1 Q
section
variable {X : Cx} {K : PySem.W.Frag}
theorem comp_lift {wd : TID} {tk : Tgt} {js : List Nat} {tc : TTD} {te : TD} {σ : L2.St} {H : Hp} {Q : VK} (h : lift K (tCompD wd tk js tc te) σ H Q) : tCompL js (ownV K tk) (liftI K wd) (liftT K tc) (lift K te) σ H Q := by
  obtain ⟨δ, M, R, hs, hM, q, fin⟩ := h
  refine ⟨δ, M, _, hs, hM, q, fun I M1 H1 J g1 a1 kc io p hp => ?_⟩
  obtain ⟨hn, kc⟩ := kc
  obtain ⟨W, w0, hC, turn, done⟩ := kc p (a1.fresh hp)
  refine ⟨fun i m H2 => m = I.n - i ∧ i ≤ I.n ∧ Grow K H1 H2 ∧ ∃ ys M, ys.length ≤ i ∧ Abs K H2 M ∧ W i ys M, ⟨I.n, by simp, Nat.zero_le _, .new hp, [], _, Nat.le_refl _, a1.newL hp .nil, w0⟩, ?_⟩
  rintro i m H2 ⟨rfl, hi, g2, ys, M2, hl, a2, w2⟩
  by_cases hin : i < I.n
  · refine .inr ⟨io.go i H2 M2 hin g2 a2 (hC _ _ _ hi w2), fun v H3 hy => ?_⟩
    obtain ⟨g3, a3, d, ed, rd⟩ := io.yld i H2 M2 v H3 hin g2 a2 (hC _ _ _ hi w2) hy
    obtain ⟨os, ow, q3⟩ := turn i ys d M2 hin ed w2
    obtain ⟨us, uv, su⟩ := own_lift rd ow
    have s3 := slots_c (js := js) (hs.mono ((g1.trans g2).trans g3)) su
    refine ⟨us, uv, cδ os js δ, M2, _, s3, a3, q3, fun b M4 H4 g4 a4 q4 => ?_⟩
    cases b with
    | false =>
      rw [if_neg Bool.false_ne_true] at q4 ⊢
      obtain ⟨M5, s5, w5⟩ := q4
      exact ⟨I.n - (i + 1), by omega, rfl, hin, (g2.trans g3).trans g4, ys, M5, by omega, a4.sub s5, w5⟩
    | true =>
      rw [if_pos rfl] at q4 ⊢
      refine ⟨cδ os js δ, M4, _, s3.mono g4, a4, q4, fun e M' u H5 g5 r5 a5 ⟨M6, s6, e6, w6⟩ => ?_⟩
      obtain ⟨zs, hx, rs⟩ := (a5.sub s6) _ _ e6
      refine ⟨zs, hx, ?_, I.n - (i + 1), by omega, rfl, hin, (((g2.trans g3).trans g4).trans g5).trans (.lst hx), ys ++ [e], _, by simp; omega, (a5.sub s6).setL hx (rs.append (.cons r5 .nil)), w6⟩
      rw [← rs.length]
      exact Nat.lt_of_le_of_lt hl (Nat.lt_of_lt_of_le hin (Nat.le_trans hn (by decide)))
  · obtain rfl : i = I.n := by omega
    exact .inl ⟨io.stop H2 M2 g2 a2 (hC _ _ _ hi w2), fin _ _ _ _ (g1.trans g2) (by rw [Rep]) a2 (done ys M2 w2)⟩
variable {xs : List Str} {tg : Expr} {pos : Pos} {js : List Nat} {scope : Scope} {elt iter : Expr} {ifs : List Expr} {te : TD} {tc : TTD} {g : TG} {tk : Tgt} {wd : TID}
noncomputable def DTs (X : Cx) (ifs : List Expr) (t : TTD) : Prop := PTs X ifs (liftT X.K t)
theorem dts_nil : DTs X [] tTrueD := fun pins s σ H Q I ⟨δ, M, R, hs, hM, q, fin⟩ => pts_nil pins s σ H Q I (fin _ _ _ .refl hM q)
theorem dts_one {c : Expr} {t : TTD} (h : DT X c t) : DTs X [c] t := pts_one h
theorem de_comp (c : CScope X xs js scope) (hc : X.calm = true) (hi : DI X tg iter wd) (hG : TgOk xs.length g (ownV X.K tk)) (hg : ∀ C s H fp, PG (cxC X xs js scope C s H fp) tg g) (ht : ∀ C s H fp, DTs (cxC X xs js scope C s H fp) ifs tc) (he : ∀ C s H fp, DE (cxC X xs js scope C s H fp) elt te)
    (hs : ∀ x, foldedSetIterable iter X.env x = pure x := by intro _; rfl) : DE X (.ListComp elt [⟨tg, iter, ifs, 0⟩] scope pos) (tCompD wd tk js tc te) :=
  pe_imp (pe_comp (te := lift X.K te) (tc := liftT X.K tc) c hc hi hG hg ht he hs) fun _ _ _ h => comp_lift h
theorem ds_comp (i : Nat) {y : Str} {py spos : Pos} (hN : X.N.Nodup) (c : CScope X xs js scope) (hc : X.calm = true) (hi : DI X tg iter wd) (hG : TgOk xs.length g (ownV X.K tk)) (hg : ∀ C s H fp, PG (cxC X xs js scope C s H fp) tg g) (ht : ∀ C s H fp, DTs (cxC X xs js scope C s H fp) ifs tc) (he : ∀ C s H fp, DE (cxC X xs js scope C s H fp) elt te)
    (hy : X.N[i]? = some y := by rfl) (hl : X.env.scope.names.lookup y = some .local := by rfl)
    (hsw : swapsWith (.ListComp elt [⟨tg, iter, ifs, 0⟩] scope pos) (some (.Name y py)) spos.line X.env = pure true := by rfl) (hs : ∀ x, foldedSetIterable iter X.env x = pure x := by intro _; rfl) :
    DSt X (.Assign [.Name y py] (.ListComp elt [⟨tg, iter, ifs, 0⟩] scope pos) spos) (tAsgD (tCompD wd tk js tc te) (gNameD i)) :=
  ps_imp (ps_comp (te := lift X.K te) (tc := liftT X.K tc) c hc hN hi hG hg ht he hy hl hsw hs) fun E σ H ⟨δ, M, hs, a, B, ok, q⟩ =>
    comp_lift ⟨δ, M, _, hs, a, q, fun d M1 v H1 g1 r1 a1 q1 => ok.nx _ _ _ _ g1 ((hs.mono g1).set r1 i) a1 q1⟩
/-- every item made by itself, the store as it was -/
theorem comp_map {I : ItD} {tk : Tgt} {js : List Nat} {te : TD} {δ : DS} {M1 : MH} {Q : DK} (f : Nat → D) (hn : I.n ≤ 1000000) (hC : ∀ p ys, M1 p = none → I.C (updM M1 p (.lst ys)))
    (h : ∀ i d M, i < I.n → I.item i = some d → Sub M1 M → ∃ os, ownD tk d os ∧ ∀ K : DK, (∀ M', Sub M M' → K (f i) M') → te (cδ os js δ) M K) (hq : ∀ p, M1 p = none → Q (.ref p) (updM M1 p (.lst ((List.range I.n).map f)))) : kComp I tk js tTrueD te δ M1 Q := by
  refine ⟨hn, fun p hp => ⟨fun i ys M => ys = (List.range i).map f ∧ M = updM M1 p (.lst ys), ⟨rfl, rfl⟩, ?_, ?_, ?_⟩⟩
  · rintro i ys M _ ⟨_, rfl⟩
    exact hC p ys hp
  · rintro i ys d M hi hd ⟨rfl, rfl⟩
    obtain ⟨os, ow, k⟩ := h i d _ hi hd (.new hp .refl)
    refine ⟨os, ow, ?_⟩
    unfold tTrueD
    refine iteT (k _ ?_)
    exact fun M' s' => ⟨_, s', updM_same, by rw [List.range_succ, List.map_append]; rfl, by rw [updM_updM]⟩
  · rintro ys M ⟨rfl, rfl⟩
    exact hq p hp
end
noncomputable def cchk (X : Cx) (xs : List Str) (js : List Nat) (scope : Scope) : Bool :=
  scope.kind == .function && scope.names.all (fun y => (y.2 != .cell || xs.contains y.1) && (y.2 != .free || !xs.contains y.1)) && scope.names.all (fun y => y.2 != .local || scope.names.lookup y.1 == some .local) && xs.all (fun x => scope.names.lookup x == some .local || scope.names.lookup x == some .cell) &&
    scope.names.all (fun y => y.2 != .free || (X.env.kindOf y.1 == some .cell || X.env.kindOf y.1 == some .free)) && decide (cN X xs js).Nodup && js.all (fun j => scope.names.lookup ((X.N[j]?).getD ("" : Str)) != some .local)
theorem CScope.of {X : Cx} {xs : List Str} {js : List Nat} {scope : Scope} (h : cchk X xs js scope = true) : CScope X xs js scope := by
  unfold cchk at h
  simp only [Bool.and_eq_true] at h
  obtain ⟨⟨⟨⟨⟨⟨h1, h2⟩, h3⟩, h4⟩, h5⟩, h6⟩, h7⟩ := h
  refine ⟨by simpa using h1, fun y hy hc => ?_, fun y hy hf => ?_, fun y hy hl => ?_, fun x hx => ?_, fun y hy hf => ?_, of_decide_eq_true h6, fun j hj => ?_⟩
  · have := List.all_eq_true.mp h2 y hy; rw [hc] at this; simpa using this
  · have := List.all_eq_true.mp h2 y hy; rw [hf] at this; simpa using this
  · have := List.all_eq_true.mp h3 y hy; rw [hl] at this; simpa using this
  · have := List.all_eq_true.mp h4 x hx; simpa using this
  · have := List.all_eq_true.mp h5 y hy; rw [hf] at this; simpa using this
  · have := List.all_eq_true.mp h7 j hj; simpa using this
/-! ### slices of lists and tuples -/
noncomputable abbrev TOD := DS → MH → (Option Int → MH → Prop) → Prop
noncomputable def liftO (K : PySem.W.Frag) (t : TOD) : TO := fun σ H Q => ∃ δ M R, Slots K H δ σ ∧ Abs K H M ∧ t δ M R ∧ ∀ o M' H', Grow K H H' → Abs K H' M' → R o M' → Q o H'
noncomputable def tNoPartD : TOD := fun _ M Q => Q none M
noncomputable def tPartD (t : TD) : TOD := fun δ M Q => t δ M fun x M1 => ∃ i, x = .int i ∧ Q (some i) M1
noncomputable def cutD (xs : List D) (lo hi : Option Int) : List D := (xs.drop (HT.sIx xs.length 0 lo)).take (HT.sIx xs.length xs.length hi - HT.sIx xs.length 0 lo)
noncomputable def rSlD : D → Option Int → Option Int → MH → DK → Prop := fun x lo hi M Q => match x with
  | .ref a => ∃ ds, M a = some (.lst ds) ∧ ∀ p, M p = none → Q (.ref p) (updM M p (.lst (cutD ds lo hi)))
  | .rol ds => ∀ p, M p = none → Q (.ref p) (updM M p (.lst (cutD ds lo hi)))
  | .tup ds => ¬ (HT.sIx ds.length 0 lo = 0 ∧ HT.sIx ds.length ds.length hi = ds.length) ∧ Q (.tup (cutD ds lo hi)) M
  | _ => False
noncomputable def tSlD (te : TD) (tl th : TOD) : TD := fun δ M Q => te δ M fun x M1 => tl δ M1 fun l M2 => th δ M2 fun u M3 => rSlD x l u M3 Q
section
variable {X : Cx} {e a : Expr} {te : TD} {tl th : TOD} {lo hi : Option Expr} {pos p2 : Pos}
theorem po_imp {e : Option Expr} {t t' : TO} (h : PO X e t) (k : ∀ σ H Q, t' σ H Q → t σ H Q) : PO X e t' := fun pins s σ H Q I q => h pins s σ H Q I (k _ _ _ q)
theorem do_some (h : DE X e te) : PO X (some e) (liftO X.K (tPartD te)) := po_imp (po_some h) fun σ H Q ⟨δ, M, R, hs, a, q, fin⟩ => ⟨δ, M, _, hs, a, q, fun d M1 v H1 g1 r1 a1 ⟨i, ei, q1⟩ => by
  subst ei
  rw [Rep] at r1
  exact ⟨i, r1, fin _ _ _ g1 a1 q1⟩⟩
end
end SD

set_option Elab.async false
set_option linter.all false
set_option maxRecDepth 100000
namespace SD
open PySem PySem.Spec PyProof.Rows L2
section
variable {X : Cx} {x y z : Str} {px py pz pt pos : Pos} {kt : Nat} {js : List Nat} {scope : Scope} {elt iter : Expr} {ifs : List Expr} {te : TD} {tc : TTD} {wd : TID} {xs : List Str}
theorem pg_own (c : CScope X xs js scope) (i : Nat) (hx : xs[i]? = some x) {C : Addr} {s : Shared} {H : Hp} {fp : List Addr} : PG (cxC X xs js scope C s H fp) (.Name x px) (gName i) := by
  have hi : i < xs.length := (List.getElem?_eq_some_iff.mp hx).1
  have hm := List.mem_of_getElem? hx
  have hl : Loc (cxC X xs js scope C s H fp).env.scope x := by
    rcases c.own x hm with z | z
    · exact .inl (relabel_keep (by decide) z)
    · exact .inr (relabel_keep (by decide) z)
  refine pg_name (i := i) c.nd ?_ hl (.inl (by show xs.contains x = true; simpa using hm))
  show (xs ++ js.map fun j => (X.N[j]?).getD ("" : Str))[i]? = some x
  rw [List.getElem?_append_left hi]
  exact hx
theorem pg_own2 (c : CScope X [x, y] js scope) (hc : X.calm = true) {C : Addr} {s : Shared} {H : Hp} {fp : List Addr} : PG (cxC X [x, y] js scope C s H fp) (.Tuple [.Name x px, .Name y py] kt pt) (gTup X.K 2 (gCons (gName 0) (gCons (gName 1) gNil))) :=
  pg_tup (X := cxC X [x, y] js scope C s H fp) hc (pgs_cons (pg_own c 0 rfl) (pgs_cons (pg_own c 1 rfl) pgs_nil)) rfl rfl
theorem de_comp1 (c : CScope X [x] js scope) (hc : X.calm = true) (hi : DI X (.Name x px) iter wd) (ht : ∀ C s H fp, DTs (cxC X [x] js scope C s H fp) ifs tc) (he : ∀ C s H fp, DE (cxC X [x] js scope C s H fp) elt te)
    (hs : ∀ x, foldedSetIterable iter X.env x = pure x := by intro _; rfl) : DE X (.ListComp elt [⟨.Name x px, iter, ifs, 0⟩] scope pos) (tCompD wd .one js tc te) :=
  de_comp c hc hi tg_one (fun _ _ _ _ => pg_own c 0 rfl) ht he hs
theorem de_comp2 (c : CScope X [x, y] js scope) (hc : X.calm = true) (hi : DI X (.Tuple [.Name x px, .Name y py] kt pt) iter wd) (ht : ∀ C s H fp, DTs (cxC X [x, y] js scope C s H fp) ifs tc) (he : ∀ C s H fp, DE (cxC X [x, y] js scope C s H fp) elt te)
    (hs : ∀ x, foldedSetIterable iter X.env x = pure x := by intro _; rfl) : DE X (.ListComp elt [⟨.Tuple [.Name x px, .Name y py] kt pt, iter, ifs, 0⟩] scope pos) (tCompD wd (.many 2) js tc te) :=
  de_comp c hc hi tg_two (fun _ _ _ _ => pg_own2 c hc) ht he hs
theorem ds_comp1 (i : Nat) {v : Str} {pv spos : Pos} (hN : X.N.Nodup) (c : CScope X [x] js scope) (hc : X.calm = true) (hi : DI X (.Name x px) iter wd) (ht : ∀ C s H fp, DTs (cxC X [x] js scope C s H fp) ifs tc) (he : ∀ C s H fp, DE (cxC X [x] js scope C s H fp) elt te)
    (hy : X.N[i]? = some v := by rfl) (hl : X.env.scope.names.lookup v = some .local := by rfl)
    (hsw : swapsWith (.ListComp elt [⟨.Name x px, iter, ifs, 0⟩] scope pos) (some (.Name v pv)) spos.line X.env = pure true := by rfl) (hs : ∀ x, foldedSetIterable iter X.env x = pure x := by intro _; rfl) :
    DSt X (.Assign [.Name v pv] (.ListComp elt [⟨.Name x px, iter, ifs, 0⟩] scope pos) spos) (tAsgD (tCompD wd .one js tc te) (gNameD i)) :=
  ds_comp i hN c hc hi tg_one (fun _ _ _ _ => pg_own c 0 rfl) ht he hy hl hsw hs
end
end SD

set_option Elab.async false
set_option linter.all false
set_option maxRecDepth 100000
/-! max and min of two values whose comparison is known; tuples of ints compared. -/
namespace SD
open PySem PySem.Spec PyProof.Rows L2
section
variable {prog : Program} {w : World} {A : Around} {E : Value → Shared → Prop} {s : Shared}

theorem max_two {a b : Value} {c : Bool} {Q : Value → Shared → Prop} (hh : A.handled = none)
    (cmp : ∀ (t : Shared) (Q' : Value → Shared → Prop) (E' : Value → Shared → Prop), (∀ x o, s.heap.get? x = some o → t.heap.get? x = some o) → Q' (.bool c) t → wpAny (model prog w) A.in1 (richCompare .Gt b a) Q' E' t)
    (h : ∀ h' tk, (∀ x o, s.heap.get? x = some o → h'.get? x = some o) → Q (if c = true then b else a) { s with heap := h', toks := tk }) :
    wpAny (model prog w) A (call (.builtin "max") [a, b]) Q E s := by
  have nm : (toString "max" ++ toString ".loop" : String) = "max.loop" := by decide
  refine call_function_tree F.kind_max F.plain_max F.entry_max (F.args_max2 _ _) ?_
  show wpAny _ A.in1 (Builtin.Builtins.bindParams "max" ["key", "default"] 0 ⟨[], []⟩ >>= fun _ => _) _ _ s
  refine wpAny_bind (wpAny_of_eq (a := [none, none]) rfl ?_)
  show wpAny _ A.in1 (newTuple [a, b] >>= fun _ => _) _ _ s
  refine wpAny_bind (wpAny_newObj_type ?_)
  generalize e1 : s.heap.push { cls := .type "tuple", dict := none, data := .seq ([a, b] : List Value).toArray } = h1
  have k1 : ∀ x o, s.heap.get? x = some o → h1.get? x = some o := fun x o q => by rw [← e1]; exact Heap.get?_push_of_some _ q
  have hT : h1.IsTuple s.heap.objs.size #[a, b] := by rw [← e1]; exact ⟨_, Heap.get?_push_size _ rfl, rfl, 0, rfl⟩
  have z1 : h1.objs.size = s.heap.objs.size + 1 := by rw [← e1, Heap.size_push]
  refine wpAny_bind (wpAny_pyIter_tuple (s := { s with heap := h1 }) hT ?_)
  refine wpAny_bind (wpAny_newObj_type ?_)
  dsimp only
  generalize eI : h1.objs.size = I
  generalize e2 : h1.push _ = h2
  have k2 : ∀ x o, h1.get? x = some o → h2.get? x = some o := fun x o q => by rw [← e2]; exact Heap.get?_push_of_some _ q
  have hI : h2.IsTupleIter I s.heap.objs.size 0 := by rw [← e2, ← eI]; exact ⟨_, Heap.get?_push_size _ rfl, rfl, rfl⟩
  have z2 : h2.objs.size = I + 1 := by rw [← e2, Heap.size_push, eI]
  generalize eS : h2.objs.size = S
  generalize e3 : h2.push _ = h3
  have k3 : ∀ x o, h2.get? x = some o → h3.get? x = some o := fun x o q => by rw [← e3]; exact Heap.get?_push_of_some _ q
  have hS : h3.get? S = some { cls := .type "list", dict := none, data := .seq #[] 0, slots := #[] } := by rw [← e3, ← eS]; exact Heap.get?_push_size _ rfl
  have SI : S ≠ I := by omega
  have old : ∀ x o, s.heap.get? x = some o → x ≠ I ∧ x ≠ S := fun x o q => ⟨Nat.ne_of_lt (Nat.lt_of_lt_of_le (Heap.lt_size q) (by omega)), Nat.ne_of_lt (Nat.lt_of_lt_of_le (Heap.lt_size q) (by omega))⟩
  have hT3 : h3.IsTuple s.heap.objs.size #[a, b] := by
    obtain ⟨o, q, r⟩ := hT
    exact ⟨o, k3 _ _ (k2 _ _ q), r⟩
  have hI3 : h3.IsTupleIter I s.heap.objs.size 0 := hI.at fun o q => k3 _ _ q
  have TI : s.heap.objs.size ≠ I := by omega
  have TS : s.heap.objs.size ≠ S := by omega
  have keep3 : ∀ x o, s.heap.get? x = some o → h3.get? x = some o := fun x o q => k3 _ _ (k2 _ _ (k1 _ _ q))
  rw [nm]
  refine wpAny_pure ⟨plainId_quiet F.plain_max_loop _, ?_⟩
  -- the last round
  have last : ∀ (t : Shared) (v : Value) (n : Nat), t.heap.IsTupleIter I s.heap.objs.size 2 → t.heap.IsTuple s.heap.objs.size #[a, b] → t.heap.get? S = some { cls := .type "list", dict := none, data := .seq #[v, v] n, slots := #[] } →
      (∃ h' tk, t = { s with heap := h', toks := tk } ∧ ∀ x o, s.heap.get? x = some o → h'.get? x = some o) → v = (if c = true then b else a) → codeAny (model prog w) A (.builtin "max.loop" ⟨[.ref I, .none, .ref S], []⟩) (fun r s' => match r with | .ok (.ret v) => Q v s' | .ok _ => False | .error e => E e s') t := by
    rintro t v n i2 tT lS ⟨h', tk, rfl, kt⟩ ev
    refine codeAny_builtin F.entry_max_loop ?_
    rw [Around.under_plainId F.plain_max_loop _]
    show wpAny _ A.in1 (seqItems? (.ref S) >>= fun _ => _) _ _ _
    refine wpAny_bind (wpAny_seqItems lS rfl ?_)
    show wpAny _ A.in1 (tryCatch (pyNext (.ref I)) _ >>= fun _ => _) _ _ _
    refine wpAny_bind (wpAny_tryCatch (wpAny_pyNext_tuple_end (A := A.in1) hh i2 tT (by simp) fun h4 q4 => ?_))
    have lS4 : h4.get? S = some _ := q4 _ _ SI lS
    show wpAny _ A.in1 (updateSeq S (fun _ => #[]) >>= fun _ => _) _ _ _
    refine wpAny_bind (wpAny_updateSeq lS4 rfl (wpAny_bind (wpAny_letGo (wpAny_pure ?_))))
    show Q v _
    rw [ev]
    exact h _ _ fun x o q => (Heap.get?_update_other _ _ (old x o q).2.symm).trans (q4 x o (old x o q).1 (kt x o q))
  refine codeAny_builtin F.entry_max_loop ?_
  rw [Around.under_plainId F.plain_max_loop _]
  show wpAny _ A.in1 (seqItems? (.ref S) >>= fun _ => _) _ _ _
  refine wpAny_bind (wpAny_seqItems (s := { s with heap := h3 }) hS rfl ?_)
  show wpAny _ A.in1 (tryCatch (pyNext (.ref I)) _ >>= fun _ => _) _ _ _
  refine wpAny_bind (wpAny_tryCatch (wpAny_pyNext_tuple_item (s := { s with heap := h3 }) hI3 hT3 (x := a) (by simp) fun h4 i4 q4 => ?_))
  have hS4 : h4.get? S = some _ := (q4.2 _ SI).trans hS
  have hT4 : h4.IsTuple s.heap.objs.size #[a, b] := by
    obtain ⟨o, q, r⟩ := hT3
    exact ⟨o, (q4.2 _ TI).trans q, r⟩
  show wpAny _ A.in1 (updateSeq S (fun _ => #[a, a]) >>= fun _ => _) _ _ _
  refine wpAny_bind (wpAny_updateSeq hS4 rfl ?_)
  rw [nm]
  refine wpAny_pure ⟨plainId_quiet F.plain_max_loop _, ?_⟩
  generalize e5 : h4.update S _ = h5
  have o5 : ∀ x, x ≠ S → h5.get? x = h4.get? x := fun x q => by rw [← e5]; exact Heap.get?_update_other _ _ q.symm
  have hS5 : ∃ n, h5.get? S = some { cls := .type "list", dict := none, data := .seq #[a, a] n, slots := #[] } := ⟨_, by rw [← e5]; exact Heap.get?_update_self _ hS4 rfl⟩
  obtain ⟨n5, hS5⟩ := hS5
  have i5 : h5.IsTupleIter I s.heap.objs.size 1 := i4.at fun o q => (o5 _ SI.symm).trans q
  have hT5 : h5.IsTuple s.heap.objs.size #[a, b] := by
    obtain ⟨o, q, r⟩ := hT4
    exact ⟨o, (o5 _ TS).trans q, r⟩
  have keep5 : ∀ x o, s.heap.get? x = some o → h5.get? x = some o := fun x o q => (o5 _ (old x o q).2).trans ((q4.2 _ (old x o q).1).trans (keep3 x o q))
  refine codeAny_builtin F.entry_max_loop ?_
  rw [Around.under_plainId F.plain_max_loop _]
  show wpAny _ A.in1 (seqItems? (.ref S) >>= fun _ => _) _ _ _
  refine wpAny_bind (wpAny_seqItems (s := { s with heap := h5 }) hS5 rfl ?_)
  show wpAny _ A.in1 (tryCatch (pyNext (.ref I)) _ >>= fun _ => _) _ _ _
  refine wpAny_bind (wpAny_tryCatch (wpAny_pyNext_tuple_item (s := { s with heap := h5 }) i5 hT5 (x := b) (by simp) fun h6 i6 q6 => ?_))
  have hS6 : h6.get? S = some _ := (q6.2 _ SI).trans hS5
  have hT6 : h6.IsTuple s.heap.objs.size #[a, b] := by
    obtain ⟨o, q, r⟩ := hT5
    exact ⟨o, (q6.2 _ TI).trans q, r⟩
  have keep6 : ∀ x o, s.heap.get? x = some o → h6.get? x = some o := fun x o q => (q6.2 _ (old x o q).1).trans (keep5 x o q)
  show wpAny _ A.in1 (tryCatch (holding [b, b] (richCompare .Gt b a >>= fun _ => _)) _ >>= fun _ => _) _ _ _
  refine wpAny_bind (wpAny_tryCatch (wpAny_holding (wpAny_bind (cmp _ _ _ keep6 ?_))))
  refine wpAny_bind (wpAny_holding (wpAny_truthy_bool ?_))
  refine wpAny_bind (wpAny_letGo (wpAny_pure ?_))
  cases c with
  | true =>
    simp only [if_true] at last ⊢
    refine wpAny_bind (wpAny_updateSeq hS6 rfl (wpAny_bind (wpAny_letGo ?_)))
    rw [nm]
    refine wpAny_pure ⟨plainId_quiet F.plain_max_loop _, last _ b _ (i6.at fun o q => (Heap.get?_update_other _ _ SI).trans q) ?_ (Heap.get?_update_self _ hS6 rfl) ⟨_, _, rfl, fun x o q => (Heap.get?_update_other _ _ (old x o q).2.symm).trans (keep6 x o q)⟩ rfl⟩
    obtain ⟨o, q, r⟩ := hT6
    exact ⟨o, (Heap.get?_update_other _ _ TS.symm).trans q, r⟩
  | false =>
    simp only [Bool.false_eq_true, if_false] at last ⊢
    refine wpAny_bind (wpAny_letGo ?_)
    rw [nm]
    exact wpAny_pure ⟨plainId_quiet F.plain_max_loop _, last _ a _ i6 hT6 hS6 ⟨_, _, rfl, keep6⟩ rfl⟩

theorem min_two {a b : Value} {c : Bool} {Q : Value → Shared → Prop} (hh : A.handled = none)
    (cmp : ∀ (t : Shared) (Q' : Value → Shared → Prop) (E' : Value → Shared → Prop), (∀ x o, s.heap.get? x = some o → t.heap.get? x = some o) → Q' (.bool c) t → wpAny (model prog w) A.in1 (richCompare .Lt b a) Q' E' t)
    (h : ∀ h' tk, (∀ x o, s.heap.get? x = some o → h'.get? x = some o) → Q (if c = true then b else a) { s with heap := h', toks := tk }) :
    wpAny (model prog w) A (call (.builtin "min") [a, b]) Q E s := by
  have nm : (toString "min" ++ toString ".loop" : String) = "min.loop" := by decide
  refine call_function_tree F.kind_min F.plain_min F.entry_min (F.args_min2 _ _) ?_
  show wpAny _ A.in1 (Builtin.Builtins.bindParams "min" ["key", "default"] 0 ⟨[], []⟩ >>= fun _ => _) _ _ s
  refine wpAny_bind (wpAny_of_eq (a := [none, none]) rfl ?_)
  show wpAny _ A.in1 (newTuple [a, b] >>= fun _ => _) _ _ s
  refine wpAny_bind (wpAny_newObj_type ?_)
  generalize e1 : s.heap.push { cls := .type "tuple", dict := none, data := .seq ([a, b] : List Value).toArray } = h1
  have k1 : ∀ x o, s.heap.get? x = some o → h1.get? x = some o := fun x o q => by rw [← e1]; exact Heap.get?_push_of_some _ q
  have hT : h1.IsTuple s.heap.objs.size #[a, b] := by rw [← e1]; exact ⟨_, Heap.get?_push_size _ rfl, rfl, 0, rfl⟩
  have z1 : h1.objs.size = s.heap.objs.size + 1 := by rw [← e1, Heap.size_push]
  refine wpAny_bind (wpAny_pyIter_tuple (s := { s with heap := h1 }) hT ?_)
  refine wpAny_bind (wpAny_newObj_type ?_)
  dsimp only
  generalize eI : h1.objs.size = I
  generalize e2 : h1.push _ = h2
  have k2 : ∀ x o, h1.get? x = some o → h2.get? x = some o := fun x o q => by rw [← e2]; exact Heap.get?_push_of_some _ q
  have hI : h2.IsTupleIter I s.heap.objs.size 0 := by rw [← e2, ← eI]; exact ⟨_, Heap.get?_push_size _ rfl, rfl, rfl⟩
  have z2 : h2.objs.size = I + 1 := by rw [← e2, Heap.size_push, eI]
  generalize eS : h2.objs.size = S
  generalize e3 : h2.push _ = h3
  have k3 : ∀ x o, h2.get? x = some o → h3.get? x = some o := fun x o q => by rw [← e3]; exact Heap.get?_push_of_some _ q
  have hS : h3.get? S = some { cls := .type "list", dict := none, data := .seq #[] 0, slots := #[] } := by rw [← e3, ← eS]; exact Heap.get?_push_size _ rfl
  have SI : S ≠ I := by omega
  have old : ∀ x o, s.heap.get? x = some o → x ≠ I ∧ x ≠ S := fun x o q => ⟨Nat.ne_of_lt (Nat.lt_of_lt_of_le (Heap.lt_size q) (by omega)), Nat.ne_of_lt (Nat.lt_of_lt_of_le (Heap.lt_size q) (by omega))⟩
  have hT3 : h3.IsTuple s.heap.objs.size #[a, b] := by
    obtain ⟨o, q, r⟩ := hT
    exact ⟨o, k3 _ _ (k2 _ _ q), r⟩
  have hI3 : h3.IsTupleIter I s.heap.objs.size 0 := hI.at fun o q => k3 _ _ q
  have TI : s.heap.objs.size ≠ I := by omega
  have TS : s.heap.objs.size ≠ S := by omega
  have keep3 : ∀ x o, s.heap.get? x = some o → h3.get? x = some o := fun x o q => k3 _ _ (k2 _ _ (k1 _ _ q))
  rw [nm]
  refine wpAny_pure ⟨plainId_quiet F.plain_min_loop _, ?_⟩
  -- the last round
  have last : ∀ (t : Shared) (v : Value) (n : Nat), t.heap.IsTupleIter I s.heap.objs.size 2 → t.heap.IsTuple s.heap.objs.size #[a, b] → t.heap.get? S = some { cls := .type "list", dict := none, data := .seq #[v, v] n, slots := #[] } →
      (∃ h' tk, t = { s with heap := h', toks := tk } ∧ ∀ x o, s.heap.get? x = some o → h'.get? x = some o) → v = (if c = true then b else a) → codeAny (model prog w) A (.builtin "min.loop" ⟨[.ref I, .none, .ref S], []⟩) (fun r s' => match r with | .ok (.ret v) => Q v s' | .ok _ => False | .error e => E e s') t := by
    rintro t v n i2 tT lS ⟨h', tk, rfl, kt⟩ ev
    refine codeAny_builtin F.entry_min_loop ?_
    rw [Around.under_plainId F.plain_min_loop _]
    show wpAny _ A.in1 (seqItems? (.ref S) >>= fun _ => _) _ _ _
    refine wpAny_bind (wpAny_seqItems lS rfl ?_)
    show wpAny _ A.in1 (tryCatch (pyNext (.ref I)) _ >>= fun _ => _) _ _ _
    refine wpAny_bind (wpAny_tryCatch (wpAny_pyNext_tuple_end (A := A.in1) hh i2 tT (by simp) fun h4 q4 => ?_))
    have lS4 : h4.get? S = some _ := q4 _ _ SI lS
    show wpAny _ A.in1 (updateSeq S (fun _ => #[]) >>= fun _ => _) _ _ _
    refine wpAny_bind (wpAny_updateSeq lS4 rfl (wpAny_bind (wpAny_letGo (wpAny_pure ?_))))
    show Q v _
    rw [ev]
    exact h _ _ fun x o q => (Heap.get?_update_other _ _ (old x o q).2.symm).trans (q4 x o (old x o q).1 (kt x o q))
  refine codeAny_builtin F.entry_min_loop ?_
  rw [Around.under_plainId F.plain_min_loop _]
  show wpAny _ A.in1 (seqItems? (.ref S) >>= fun _ => _) _ _ _
  refine wpAny_bind (wpAny_seqItems (s := { s with heap := h3 }) hS rfl ?_)
  show wpAny _ A.in1 (tryCatch (pyNext (.ref I)) _ >>= fun _ => _) _ _ _
  refine wpAny_bind (wpAny_tryCatch (wpAny_pyNext_tuple_item (s := { s with heap := h3 }) hI3 hT3 (x := a) (by simp) fun h4 i4 q4 => ?_))
  have hS4 : h4.get? S = some _ := (q4.2 _ SI).trans hS
  have hT4 : h4.IsTuple s.heap.objs.size #[a, b] := by
    obtain ⟨o, q, r⟩ := hT3
    exact ⟨o, (q4.2 _ TI).trans q, r⟩
  show wpAny _ A.in1 (updateSeq S (fun _ => #[a, a]) >>= fun _ => _) _ _ _
  refine wpAny_bind (wpAny_updateSeq hS4 rfl ?_)
  rw [nm]
  refine wpAny_pure ⟨plainId_quiet F.plain_min_loop _, ?_⟩
  generalize e5 : h4.update S _ = h5
  have o5 : ∀ x, x ≠ S → h5.get? x = h4.get? x := fun x q => by rw [← e5]; exact Heap.get?_update_other _ _ q.symm
  have hS5 : ∃ n, h5.get? S = some { cls := .type "list", dict := none, data := .seq #[a, a] n, slots := #[] } := ⟨_, by rw [← e5]; exact Heap.get?_update_self _ hS4 rfl⟩
  obtain ⟨n5, hS5⟩ := hS5
  have i5 : h5.IsTupleIter I s.heap.objs.size 1 := i4.at fun o q => (o5 _ SI.symm).trans q
  have hT5 : h5.IsTuple s.heap.objs.size #[a, b] := by
    obtain ⟨o, q, r⟩ := hT4
    exact ⟨o, (o5 _ TS).trans q, r⟩
  have keep5 : ∀ x o, s.heap.get? x = some o → h5.get? x = some o := fun x o q => (o5 _ (old x o q).2).trans ((q4.2 _ (old x o q).1).trans (keep3 x o q))
  refine codeAny_builtin F.entry_min_loop ?_
  rw [Around.under_plainId F.plain_min_loop _]
  show wpAny _ A.in1 (seqItems? (.ref S) >>= fun _ => _) _ _ _
  refine wpAny_bind (wpAny_seqItems (s := { s with heap := h5 }) hS5 rfl ?_)
  show wpAny _ A.in1 (tryCatch (pyNext (.ref I)) _ >>= fun _ => _) _ _ _
  refine wpAny_bind (wpAny_tryCatch (wpAny_pyNext_tuple_item (s := { s with heap := h5 }) i5 hT5 (x := b) (by simp) fun h6 i6 q6 => ?_))
  have hS6 : h6.get? S = some _ := (q6.2 _ SI).trans hS5
  have hT6 : h6.IsTuple s.heap.objs.size #[a, b] := by
    obtain ⟨o, q, r⟩ := hT5
    exact ⟨o, (q6.2 _ TI).trans q, r⟩
  have keep6 : ∀ x o, s.heap.get? x = some o → h6.get? x = some o := fun x o q => (q6.2 _ (old x o q).1).trans (keep5 x o q)
  show wpAny _ A.in1 (tryCatch (holding [b, b] (richCompare .Lt b a >>= fun _ => _)) _ >>= fun _ => _) _ _ _
  refine wpAny_bind (wpAny_tryCatch (wpAny_holding (wpAny_bind (cmp _ _ _ keep6 ?_))))
  refine wpAny_bind (wpAny_holding (wpAny_truthy_bool ?_))
  refine wpAny_bind (wpAny_letGo (wpAny_pure ?_))
  cases c with
  | true =>
    simp only [if_true] at last ⊢
    refine wpAny_bind (wpAny_updateSeq hS6 rfl (wpAny_bind (wpAny_letGo ?_)))
    rw [nm]
    refine wpAny_pure ⟨plainId_quiet F.plain_min_loop _, last _ b _ (i6.at fun o q => (Heap.get?_update_other _ _ SI).trans q) ?_ (Heap.get?_update_self _ hS6 rfl) ⟨_, _, rfl, fun x o q => (Heap.get?_update_other _ _ (old x o q).2.symm).trans (keep6 x o q)⟩ rfl⟩
    obtain ⟨o, q, r⟩ := hT6
    exact ⟨o, (Heap.get?_update_other _ _ TS.symm).trans q, r⟩
  | false =>
    simp only [Bool.false_eq_true, if_false] at last ⊢
    refine wpAny_bind (wpAny_letGo ?_)
    rw [nm]
    exact wpAny_pure ⟨plainId_quiet F.plain_min_loop _, last _ a _ i6 hT6 hS6 ⟨_, _, rfl, keep6⟩ rfl⟩
end
end SD

set_option Elab.async false
set_option linter.all false
set_option maxRecDepth 100000
namespace HT
open PySem PyProof.Rows
/-- t <= u of tuples of ints -/
noncomputable def lexLe : List Int → List Int → Bool
  | [], [] => true
  | [], _ :: _ => true
  | _ :: _, [] => false
  | x :: xs, y :: ys => if x = y then lexLe xs ys else decide (x ≤ y)
theorem lexLe_cons (x y : Int) (xs ys : List Int) : lexLe (x :: xs) (y :: ys) = if x = y then lexLe xs ys else decide (x ≤ y) := rfl
theorem lexLe_nil_nil : lexLe [] [] = true := rfl
theorem lexLe_nil_cons (y : Int) (ys : List Int) : lexLe [] (y :: ys) = true := rfl
theorem lexLe_cons_nil (x : Int) (xs : List Int) : lexLe (x :: xs) [] = false := rfl
theorem rcLe_int (A : Around) (s : Shared) (a : Int) (t : Tok) (c : Int) (u : Tok) (prog : Program) (w : World) (E : Value → Shared → Prop) (Q : Value → Shared → Prop) (h : Q (.bool (decide (a ≤ c))) s) :
    wpAny (model prog w) A (richCompare .LtE (.int a t) (.int c u)) Q E s :=
  (PyProof.Rows.le_int h : wpAny (model prog w) A (compareOp .LtE (.int a t) (.int c u)) Q E s)

section
open PySem.SeqAt
open PySem.AutoSeq1 (wpAny_loadPart')
open PySem.MeetsSeq PySem.MeetsSeq2 PySem.MeetsSeq3

theorem tuple_le_ints (l b : Addr) (items items2 : Array Value) (n n2 : Nat) (dd dd2 : Option Addr) (sl sl2 : Array (Option Value)) (ns ms : List Int) (hi : IntsAre items.toList ns) (hj : IntsAre items2.toList ms) :
    Meets (Builtin.«tuple.__le__» ⟨[.ref l, .ref b], []⟩)
      (fun _ R s => s.heap.get? l = some { cls := .type "tuple", dict := dd, data := .seq items n, slots := sl } ∧ s.heap.get? b = some { cls := .type "tuple", dict := dd2, data := .seq items2 n2, slots := sl2 } ∧
        R (.ok (.ret (.bool (lexLe ns ms)))) s) :=
  .of_wp fun prog w A R s h => by
    obtain ⟨hp, g, d, tk, os⟩ := s; obtain ⟨hl, hb, h⟩ := h
    have f2 := AutoSeq1.sub_tuple_tuple
    have z1 : items.size = ns.length := by rw [← hi.length]; simp
    have z2 : items2.size = ms.length := by rw [← hj.length]; simp
    wp_walk using wpAny_loadPart' hl, wpAny_loadPart' hb, wpAny_forIn_list _ (fun rest b s' => b.1 = none ∧ s' = ⟨hp, g, d, tk, os⟩ ∧ ∃ (vs ws : List Value) (ns' ms' : List Int), rest = vs.zip ws ∧
      IntsAre vs ns' ∧ IntsAre ws ms' ∧ ns'.length + items2.size = ms'.length + items.size ∧ R (.ok (.ret (.bool (lexLe ns' ms')))) ⟨hp, g, d, tk, os⟩) _
    case turn =>
      rintro ⟨y, x⟩ rest b s' ⟨hb', rfl, vs, ws, ns', ms', hz, hvi, hwi, hlen, hR⟩
      cases hvi with
      | nil => rw [List.zip_nil_left] at hz; cases hz
      | cons a t hvi' =>
        cases hwi with
        | nil => rw [List.zip_nil_right] at hz; cases hz
        | cons c u hwi' =>
          rw [List.zip_cons_cons] at hz
          injection hz with hyx hrest
          injection hyx with hy hx
          subst hy hx
          rw [lexLe_cons] at hR
          simp only [List.length_cons] at hlen
          obtain ⟨e, he, hiff⟩ := eqAt_int A.in1 ⟨hp, g, d, tk, os⟩ a t c u
          refine wpAny_bind (he prog w _ _ ?_)
          cases e with
          | true =>
            rw [if_pos (hiff.mp rfl)] at hR
            wp_walk
            exact ⟨rfl, rfl, _, _, _, _, hrest, hvi', hwi', by omega, hR⟩
          | false =>
            rw [if_neg (fun q => absurd (hiff.mpr q) Bool.false_ne_true)] at hR
            have hri := rcLe_int A.in1 ⟨hp, g, d, tk, os⟩ a t c u prog w
            wp_walk using hri
            exact ⟨_, rfl, by simpa using hR⟩
    case fin =>
      rintro ⟨b1, b2⟩ s' ⟨hb', rfl, vs, ws, ns', ms', hz, hvi, hwi, hlen, hR⟩
      simp only at hb'
      subst hb'
      have hv : lexLe ns' ms' = decide (items.size ≤ items2.size) := by
        cases hvi with
        | nil =>
          cases hwi with
          | nil =>
            simp only [List.length_nil] at hlen
            rw [lexLe_nil_nil]
            exact (decide_eq_true (by omega)).symm
          | cons c u hw =>
            simp only [List.length_nil, List.length_cons] at hlen
            rw [lexLe_nil_cons]
            exact (decide_eq_true (by omega)).symm
        | cons a t hv =>
          cases hwi with
          | nil =>
            simp only [List.length_nil, List.length_cons] at hlen
            rw [lexLe_cons_nil]
            exact (decide_eq_false (by omega)).symm
          | cons c u hw =>
            rw [List.zip_cons_cons] at hz
            cases hz
      rw [hv] at hR
      wp_walk
      exact ⟨_, rfl, by simpa [Builtin.Tuple.tupleCompareSizes] using hR⟩
    case h =>
      exact ⟨rfl, rfl, items.toList, items2.toList, ns, ms, rfl, hi, hj, by omega, h⟩
end

section
variable {prog : Program} {w : World} {A : Around} {E : Value → Shared → Prop} {s : Shared}

theorem le_tupInts {l b : Addr} {items items2 : Array Value} {ns ms : List Int} {Q : Value → Shared → Prop} (hl : IsTup s.heap l items) (hb : IsTup s.heap b items2) (hi : IntsAre items.toList ns) (hj : IntsAre items2.toList ms)
    (hu : A.units < cLine) (h : Q (.bool (lexLe ns ms)) s) : wpAny (model prog w) A (compareOp .LtE (.ref l) (.ref b)) Q E s := by
  obtain ⟨⟨cls, dd, data, sl⟩, ho, hc, n, hd⟩ := id hl
  obtain ⟨⟨cls2, dd2, data2, sl2⟩, ho2, hc2, n2, hd2⟩ := id hb
  simp only at hc hd hc2 hd2
  subst hc hd hc2 hd2
  exact richCompare_meets_room (op := .LtE) ⟨_, ho, rfl⟩ ⟨_, ho2, rfl⟩ PySem.F.slot_tuple_le PySem.F.entry_tuple_le (PySem.F.args_tuple_le_2 _ _) (tuple_le_ints l b items items2 n n2 dd dd2 sl sl2 ns ms hi hj)
    ⟨ho, ho2, show Value.bool (lexLe ns ms) ≠ Value.notImplemented ∧ Q (.bool (lexLe ns ms)) s from ⟨(fun x => nomatch x), h⟩⟩ hu
end
/-- t > u of tuples of ints -/
noncomputable def lexGt : List Int → List Int → Bool
  | [], [] => false
  | [], _ :: _ => false
  | _ :: _, [] => true
  | x :: xs, y :: ys => if x = y then lexGt xs ys else decide (y < x)
theorem lexGt_cons (x y : Int) (xs ys : List Int) : lexGt (x :: xs) (y :: ys) = if x = y then lexGt xs ys else decide (y < x) := rfl
theorem lexGt_nil_nil : lexGt [] [] = false := rfl
theorem lexGt_nil_cons (y : Int) (ys : List Int) : lexGt [] (y :: ys) = false := rfl
theorem lexGt_cons_nil (x : Int) (xs : List Int) : lexGt (x :: xs) [] = true := rfl
theorem rcGt_int (A : Around) (s : Shared) (a : Int) (t : Tok) (c : Int) (u : Tok) (prog : Program) (w : World) (E : Value → Shared → Prop) (Q : Value → Shared → Prop) (h : Q (.bool (decide (c < a))) s) :
    wpAny (model prog w) A (richCompare .Gt (.int a t) (.int c u)) Q E s :=
  (PyProof.Rows.gt_int h : wpAny (model prog w) A (compareOp .Gt (.int a t) (.int c u)) Q E s)

section
open PySem.SeqAt
open PySem.AutoSeq1 (wpAny_loadPart')
open PySem.MeetsSeq PySem.MeetsSeq2 PySem.MeetsSeq3

theorem tuple_gt_ints (l b : Addr) (items items2 : Array Value) (n n2 : Nat) (dd dd2 : Option Addr) (sl sl2 : Array (Option Value)) (ns ms : List Int) (hi : IntsAre items.toList ns) (hj : IntsAre items2.toList ms) :
    Meets (Builtin.«tuple.__gt__» ⟨[.ref l, .ref b], []⟩)
      (fun _ R s => s.heap.get? l = some { cls := .type "tuple", dict := dd, data := .seq items n, slots := sl } ∧ s.heap.get? b = some { cls := .type "tuple", dict := dd2, data := .seq items2 n2, slots := sl2 } ∧
        R (.ok (.ret (.bool (lexGt ns ms)))) s) :=
  .of_wp fun prog w A R s h => by
    obtain ⟨hp, g, d, tk, os⟩ := s; obtain ⟨hl, hb, h⟩ := h
    have f2 := AutoSeq1.sub_tuple_tuple
    have z1 : items.size = ns.length := by rw [← hi.length]; simp
    have z2 : items2.size = ms.length := by rw [← hj.length]; simp
    wp_walk using wpAny_loadPart' hl, wpAny_loadPart' hb, wpAny_forIn_list _ (fun rest b s' => b.1 = none ∧ s' = ⟨hp, g, d, tk, os⟩ ∧ ∃ (vs ws : List Value) (ns' ms' : List Int), rest = vs.zip ws ∧
      IntsAre vs ns' ∧ IntsAre ws ms' ∧ ns'.length + items2.size = ms'.length + items.size ∧ R (.ok (.ret (.bool (lexGt ns' ms')))) ⟨hp, g, d, tk, os⟩) _
    case turn =>
      rintro ⟨y, x⟩ rest b s' ⟨hb', rfl, vs, ws, ns', ms', hz, hvi, hwi, hlen, hR⟩
      cases hvi with
      | nil => rw [List.zip_nil_left] at hz; cases hz
      | cons a t hvi' =>
        cases hwi with
        | nil => rw [List.zip_nil_right] at hz; cases hz
        | cons c u hwi' =>
          rw [List.zip_cons_cons] at hz
          injection hz with hyx hrest
          injection hyx with hy hx
          subst hy hx
          rw [lexGt_cons] at hR
          simp only [List.length_cons] at hlen
          obtain ⟨e, he, hiff⟩ := eqAt_int A.in1 ⟨hp, g, d, tk, os⟩ a t c u
          refine wpAny_bind (he prog w _ _ ?_)
          cases e with
          | true =>
            rw [if_pos (hiff.mp rfl)] at hR
            wp_walk
            exact ⟨rfl, rfl, _, _, _, _, hrest, hvi', hwi', by omega, hR⟩
          | false =>
            rw [if_neg (fun q => absurd (hiff.mpr q) Bool.false_ne_true)] at hR
            have hri := rcGt_int A.in1 ⟨hp, g, d, tk, os⟩ a t c u prog w
            wp_walk using hri
            exact ⟨_, rfl, by simpa using hR⟩
    case fin =>
      rintro ⟨b1, b2⟩ s' ⟨hb', rfl, vs, ws, ns', ms', hz, hvi, hwi, hlen, hR⟩
      simp only at hb'
      subst hb'
      have hv : lexGt ns' ms' = decide (items.size > items2.size) := by
        cases hvi with
        | nil =>
          cases hwi with
          | nil =>
            simp only [List.length_nil] at hlen
            rw [lexGt_nil_nil]
            exact (decide_eq_false (by omega)).symm
          | cons c u hw =>
            simp only [List.length_nil, List.length_cons] at hlen
            rw [lexGt_nil_cons]
            exact (decide_eq_false (by omega)).symm
        | cons a t hv =>
          cases hwi with
          | nil =>
            simp only [List.length_nil, List.length_cons] at hlen
            rw [lexGt_cons_nil]
            exact (decide_eq_true (by omega)).symm
          | cons c u hw =>
            rw [List.zip_cons_cons] at hz
            cases hz
      rw [hv] at hR
      wp_walk
      exact ⟨_, rfl, by simpa [Builtin.Tuple.tupleCompareSizes] using hR⟩
    case h =>
      exact ⟨rfl, rfl, items.toList, items2.toList, ns, ms, rfl, hi, hj, by omega, h⟩
end

section
variable {prog : Program} {w : World} {A : Around} {E : Value → Shared → Prop} {s : Shared}

theorem gt_tupInts {l b : Addr} {items items2 : Array Value} {ns ms : List Int} {Q : Value → Shared → Prop} (hl : IsTup s.heap l items) (hb : IsTup s.heap b items2) (hi : IntsAre items.toList ns) (hj : IntsAre items2.toList ms)
    (hu : A.units < cLine) (h : Q (.bool (lexGt ns ms)) s) : wpAny (model prog w) A (compareOp .Gt (.ref l) (.ref b)) Q E s := by
  obtain ⟨⟨cls, dd, data, sl⟩, ho, hc, n, hd⟩ := id hl
  obtain ⟨⟨cls2, dd2, data2, sl2⟩, ho2, hc2, n2, hd2⟩ := id hb
  simp only at hc hd hc2 hd2
  subst hc hd hc2 hd2
  exact richCompare_meets_room (op := .Gt) ⟨_, ho, rfl⟩ ⟨_, ho2, rfl⟩ PySem.F.slot_tuple_gt PySem.F.entry_tuple_gt (PySem.F.args_tuple_gt_2 _ _) (tuple_gt_ints l b items items2 n n2 dd dd2 sl sl2 ns ms hi hj)
    ⟨ho, ho2, show Value.bool (lexGt ns ms) ≠ Value.notImplemented ∧ Q (.bool (lexGt ns ms)) s from ⟨(fun x => nomatch x), h⟩⟩ hu
end
end HT
namespace SD
open PySem PySem.Spec PyProof.Rows L2
section
variable {X : Cx}
theorem ints_of {K : PySem.W.Frag} {H : Hp} : ∀ {ns : List Int} {xs : List V}, Reps K H (ns.map D.int) xs → xs = ns.map V.int
  | [], xs, h => by rw [List.map_nil, Reps] at h; exact h
  | n :: ns, xs, h => by
    rw [List.map_cons, Reps] at h
    obtain ⟨x, r, rfl, h1, h2⟩ := h
    rw [Rep] at h1
    rw [h1, ints_of h2]; rfl
theorem op_leT (hu : X.A.units < cLine) : OpR X (compareOp .LtE) (fun x y H Q => ∃ a b ns ms, x = .ref a ∧ y = .ref b ∧ SqT X.K H a (ns.map V.int) ∧ SqT X.K H b (ms.map V.int) ∧ Q (.bl (HT.lexLe ns ms)) H) := by
  intro pins s σ H x y v u Q I rx ry h
  obtain ⟨a, b, ns, ms, rfl, rfl, ha, hb, q⟩ := h
  cases rx
  cases ry
  obtain ⟨its, r1, p1, _⟩ := I.tuple ha
  obtain ⟨its2, r2, p2, _⟩ := I.tuple hb
  exact HT.le_tupInts p1 p2 (intsAre_of r1) (intsAre_of r2) hu ⟨.bl (HT.lexLe ns ms), H, I, rfl, q⟩
theorem op_gtT (hu : X.A.units < cLine) : OpR X (compareOp .Gt) (fun x y H Q => ∃ a b ns ms, x = .ref a ∧ y = .ref b ∧ SqT X.K H a (ns.map V.int) ∧ SqT X.K H b (ms.map V.int) ∧ Q (.bl (HT.lexGt ns ms)) H) := by
  intro pins s σ H x y v u Q I rx ry h
  obtain ⟨a, b, ns, ms, rfl, rfl, ha, hb, q⟩ := h
  cases rx
  cases ry
  obtain ⟨its, r1, p1, _⟩ := I.tuple ha
  obtain ⟨its2, r2, p2, _⟩ := I.tuple hb
  exact HT.gt_tupInts p1 p2 (intsAre_of r1) (intsAre_of r2) hu ⟨.bl (HT.lexGt ns ms), H, I, rfl, q⟩
/-- ints, or tuples of ints -/
noncomputable def rCmpX (f : Int → Int → Bool) (g : List Int → List Int → Bool) : R2D := fun x y M Q => match x, y with
  | .int i, .int j => True ∧ Q (.bl (f i j)) M
  | .tup a, .tup b => ∃ ns ms, a = List.map D.int ns ∧ b = List.map D.int ms ∧ Q (.bl (g ns ms)) M
  | _, _ => False
theorem opd_X {op : CmpOp} {f : Int → Int → Bool} {g : List Int → List Int → Bool} (h1 : OpD X (compareOp op) (rI2 (fun _ _ => True) fun i j => .bl (f i j)))
    (h2 : OpR X (compareOp op) (fun x y H Q => ∃ a b ns ms, x = .ref a ∧ y = .ref b ∧ SqT X.K H a (ns.map V.int) ∧ SqT X.K H b (ms.map V.int) ∧ Q (.bl (g ns ms)) H)) : OpD X (compareOp op) (rCmpX f g) := by
  refine op_imp (h1.or h2) fun v u H Q ⟨x, y, M, R, r1, r2, a, q, fin⟩ => ?_
  unfold rCmpX at q
  split at q
  · exact .inl ⟨_, _, M, R, r1, r2, a, q, fin⟩
  · obtain ⟨ns, ms, rfl, rfl, q⟩ := q
    rw [Rep] at r1
    obtain ⟨p, xs, rfl, hx, rx⟩ := r1
    obtain ⟨p', ys, rfl, hy, ry⟩ : ∃ a xs, u = V.ref a ∧ SqT X.K H a xs ∧ Reps X.K H (List.map D.int ms) xs := by rw [Rep] at r2; exact r2
    rw [ints_of rx] at hx
    rw [ints_of ry] at hy
    exact .inr ⟨p, p', ns, ms, rfl, rfl, hx, hy, fin _ _ _ _ .refl (by rw [Rep]) a q⟩
  · exact q.elim
theorem od_ltX (hu : X.A.units + 64 < cLine) : OpD X (compareOp .Lt) (rCmpX (fun i j => decide (i < j)) HT.lexLt) := opd_X od_lt (op_ltT (by omega))
theorem od_leX (hu : X.A.units + 64 < cLine) : OpD X (compareOp .LtE) (rCmpX (fun i j => decide (i ≤ j)) HT.lexLe) := opd_X od_le (op_leT (by omega))
theorem od_gtX (hu : X.A.units + 64 < cLine) : OpD X (compareOp .Gt) (rCmpX (fun i j => decide (j < i)) HT.lexGt) := opd_X od_gt (op_gtT (by omega))
theorem call_maxT (hc : X.calm = true) (hu : X.A.units + 64 < cLine) : CallR X (.builtin "max") (fun xs H Q => ∃ p q ns ms, xs = [.ref p, .ref q] ∧ SqT X.K H p (ns.map V.int) ∧ SqT X.K H q (ms.map V.int) ∧ Q (if HT.lexGt ms ns = true then .ref q else .ref p) H) := by
  intro pins s σ H xs us Q I r ⟨p, q, ns, ms, e, hp, hq, k⟩
  subst e
  obtain ⟨u, v, rfl, ru, rv⟩ := vals2 r
  cases ru
  cases rv
  obtain ⟨its, r1, p1, _⟩ := I.tuple hp
  obtain ⟨its2, r2, p2, _⟩ := I.tuple hq
  refine max_two (c := HT.lexGt ms ns) (I.ok.hd hc) (fun t Q' E' kt q' => ?_) fun h' tk kt => ⟨_, H, I.kept kt, ?_, k⟩
  · obtain ⟨o1, a1, b1⟩ := p1
    obtain ⟨o2, a2, b2⟩ := p2
    exact HT.gt_tupInts (A := X.A.in1) (s := t) ⟨o2, kt _ _ a2, b2⟩ ⟨o1, kt _ _ a1, b1⟩ (intsAre_of r2) (intsAre_of r1) (by show X.A.units + 1 < cLine; omega) q'
  · cases HT.lexGt ms ns <;> rfl
theorem call_minT (hc : X.calm = true) (hu : X.A.units + 64 < cLine) : CallR X (.builtin "min") (fun xs H Q => ∃ p q ns ms, xs = [.ref p, .ref q] ∧ SqT X.K H p (ns.map V.int) ∧ SqT X.K H q (ms.map V.int) ∧ Q (if HT.lexLt ms ns = true then .ref q else .ref p) H) := by
  intro pins s σ H xs us Q I r ⟨p, q, ns, ms, e, hp, hq, k⟩
  subst e
  obtain ⟨u, v, rfl, ru, rv⟩ := vals2 r
  cases ru
  cases rv
  obtain ⟨its, r1, p1, _⟩ := I.tuple hp
  obtain ⟨its2, r2, p2, _⟩ := I.tuple hq
  refine min_two (c := HT.lexLt ms ns) (I.ok.hd hc) (fun t Q' E' kt q' => ?_) fun h' tk kt => ⟨_, H, I.kept kt, ?_, k⟩
  · obtain ⟨o1, a1, b1⟩ := p1
    obtain ⟨o2, a2, b2⟩ := p2
    exact HT.lt_tupInts (A := X.A.in1) (s := t) ⟨o2, kt _ _ a2, b2⟩ ⟨o1, kt _ _ a1, b1⟩ (intsAre_of r2) (intsAre_of r1) (by show X.A.units + 1 < cLine; omega) q'
  · cases HT.lexLt ms ns <;> rfl
noncomputable def rMaxX : RC := fun ds M Q => match ds with
  | [.int i, .int j] => Q (.int (max i j)) M
  | [.tup a, .tup b] => ∃ ns ms, a = List.map D.int ns ∧ b = List.map D.int ms ∧ Q (.tup (List.map D.int (if HT.lexGt ms ns = true then ms else ns))) M
  | _ => False
noncomputable def rMinX : RC := fun ds M Q => match ds with
  | [.int i, .int j] => Q (.int (min i j)) M
  | [.tup a, .tup b] => ∃ ns ms, a = List.map D.int ns ∧ b = List.map D.int ms ∧ Q (.tup (List.map D.int (if HT.lexLt ms ns = true then ms else ns))) M
  | _ => False
theorem cd_maxX (hc : X.calm = true) (hu : X.A.units + 64 < cLine) : CallD X (.builtin "max") rMaxX := call_imp (CallR.or (cd_max hc) (call_maxT hc hu)) fun vs H Q ⟨ds, M, R, rs, a, q, fin⟩ => by
  unfold rMaxX at q
  split at q
  · exact .inl ⟨_, M, R, rs, a, q, fin⟩
  · obtain ⟨ns, ms, rfl, rfl, q⟩ := q
    obtain ⟨v, u, rfl, r1, r2⟩ := reps2 rs
    rw [Rep] at r1
    obtain ⟨p, xs, rfl, hx, rx⟩ := r1
    obtain ⟨p', ys, rfl, hy, ry⟩ : ∃ a xs, u = V.ref a ∧ SqT X.K H a xs ∧ Reps X.K H (List.map D.int ms) xs := by rw [Rep] at r2; exact r2
    have hx' := hx
    have hy' := hy
    rw [ints_of rx] at hx'
    rw [ints_of ry] at hy'
    refine .inr ⟨p, p', ns, ms, rfl, hx', hy', fin _ _ _ _ .refl ?_ a q⟩
    by_cases z : HT.lexGt ms ns = true
    · rw [if_pos z, if_pos z, Rep]; exact ⟨_, _, rfl, hy, ry⟩
    · rw [if_neg z, if_neg z, Rep]; exact ⟨_, _, rfl, hx, rx⟩
  · exact q.elim
theorem cd_minX (hc : X.calm = true) (hu : X.A.units + 64 < cLine) : CallD X (.builtin "min") rMinX := call_imp (CallR.or (cd_min hc) (call_minT hc hu)) fun vs H Q ⟨ds, M, R, rs, a, q, fin⟩ => by
  unfold rMinX at q
  split at q
  · exact .inl ⟨_, M, R, rs, a, q, fin⟩
  · obtain ⟨ns, ms, rfl, rfl, q⟩ := q
    obtain ⟨v, u, rfl, r1, r2⟩ := reps2 rs
    rw [Rep] at r1
    obtain ⟨p, xs, rfl, hx, rx⟩ := r1
    obtain ⟨p', ys, rfl, hy, ry⟩ : ∃ a xs, u = V.ref a ∧ SqT X.K H a xs ∧ Reps X.K H (List.map D.int ms) xs := by rw [Rep] at r2; exact r2
    have hx' := hx
    have hy' := hy
    rw [ints_of rx] at hx'
    rw [ints_of ry] at hy'
    refine .inr ⟨p, p', ns, ms, rfl, hx', hy', fin _ _ _ _ .refl ?_ a q⟩
    by_cases z : HT.lexLt ms ns = true
    · rw [if_pos z, if_pos z, Rep]; exact ⟨_, _, rfl, hy, ry⟩
    · rw [if_neg z, if_neg z, Rep]; exact ⟨_, _, rfl, hx, rx⟩
  · exact q.elim
end
end SD

set_option Elab.async false
set_option linter.all false
set_option maxRecDepth 100000
namespace Ma
open SD
theorem pos_mul {p z : Int} (h : 0 < p) : 0 < p * z ↔ 0 < z := by
  constructor
  · intro q
    by_cases hz : 0 < z
    · exact hz
    · have : p * z ≤ 0 := Int.mul_nonpos_of_nonneg_of_nonpos (by omega) (by omega)
      omega
  · exact fun q => Int.mul_pos h q
theorem divInt_lt {a b c d : Int} (hb : 0 < b) (hd : 0 < d) : Rat.divInt a b < Rat.divInt c d ↔ a * d < c * b := by
  have e := Rat.divInt_sub_divInt c a (d₁ := d) (d₂ := b) (by omega) (by omega)
  have h1 : Rat.divInt a b < Rat.divInt c d ↔ 0 < Rat.divInt c d - Rat.divInt a b := by constructor <;> intro z <;> grind
  rw [h1, e, divInt_pos (Int.mul_pos hd hb)]
  omega
/-- units: a spot of the grid, told over m, stretched by t over b and moved by X over b -/
noncomputable def ut (t b X m x : Int) : Rat := Rat.divInt (x * t + X * m) (b * m)
theorem ut_lt {t b X m n x y : Int} (ht : 0 < t) (hb : 0 < b) (hm : 0 < m) (hn : 0 < n) : ut t b X m x < ut t b X n y ↔ n * x < m * y := by
  unfold ut
  rw [divInt_lt (Int.mul_pos hb hm) (Int.mul_pos hb hn)]
  have e : (y * t + X * n) * (b * m) - (x * t + X * m) * (b * n) = (b * t) * (m * y - n * x) := by grind
  have := pos_mul (z := m * y - n * x) (Int.mul_pos hb ht)
  omega
theorem ut_eq {t b X m n x y : Int} (ht : 0 < t) (hb : 0 < b) (hm : 0 < m) (hn : 0 < n) : ut t b X m x = ut t b X n y ↔ n * x = m * y := by
  have h1 := ut_lt (X := X) (x := x) (y := y) ht hb hm hn
  have h2 := ut_lt (X := X) (x := y) (y := x) ht hb hn hm
  constructor
  · intro e
    have a : ¬ ut t b X m x < ut t b X n y := by rw [e]; exact Rat.lt_irrefl
    have c : ¬ ut t b X n y < ut t b X m x := by rw [e]; exact Rat.lt_irrefl
    rw [h1] at a
    rw [h2] at c
    omega
  · intro e
    have a : ¬ ut t b X m x < ut t b X n y := by rw [h1]; omega
    have c : ¬ ut t b X n y < ut t b X m x := by rw [h2]; omega
    grind
theorem ut_one {t b X x : Int} : Rat.divInt (x * t + X) b = ut t b X 1 x := by
  unfold ut
  rw [Int.mul_one, Int.mul_one]
theorem lexLe_two (a b c d : Int) : HT.lexLe [a, b] [c, d] = !HT.lexLt [c, d] [a, b] := by
  simp only [HT.lexLe, HT.lexLt]
  by_cases h : a = c
  · subst h
    rw [if_pos rfl, if_pos rfl]
    by_cases h2 : b = d
    · subst h2; rw [if_pos rfl, if_pos rfl]; rfl
    · rw [if_neg h2, if_neg (fun e => h2 e.symm)]
      rw [← decide_not, decide_eq_decide]; omega
  · rw [if_neg h, if_neg (fun e => h e.symm), ← decide_not, decide_eq_decide]; omega
theorem lexGt_two (a b c d : Int) : HT.lexGt [a, b] [c, d] = HT.lexLt [c, d] [a, b] := by
  simp only [HT.lexGt, HT.lexLt]
  by_cases h : a = c
  · subst h
    rw [if_pos rfl, if_pos rfl]
    by_cases h2 : b = d
    · subst h2; simp
    · rw [if_neg h2, if_neg (fun e => h2 e.symm)]
  · rw [if_neg h, if_neg (fun e => h e.symm)]
theorem lexLt_two {a b c d : Int} : HT.lexLt [a, b] [c, d] = true ↔ a < c ∨ (a = c ∧ b < d) := by
  simp only [HT.lexLt]
  by_cases h : a = c
  · subst h
    rw [if_pos rfl]
    by_cases h2 : b = d
    · subst h2; rw [if_pos rfl]; simp
    · rw [if_neg h2]; simp
  · rw [if_neg h]; simp; omega
end Ma

set_option Elab.async false
set_option linter.all false
set_option maxRecDepth 100000
/-! Walls in whole units, made greater and moved. -/
namespace SD
open PySem PySem.Spec PyProof.Rows L2
theorem ne_fresh {M : MH} {a p : PySem.Addr} {o : MO} (h : M a = some o) (hp : M p = none) : a ≠ p := fun e => by subst e; rw [h] at hp; cases hp
noncomputable def scl (t b x y : Int) : D := .tup [.int t, .int b, .int x, .int y]
/-- a scale: how great its numbers are -/
structure Scl (t b x y : Int) : Prop where
  t0 : 0 < t
  t1 : t ≤ 10 ^ 9
  b0 : 0 < b
  b1 : b ≤ 10 ^ 9
  x0 : -(10 ^ 17) ≤ x
  x1 : x ≤ 10 ^ 17
  y0 : -(10 ^ 17) ≤ y
  y1 : y ≤ 10 ^ 17
noncomputable def uw (w : Int × Int × Int × Int) : D := .tup [.tup [.int w.1, .int w.2.1], .tup [.int w.2.2.1, .int w.2.2.2]]
noncomputable def rwl (t b x y : Int) (w : Int × Int × Int × Int) : D := Ma.wll (Ma.ut t b x 1 w.1) (Ma.ut t b y 1 w.2.1) (Ma.ut t b x 1 w.2.2.1) (Ma.ut t b y 1 w.2.2.2)
noncomputable def Uok (n : Int) (w : Int × Int × Int × Int) : Prop := (-n ≤ w.1 ∧ w.1 ≤ n) ∧ (-n ≤ w.2.1 ∧ w.2.1 ≤ n) ∧ (-n ≤ w.2.2.1 ∧ w.2.2.1 ≤ n) ∧ (-n ≤ w.2.2.2 ∧ w.2.2.2 ≤ n)
noncomputable def uby (m : Int) (w : Int × Int × Int × Int) : Int × Int × Int × Int := (m * w.1, m * w.2.1, m * w.2.2.1, m * w.2.2.2)
theorem range_getD (l : List D) : (List.range l.length).map (fun i => (l[i]?).getD .non) = l := by
  refine List.ext_getElem (by simp) fun i h1 h2 => ?_
  simp [h2]
theorem getD_map {α : Type} {f : α → D} {l : List α} {i : Nat} {a : α} (h : l[i]? = some a) : ((l.map f)[i]?).getD .non = f a := by
  rw [List.getElem?_map, h]; rfl
theorem ut_bq {t b x m p : Int} (ht : 0 < t ∧ t ≤ 10 ^ 9) (hb : 0 < b ∧ b ≤ 10 ^ 9) (hx : -(10 ^ 17) ≤ x ∧ x ≤ 10 ^ 17) (hm : 0 < m ∧ m ≤ 10 ^ 6) (hp : -(10 ^ 6) ≤ p ∧ p ≤ 10 ^ 6) : Ma.Bq 200 (Ma.ut t b x m p) := by
  have bt : Bd 64 t := by show t.natAbs < 2 ^ 64; omega
  have bm : Bd 64 m := by show m.natAbs < 2 ^ 64; omega
  have bp : Bd 64 p := by show p.natAbs < 2 ^ 64; omega
  have bb : Bd 64 b := by show b.natAbs < 2 ^ 64; omega
  have bx : Bd 64 x := by show x.natAbs < 2 ^ 64; omega
  refine Ma.Bq.divInt (by have := Int.mul_pos hb.1 hm.1; omega) ?_ ((bb.mul bm).mono (by decide))
  exact ((bp.mul bt).add (bx.mul bm)).mono (by decide)
theorem Scl.bx {t b x y m p : Int} (S : Scl t b x y) (hm : 0 < m ∧ m ≤ 10 ^ 6) (hp : -(10 ^ 6) ≤ p ∧ p ≤ 10 ^ 6) : Ma.Bq 200 (Ma.ut t b x m p) := ut_bq ⟨S.t0, S.t1⟩ ⟨S.b0, S.b1⟩ ⟨S.x0, S.x1⟩ hm hp
theorem Scl.by' {t b x y m p : Int} (S : Scl t b x y) (hm : 0 < m ∧ m ≤ 10 ^ 6) (hp : -(10 ^ 6) ≤ p ∧ p ≤ 10 ^ 6) : Ma.Bq 200 (Ma.ut t b y m p) := ut_bq ⟨S.t0, S.t1⟩ ⟨S.b0, S.b1⟩ ⟨S.y0, S.y1⟩ hm hp
theorem eqv_two (a b c d : Int) : PyData.eqv (.tuple [.int a, .int b]) (.tuple [.int c, .int d]) = decide (a = c ∧ b = d) := by
  simp only [PyData.eqv, PyData.eqvAll, beq_dec, Bool.and_true, Bool.decide_and]
end SD

set_option Elab.async false
set_option linter.all false
set_option maxRecDepth 100000
namespace SD
open PySem PySem.Spec PyProof.Rows L2
section
variable {X : Cx}
noncomputable def rMaxY : RC := fun ds M Q => match ds with
  | [.ref l] => ∃ i j, M l = some (.lst [.int i, .int j]) ∧ Q (.int (max i j)) M
  | ds => rMaxX ds M Q
noncomputable def rMinY : RC := fun ds M Q => match ds with
  | [.ref l] => ∃ i j, M l = some (.lst [.int i, .int j]) ∧ Q (.int (min i j)) M
  | ds => rMinX ds M Q
end
end SD

set_option Elab.async false
set_option linter.all false
set_option maxRecDepth 100000
/-! How two walls meet, by fractions as the program has it and by whole units as the law has it. -/
namespace SD
open PySem PySem.Spec PyProof.Rows L2 Ma
noncomputable instance (a b c d : Rat) : Decidable (Ma.ah a b c d) := inferInstanceAs (Decidable (_ ∨ _))
noncomputable def inlD (a b c d e f g h : Rat) : D :=
  let s := if Ma.ah e f a b then (a, b) else (e, f)
  let n := if Ma.ah c d g h then (c, d) else (g, h)
  if Ma.ah s.1 s.2 n.1 n.2 then .tup [.str "stretch", Ma.wll s.1 s.2 n.1 n.2] else if Ma.ah n.1 n.2 s.1 s.2 then .non else .tup [.str "spot", Ma.spt s.1 s.2]
noncomputable def btw (x y s : Rat) : Rat := x + s * (y - x)
noncomputable def meetD (a b c d e f g h : Rat) : D :=
  if Ma.sgn (Ma.cr a b c d e f) = 0 ∧ Ma.sgn (Ma.cr a b c d g h) = 0 then inlD a b c d e f g h
  else if 0 < Ma.sgn (Ma.cr a b c d e f) * Ma.sgn (Ma.cr a b c d g h) ∨ 0 < Ma.sgn (Ma.cr e f g h a b) * Ma.sgn (Ma.cr e f g h c d) then .non
  else .tup [.str "spot", Ma.spt (btw e g (Ma.cr a b c d e f / (Ma.cr a b c d e f - Ma.cr a b c d g h))) (btw f h (Ma.cr a b c d e f / (Ma.cr a b c d e f - Ma.cr a b c d g h)))]
noncomputable def crs (a b c d : Int) : Int := a * d - b * c
noncomputable def maxP (p q e f : Int) : Int × Int := if HT.lexGt [e, f] [p, q] = true then (e, f) else (p, q)
noncomputable def minP (r s g h : Int) : Int × Int := if HT.lexLt [g, h] [r, s] = true then (g, h) else (r, s)
/-- what the law tells in units -/
noncomputable def toldD (p q r s e f g h : Int) : D :=
  let w := crs (r - p) (s - q) (g - e) (h - f)
  if w = 0 then
    if crs (r - p) (s - q) (e - p) (f - q) ≠ 0 ∨ HT.lexGt [(maxP p q e f).1, (maxP p q e f).2] [(minP r s g h).1, (minP r s g h).2] = true then .non
    else if (maxP p q e f).1 = (minP r s g h).1 ∧ (maxP p q e f).2 = (minP r s g h).2 then .tup [.int (maxP p q e f).1, .int (maxP p q e f).2, .int 1]
    else .tup [.tup [.int (maxP p q e f).1, .int (maxP p q e f).2], .tup [.int (minP r s g h).1, .int (minP r s g h).2]]
  else
    let k := if w < 0 then -crs (e - p) (f - q) (g - e) (h - f) else crs (e - p) (f - q) (g - e) (h - f)
    let m := if w < 0 then -crs (e - p) (f - q) (r - p) (s - q) else crs (e - p) (f - q) (r - p) (s - q)
    if min k m < 0 ∨ (w.natAbs : Int) < max k m then .non else .tup [.int (p * (w.natAbs : Int) + k * (r - p)), .int (q * (w.natAbs : Int) + k * (s - q)), .int (w.natAbs : Int)]
noncomputable def dueD (t b X Y : Int) : D → D
  | .tup [.int x, .int y, .int m] => .tup [.str "spot", Ma.spt (Ma.ut t b X m x) (Ma.ut t b Y m y)]
  | .tup [.tup [.int x, .int y], .tup [.int u, .int v]] => .tup [.str "stretch", Ma.wll (Ma.ut t b X 1 x) (Ma.ut t b Y 1 y) (Ma.ut t b X 1 u) (Ma.ut t b Y 1 v)]
  | _ => .non
theorem ut_lin {t b X m x : Int} (hb : 0 < b) (hm : 0 < m) : Ma.ut t b X m x = ((t : Rat) / b) * ((x : Rat) / m) + (X : Rat) / b := by
  unfold Ma.ut
  rw [Rat.divInt_eq_div]
  have h1 : (b : Rat) ≠ 0 := by have := Ma.pos_int hb; grind
  have h2 : (m : Rat) ≠ 0 := by have := Ma.pos_int hm; grind
  rw [Rat.intCast_add, Rat.intCast_mul, Rat.intCast_mul, Rat.intCast_mul]
  grind
theorem ut_lin1 {t b X x : Int} (hb : 0 < b) : Ma.ut t b X 1 x = ((t : Rat) / b) * (x : Rat) + (X : Rat) / b := by
  rw [ut_lin hb (by decide)]
  have : ((1 : Int) : Rat) = 1 := rfl
  rw [this]
  grind
theorem cr_lin (k x y p q r s e f : Rat) : Ma.cr (k * p + x) (k * q + y) (k * r + x) (k * s + y) (k * e + x) (k * f + y) = k * k * ((r - p) * (f - q) - (s - q) * (e - p)) := by
  unfold Ma.cr
  grind
theorem cr_ut {t b X Y p q r s e f : Int} (hb : 0 < b) : Ma.cr (Ma.ut t b X 1 p) (Ma.ut t b Y 1 q) (Ma.ut t b X 1 r) (Ma.ut t b Y 1 s) (Ma.ut t b X 1 e) (Ma.ut t b Y 1 f) = ((t : Rat) / b) * ((t : Rat) / b) * ((crs (r - p) (s - q) (e - p) (f - q) : Int) : Rat) := by
  rw [ut_lin1 hb, ut_lin1 hb, ut_lin1 hb, ut_lin1 hb, ut_lin1 hb, ut_lin1 hb, cr_lin]
  unfold crs
  rw [Rat.intCast_sub, Rat.intCast_mul, Rat.intCast_mul, Rat.intCast_sub, Rat.intCast_sub, Rat.intCast_sub, Rat.intCast_sub]
theorem sgn_mul {k : Rat} (hk : 0 < k) (z : Int) : Ma.sgn (k * (z : Rat)) = Int.sign z := by
  unfold Ma.sgn
  by_cases h1 : 0 < z
  · rw [if_pos (Rat.mul_pos hk (Ma.pos_int h1)), Int.sign_eq_one_of_pos h1]
  · by_cases h2 : z < 0
    · have h3 : 0 < k * ((-z : Int) : Rat) := Rat.mul_pos hk (Ma.pos_int (by omega))
      rw [Rat.intCast_neg] at h3
      rw [if_neg (by grind), if_pos (by grind), Int.sign_eq_neg_one_of_neg h2]
    · obtain rfl : z = 0 := by omega
      have : ((0 : Int) : Rat) = 0 := rfl
      rw [this]
      simp
end SD

set_option Elab.async false
set_option linter.all false
set_option maxRecDepth 100000
namespace HT
open PySem PyProof.Rows
/-- t >= u of tuples of ints -/
noncomputable def lexGe : List Int → List Int → Bool
  | [], [] => true
  | [], _ :: _ => false
  | _ :: _, [] => true
  | x :: xs, y :: ys => if x = y then lexGe xs ys else decide (y ≤ x)
theorem lexGe_cons (x y : Int) (xs ys : List Int) : lexGe (x :: xs) (y :: ys) = if x = y then lexGe xs ys else decide (y ≤ x) := rfl
theorem lexGe_nil_nil : lexGe [] [] = true := rfl
theorem lexGe_nil_cons (y : Int) (ys : List Int) : lexGe [] (y :: ys) = false := rfl
theorem lexGe_cons_nil (x : Int) (xs : List Int) : lexGe (x :: xs) [] = true := rfl
theorem rcGe_int (A : Around) (s : Shared) (a : Int) (t : Tok) (c : Int) (u : Tok) (prog : Program) (w : World) (E : Value → Shared → Prop) (Q : Value → Shared → Prop) (h : Q (.bool (decide (c ≤ a))) s) :
    wpAny (model prog w) A (richCompare .GtE (.int a t) (.int c u)) Q E s :=
  (PyProof.Rows.ge_int h : wpAny (model prog w) A (compareOp .GtE (.int a t) (.int c u)) Q E s)

section
open PySem.SeqAt
open PySem.AutoSeq1 (wpAny_loadPart')
open PySem.MeetsSeq PySem.MeetsSeq2 PySem.MeetsSeq3

theorem tuple_ge_ints (l b : Addr) (items items2 : Array Value) (n n2 : Nat) (dd dd2 : Option Addr) (sl sl2 : Array (Option Value)) (ns ms : List Int) (hi : IntsAre items.toList ns) (hj : IntsAre items2.toList ms) :
    Meets (Builtin.«tuple.__ge__» ⟨[.ref l, .ref b], []⟩)
      (fun _ R s => s.heap.get? l = some { cls := .type "tuple", dict := dd, data := .seq items n, slots := sl } ∧ s.heap.get? b = some { cls := .type "tuple", dict := dd2, data := .seq items2 n2, slots := sl2 } ∧
        R (.ok (.ret (.bool (lexGe ns ms)))) s) :=
  .of_wp fun prog w A R s h => by
    obtain ⟨hp, g, d, tk, os⟩ := s; obtain ⟨hl, hb, h⟩ := h
    have f2 := AutoSeq1.sub_tuple_tuple
    have z1 : items.size = ns.length := by rw [← hi.length]; simp
    have z2 : items2.size = ms.length := by rw [← hj.length]; simp
    wp_walk using wpAny_loadPart' hl, wpAny_loadPart' hb, wpAny_forIn_list _ (fun rest b s' => b.1 = none ∧ s' = ⟨hp, g, d, tk, os⟩ ∧ ∃ (vs ws : List Value) (ns' ms' : List Int), rest = vs.zip ws ∧
      IntsAre vs ns' ∧ IntsAre ws ms' ∧ ns'.length + items2.size = ms'.length + items.size ∧ R (.ok (.ret (.bool (lexGe ns' ms')))) ⟨hp, g, d, tk, os⟩) _
    case turn =>
      rintro ⟨y, x⟩ rest b s' ⟨hb', rfl, vs, ws, ns', ms', hz, hvi, hwi, hlen, hR⟩
      cases hvi with
      | nil => rw [List.zip_nil_left] at hz; cases hz
      | cons a t hvi' =>
        cases hwi with
        | nil => rw [List.zip_nil_right] at hz; cases hz
        | cons c u hwi' =>
          rw [List.zip_cons_cons] at hz
          injection hz with hyx hrest
          injection hyx with hy hx
          subst hy hx
          rw [lexGe_cons] at hR
          simp only [List.length_cons] at hlen
          obtain ⟨e, he, hiff⟩ := eqAt_int A.in1 ⟨hp, g, d, tk, os⟩ a t c u
          refine wpAny_bind (he prog w _ _ ?_)
          cases e with
          | true =>
            rw [if_pos (hiff.mp rfl)] at hR
            wp_walk
            exact ⟨rfl, rfl, _, _, _, _, hrest, hvi', hwi', by omega, hR⟩
          | false =>
            rw [if_neg (fun q => absurd (hiff.mpr q) Bool.false_ne_true)] at hR
            have hri := rcGe_int A.in1 ⟨hp, g, d, tk, os⟩ a t c u prog w
            wp_walk using hri
            exact ⟨_, rfl, by simpa using hR⟩
    case fin =>
      rintro ⟨b1, b2⟩ s' ⟨hb', rfl, vs, ws, ns', ms', hz, hvi, hwi, hlen, hR⟩
      simp only at hb'
      subst hb'
      have hv : lexGe ns' ms' = decide (items.size ≥ items2.size) := by
        cases hvi with
        | nil =>
          cases hwi with
          | nil =>
            simp only [List.length_nil] at hlen
            rw [lexGe_nil_nil]
            exact (decide_eq_true (by omega)).symm
          | cons c u hw =>
            simp only [List.length_nil, List.length_cons] at hlen
            rw [lexGe_nil_cons]
            exact (decide_eq_false (by omega)).symm
        | cons a t hv =>
          cases hwi with
          | nil =>
            simp only [List.length_nil, List.length_cons] at hlen
            rw [lexGe_cons_nil]
            exact (decide_eq_true (by omega)).symm
          | cons c u hw =>
            rw [List.zip_cons_cons] at hz
            cases hz
      rw [hv] at hR
      wp_walk
      exact ⟨_, rfl, by simpa [Builtin.Tuple.tupleCompareSizes] using hR⟩
    case h =>
      exact ⟨rfl, rfl, items.toList, items2.toList, ns, ms, rfl, hi, hj, by omega, h⟩
end

section
variable {prog : Program} {w : World} {A : Around} {E : Value → Shared → Prop} {s : Shared}

theorem ge_tupInts {l b : Addr} {items items2 : Array Value} {ns ms : List Int} {Q : Value → Shared → Prop} (hl : IsTup s.heap l items) (hb : IsTup s.heap b items2) (hi : IntsAre items.toList ns) (hj : IntsAre items2.toList ms)
    (hu : A.units < cLine) (h : Q (.bool (lexGe ns ms)) s) : wpAny (model prog w) A (compareOp .GtE (.ref l) (.ref b)) Q E s := by
  obtain ⟨⟨cls, dd, data, sl⟩, ho, hc, n, hd⟩ := id hl
  obtain ⟨⟨cls2, dd2, data2, sl2⟩, ho2, hc2, n2, hd2⟩ := id hb
  simp only at hc hd hc2 hd2
  subst hc hd hc2 hd2
  exact richCompare_meets_room (op := .GtE) ⟨_, ho, rfl⟩ ⟨_, ho2, rfl⟩ PySem.F.slot_tuple_ge PySem.F.entry_tuple_ge (PySem.F.args_tuple_ge_2 _ _) (tuple_ge_ints l b items items2 n n2 dd dd2 sl sl2 ns ms hi hj)
    ⟨ho, ho2, show Value.bool (lexGe ns ms) ≠ Value.notImplemented ∧ Q (.bool (lexGe ns ms)) s from ⟨(fun x => nomatch x), h⟩⟩ hu
end
end HT
namespace SD
open PySem PySem.Spec PyProof.Rows L2
section
variable {X : Cx}
theorem op_geT (hu : X.A.units < cLine) : OpR X (compareOp .GtE) (fun x y H Q => ∃ a b ns ms, x = .ref a ∧ y = .ref b ∧ SqT X.K H a (ns.map V.int) ∧ SqT X.K H b (ms.map V.int) ∧ Q (.bl (HT.lexGe ns ms)) H) := by
  intro pins s σ H x y v u Q I rx ry h
  obtain ⟨a, b, ns, ms, rfl, rfl, ha, hb, q⟩ := h
  cases rx
  cases ry
  obtain ⟨its, r1, p1, _⟩ := I.tuple ha
  obtain ⟨its2, r2, p2, _⟩ := I.tuple hb
  exact HT.ge_tupInts p1 p2 (intsAre_of r1) (intsAre_of r2) hu ⟨.bl (HT.lexGe ns ms), H, I, rfl, q⟩
theorem od_geX (hu : X.A.units + 64 < cLine) : OpD X (compareOp .GtE) (rCmpX (fun i j => decide (j ≤ i)) HT.lexGe) := opd_X od_ge (op_geT (by omega))

/-! ### in, not in -/
noncomputable def rInG (g : Bool → Bool) : R2D := fun x y M Q => ∃ p ps, Pd M x p ∧ (Pd M y (.list ps) ∨ Pd M y (.tuple ps)) ∧ SeqAt.shaped p = true ∧ PyData.canLayAll0 ps = true ∧ Q (.bl (g (ps.any fun q => PyData.eqv q p))) M
theorem shaped_min {p : PyData} {n : Nat} (h : SeqAt.shaped p = true) : min n p.depth ≤ 63 + 1 := Nat.le_trans (Nat.min_le_right _ _) (SeqAt.depth_of_shaped h)
theorem od_in (hu : X.A.units + 66 < cLine) : OpD X (compareOp .In) (rInG fun b => b) := by
  intro pins s σ H v u v' u' Q I rv ru ⟨x, y, M, R, r1, r2, a, ⟨p, ps, p1, p2, s1, s2, hq⟩, fin⟩
  obtain ⟨as, q1⟩ := pd_reads I a p1 r1 rv
  have hm := shaped_min (n := PyData.depthAll ps) s1
  rcases p2 with p2 | p2
  · obtain ⟨bs, q2⟩ := pd_reads I a p2 r2 ru
    exact SeqAt.in_list_reads q2 q1 s2 (SeqAt.canLay_of_shaped s1) (by omega) ⟨.bl _, H, I, rfl, fin _ _ _ _ .refl (by rw [Rep]) a hq⟩
  · obtain ⟨bs, q2⟩ := pd_reads I a p2 r2 ru
    exact SeqAt.in_tuple_reads q2 q1 s2 (SeqAt.canLay_of_shaped s1) (by omega) ⟨.bl _, H, I, rfl, fin _ _ _ _ .refl (by rw [Rep]) a hq⟩
theorem od_notin (hu : X.A.units + 66 < cLine) : OpD X (compareOp .NotIn) (rInG fun b => !b) := by
  intro pins s σ H v u v' u' Q I rv ru ⟨x, y, M, R, r1, r2, a, ⟨p, ps, p1, p2, s1, s2, hq⟩, fin⟩
  obtain ⟨as, q1⟩ := pd_reads I a p1 r1 rv
  have hm := shaped_min (n := PyData.depthAll ps) s1
  rcases p2 with p2 | p2
  · obtain ⟨bs, q2⟩ := pd_reads I a p2 r2 ru
    exact SeqAt.notIn_list_reads q2 q1 s2 (SeqAt.canLay_of_shaped s1) (by omega) ⟨.bl _, H, I, rfl, fin _ _ _ _ .refl (by rw [Rep]) a hq⟩
  · obtain ⟨bs, q2⟩ := pd_reads I a p2 r2 ru
    exact SeqAt.notIn_tuple_reads q2 q1 s2 (SeqAt.canLay_of_shaped s1) (by omega) ⟨.bl _, H, I, rfl, fin _ _ _ _ .refl (by rw [Rep]) a hq⟩

/-! ### all of a list of truths -/
theorem bools_of {K : PySem.W.Frag} {H : Hp} : ∀ {bs : List Bool} {xs : List V}, Reps K H (bs.map D.bl) xs → xs = bs.map V.bl
  | [], xs, h => by rw [List.map_nil, Reps] at h; exact h
  | n :: ns, xs, h => by
    rw [List.map_cons, Reps] at h
    obtain ⟨x, r, rfl, h1, h2⟩ := h
    rw [Rep] at h1
    rw [h1, bools_of h2]; rfl
theorem vals_bools : ∀ {bs : List Bool} {us : List Value}, Vals (bs.map V.bl) us → us = bs.map Value.bool
  | [], _, .nil => rfl
  | b :: bs, _, .cons r t => by
    cases (show _ = Value.bool b from r)
    rw [vals_bools t]; rfl
noncomputable def rAll : RC := fun ds M Q => match ds with
  | [.ref l] => ∃ bs : List Bool, M l = some (.lst (List.map D.bl bs)) ∧ Q (.bl (bs.all id)) M
  | _ => False
theorem call_allL (hc : X.calm = true) : CallR X (.builtin "all") (fun xs H Q => ∃ (p : Addr) (bs : List Bool), xs = [.ref p] ∧ SqL X.K H p (bs.map V.bl) ∧ Q (.bl (bs.all id)) H) := by
  intro pins s σ H xs us Q I r ⟨l, bs, e, hp, k⟩
  subst e
  obtain ⟨u, rfl, ru⟩ := vals1 r
  cases ru
  obtain ⟨its, r1, p1, _⟩ := I.list hp
  have hv := vals_bools r1
  have hl := p1.isList
  have lt : l ≠ s.heap.objs.size := Nat.ne_of_lt (let ⟨_, e, _⟩ := hl; Heap.lt_size e)
  refine call_all_walk (x := .ref l) (wpAny_pyIter_list hl ⟨s.heap.objs.size, [s.heap.objs.size, l], [s.heap.objs.size], its.toArray.size, _, _, fun i => (bs[i]?).getD true, rfl, Walks.list (A := X.A.in1) (I.ok.hd hc) _ l lt its.toArray, ⟨⟨_, Heap.get?_push_size _ rfl, rfl, rfl⟩, hl.push _⟩, fun i v s' Q' E' hP hQ => ?_, fun h' tk hk => ?_⟩)
  · have hP' : its[i]? = some v := by simpa using hP
    rw [hv, List.getElem?_map] at hP'
    cases eb : bs[i]? with
    | none => rw [eb] at hP'; cases hP'
    | some b =>
      rw [eb] at hP'
      cases hP'
      have hQ' : Q' b s' := by simpa [eb] using hQ
      exact wpAny_truthy_bool hQ'
  · rw [show ((List.range its.toArray.size).all fun i => (bs[i]?).getD true) = bs.all id by rw [List.size_toArray, hv, List.length_map]; exact LSm.range_all bs]
    exact ⟨.bl (bs.all id), H, I.kept (LSm.kept_iter hk), rfl, k⟩
theorem cd_all (hc : X.calm = true) : CallD X (.builtin "all") rAll := call_imp (call_allL hc) fun vs H Q ⟨ds, M, R, rs, a, q, fin⟩ => by
  unfold rAll at q
  split at q
  · obtain ⟨bs, e, q⟩ := q
    obtain ⟨v, rfl, r⟩ := reps1 rs
    rw [Rep] at r; subst r
    obtain ⟨xs, hx, rx⟩ := a _ _ e
    rw [bools_of rx] at hx
    exact ⟨_, bs, rfl, SqL.of hx, fin _ _ _ _ .refl (by rw [Rep]) a q⟩
  · exact q.elim

/-! ### append -/
noncomputable def tAppD (to : TD) (t : TAD) : TD := fun δ M Q => to δ M fun x M1 => ∃ l ys, x = .ref l ∧ M1 l = some (.lst ys) ∧ t δ M1 fun ds M2 => ∃ xs d, ds = [d] ∧ M2 l = some (.lst xs) ∧ xs.length < 1000000 ∧ Q .non (updM M2 l (.lst (xs ++ [d])))
variable {o e : Expr} {to : TD} {t : TAD} {apos cpos : Pos}
theorem de_m_append (ho : DE X o to) (ha : DA X [e] t)
    (hbase : attributeBase o "append" X.env (eval o X.env) = eval o X.env := by rfl)
    (hfew : ((backTo cpos (starEach [e] X.env)).all (fun x => !x.1) && (backToKw cpos (keywordEach [] X.env)).all (fun x => x.1.isSome)
      && decide ([e].length + ([] : List Keyword).length + (if ([] : List Keyword).isEmpty then 0 else 1) < 30)) = true := by rfl)
    (hline : (apos.endLine == cpos.line) = true := by rfl) (hs : starEach [e] X.env = (false, eval e X.env) :: starEach [] X.env := by rfl) (hplain : (backTo cpos (starEach [] X.env)).any (·.1) = false := by rfl) :
    DE X (.Call (.Attribute o "append" apos) [e] [] cpos) (tAppD to t) :=
  pe_imp (pe_bm PySem.F.plainAttrs_list PySem.F.slot_list_append PySem.F.type_list_append mt_append ho ha hbase hfew hline hs hplain) fun σ H Q ⟨δ, M, R, hsl, hM, q, fin⟩ => by
    refine ⟨δ, M, _, hsl, hM, q, fun x M1 v H1 g1 r1 a1 ⟨l, ys, ex, hl, q1⟩ => ?_⟩
    subst ex
    rw [Rep] at r1
    subst r1
    obtain ⟨vs, hvs, _⟩ := a1 _ _ hl
    refine ⟨.inl ⟨rfl, vs, SqL.of hvs⟩, δ, M1, _, hsl.mono g1, a1, q1, fun ds M2 us H2 g2 r2 a2 ⟨xs, d, ed, hx, hn, q2⟩ => ?_⟩
    subst ed
    obtain ⟨u, rfl, ru⟩ := reps1 r2
    obtain ⟨ws, hws, rws⟩ := a2 _ _ hx
    have hlen := rws.length
    refine ⟨l, ws, u, rfl, rfl, hws, Nat.lt_of_lt_of_le (by omega) (show 1000000 ≤ sizeLine from Nat.le_of_ble_eq_true rfl), ?_⟩
    exact fin _ _ _ _ (g1.trans (g2.trans (.lst hws))) (by rw [Rep]) (a2.setL hws (rws.append (.cons ru .nil))) q2
end
end SD


set_option Elab.async false
set_option linter.all false
set_option maxRecDepth 100000
/-! Walls one above the other, in units. -/
namespace SD
open PySem PySem.Spec PyProof.Rows L2
theorem ru66 {k : Nat} {A : Around} (r : Room k A) : A.units + 66 < cLine := by have := r.un; omega
noncomputable abbrev Wl := Int × Int × Int × Int
/-- the spots' order as a number -/
noncomputable def la (x y : Int) : Int := 100 * x + y
noncomputable def l1 (w : Wl) : Int := la w.1 w.2.1
noncomputable def l2 (w : Wl) : Int := la w.2.2.1 w.2.2.2
noncomputable def sd (w : Wl) (x y : Int) : Int := crs (w.2.2.1 - w.1) (w.2.2.2 - w.2.1) (x - w.1) (y - w.2.1)
noncomputable def sd1 (w v : Wl) : Int := sd w v.1 v.2.1
noncomputable def sd2 (w v : Wl) : Int := sd w v.2.2.1 v.2.2.2
structure Un5 (w : Wl) : Prop where
  a : 0 ≤ w.1 ∧ w.1 ≤ 20
  b : 0 ≤ w.2.1 ∧ w.2.1 ≤ 20
  c : 0 ≤ w.2.2.1 ∧ w.2.2.1 ≤ 20
  d : 0 ≤ w.2.2.2 ∧ w.2.2.2 ≤ 20
  lt : l1 w < l2 w
noncomputable def EndOk (w : Wl) (l s : Int) : Prop := l = l1 w ∨ l = l2 w ∨ l < l1 w ∨ l2 w < l ∨ s ≠ 0
structure Fair (U V : Wl) : Prop where
  ne : ¬ (l1 U = l1 V ∧ l2 U = l2 V)
  e1 : EndOk U (l1 V) (sd1 U V)
  e2 : EndOk U (l2 V) (sd2 U V)
  e3 : EndOk V (l1 U) (sd1 V U)
  e4 : EndOk V (l2 U) (sd2 V U)
  pr : 0 ≤ Int.sign (sd1 U V) * Int.sign (sd2 U V) ∨ 0 ≤ Int.sign (sd1 V U) * Int.sign (sd2 V U)
theorem Fair.swap {U V : Wl} (h : Fair U V) : Fair V U := ⟨fun z => h.ne ⟨z.1.symm, z.2.symm⟩, h.e3, h.e4, h.e1, h.e2, h.pr.symm⟩
noncomputable def abv (U V : Wl) : Bool :=
  if max (l1 U) (l1 V) < min (l2 U) (l2 V) then
    if l1 U = l1 V then (if l2 U < l2 V then decide (0 < sd2 V U) else decide (sd2 U V < 0))
    else if l1 V < l1 U then decide (0 < sd1 V U) else decide (sd1 U V < 0)
  else false
noncomputable def sides (U V : Wl) : List Int :=
  ((if l1 V ≤ l1 U ∧ l1 U ≤ l2 V then [Int.sign (sd1 V U)] else []) ++ (if l1 V ≤ l2 U ∧ l2 U ≤ l2 V then [Int.sign (sd2 V U)] else [])) ++
  ((if l1 U ≤ l1 V ∧ l1 V ≤ l2 U then [-Int.sign (sd1 U V)] else []) ++ (if l1 U ≤ l2 V ∧ l2 V ≤ l2 U then [-Int.sign (sd2 U V)] else []))
theorem pos_of {z k : Int} (hk : 0 < k) (h : 0 < z * k) : 0 < z := by
  rcases Int.lt_trichotomy z 0 with q | q | q
  · have := Int.mul_neg_of_neg_of_pos q hk; omega
  · subst q; simp at h
  · exact q
theorem neg_of {z k : Int} (hk : 0 < k) (h : z * k < 0) : z < 0 := by
  rcases Int.lt_trichotomy z 0 with q | q | q
  · exact q
  · subst q; simp at h
  · have := Int.mul_pos q hk; omega
/-- one within the other: both its ends are on one side -/
theorem within {a b c d u1 u2 v1 v2 : Int} (I1 : a * (v2 - v1) = d * (u1 - v1) - c * (u2 - v1)) (I2 : b * (v2 - v1) = d * (u1 - v2) - c * (u2 - v2))
    (h1 : v1 < u1) (h2 : v1 < u2) (h3 : u1 < v2) (h4 : u2 < v2) (F : (¬ (0 < c ∧ d < 0) ∧ ¬ (c < 0 ∧ 0 < d)) ∨ (¬ (0 < a ∧ b < 0) ∧ ¬ (a < 0 ∧ 0 < b))) (c0 : c ≠ 0) (d0 : d ≠ 0) : 0 < c ↔ 0 < d := by
  have k : 0 < v2 - v1 := by omega
  have A1 : ¬ (0 < c ∧ d < 0) := fun ⟨x, y⟩ => by
    have p1 := Int.mul_neg_of_neg_of_pos y (show 0 < u1 - v1 by omega)
    have p2 := Int.mul_pos x (show 0 < u2 - v1 by omega)
    have p3 := Int.mul_pos_of_neg_of_neg y (show u1 - v2 < 0 by omega)
    have p4 := Int.mul_neg_of_pos_of_neg x (show u2 - v2 < 0 by omega)
    have a1 := neg_of (z := a) k (by omega)
    have b1 := pos_of (z := b) k (by omega)
    omega
  have A2 : ¬ (c < 0 ∧ 0 < d) := fun ⟨x, y⟩ => by
    have p1 := Int.mul_pos y (show 0 < u1 - v1 by omega)
    have p2 := Int.mul_neg_of_neg_of_pos x (show 0 < u2 - v1 by omega)
    have p3 := Int.mul_neg_of_pos_of_neg y (show u1 - v2 < 0 by omega)
    have p4 := Int.mul_pos_of_neg_of_neg x (show u2 - v2 < 0 by omega)
    have a1 := pos_of (z := a) k (by omega)
    have b1 := neg_of (z := b) k (by omega)
    omega
  omega
theorem la_inj {x y u v : Int} (h1 : 0 ≤ y ∧ y ≤ 20) (h2 : 0 ≤ v ∧ v ≤ 20) (h : la x y = la u v) : x = u ∧ y = v := by
  unfold la at h; omega
/-! ### tuples compared as numbers -/
theorem lt_la {a b c d : Int} (hb : 0 ≤ b ∧ b ≤ 20) (hd : 0 ≤ d ∧ d ≤ 20) : HT.lexLt [a, b] [c, d] = decide (la a b < la c d) := by
  have h := Ma.lexLt_two (a := a) (b := b) (c := c) (d := d)
  rw [Bool.eq_iff_iff, h, decide_eq_true_eq]
  unfold la
  omega
theorem le_la {a b c d : Int} (hb : 0 ≤ b ∧ b ≤ 20) (hd : 0 ≤ d ∧ d ≤ 20) : HT.lexLe [a, b] [c, d] = decide (la a b ≤ la c d) := by
  rw [Ma.lexLe_two, lt_la hd hb, ← decide_not, decide_eq_decide]; omega
theorem gt_la {a b c d : Int} (hb : 0 ≤ b ∧ b ≤ 20) (hd : 0 ≤ d ∧ d ≤ 20) : HT.lexGt [a, b] [c, d] = decide (la c d < la a b) := by
  rw [Ma.lexGt_two, lt_la hd hb]
theorem bd20 {z : Int} (h : 0 ≤ z ∧ z ≤ 20) : Bd 6 z := by show z.natAbs < 2 ^ 6; omega
theorem eq_la {x y u v : Int} (h1 : 0 ≤ y ∧ y ≤ 20) (h2 : 0 ≤ v ∧ v ≤ 20) : (x = u ∧ y = v) ↔ la x y = la u v := by unfold la; omega
/-- items that are told only where a test holds, the store as it was -/
theorem comp_fm {I : ItD} {tk : Tgt} {js : List Nat} {tc : TTD} {te : TD} {δ : DS} {M1 : MH} {Q : DK} (f : Nat → Option D) (hn : I.n ≤ 1000000) (hC : ∀ p ys, M1 p = none → I.C (updM M1 p (.lst ys)))
    (h : ∀ i d M, i < I.n → I.item i = some d → Sub M1 M → ∃ os, ownD tk d os ∧ (∀ K : Bool → MH → Prop, K (f i).isSome M → tc (cδ os js δ) M K) ∧ ∀ e, f i = some e → ∀ K : DK, (∀ M', Sub M M' → K e M') → te (cδ os js δ) M K)
    (hq : ∀ p, M1 p = none → Q (.ref p) (updM M1 p (.lst ((List.range I.n).filterMap f)))) : kComp I tk js tc te δ M1 Q := by
  refine ⟨hn, fun p hp => ⟨fun i ys M => ys = (List.range i).filterMap f ∧ M = updM M1 p (.lst ys), ⟨rfl, rfl⟩, ?_, ?_, ?_⟩⟩
  · rintro i ys M _ ⟨_, rfl⟩
    exact hC p ys hp
  · rintro i ys d M hi hd ⟨rfl, rfl⟩
    obtain ⟨os, ow, kt, ke⟩ := h i d _ hi hd (.new hp .refl)
    refine ⟨os, ow, kt _ ?_⟩
    cases e : f i with
    | none =>
      refine iteB rfl ⟨_, .refl, ?_, ?_⟩
      · rw [List.range_succ, List.filterMap_append]; simp [e]
      · rfl
    | some v =>
      refine iteA rfl (ke v e _ fun M' s' => ⟨_, s', updM_same, ?_, by rw [updM_updM]⟩)
      rw [List.range_succ, List.filterMap_append]; simp [e]
  · rintro ys M ⟨rfl, rfl⟩
    exact hq p hp
theorem endOk_of {A : Wl} {x y : Int} (hA : Un5 A) (hy : 0 ≤ y ∧ y ≤ 20) (h : (!(decide (A.1 = x ∧ A.2.1 = y) || decide (A.2.2.1 = x ∧ A.2.2.2 = y)) && (decide (l1 A ≤ la x y) && decide (la x y ≤ l2 A) && decide (sd A x y = 0))) = false) : EndOk A (la x y) (sd A x y) := by
  unfold EndOk
  by_cases h1 : A.1 = x ∧ A.2.1 = y
  · exact .inl ((eq_la hA.b hy).mp h1).symm
  · by_cases h2 : A.2.2.1 = x ∧ A.2.2.2 = y
    · exact .inr (.inl ((eq_la hA.d hy).mp h2).symm)
    · rw [decide_eq_false h1, decide_eq_false h2, Bool.or_false, Bool.not_false, Bool.true_and, ← Bool.decide_and, ← Bool.decide_and, decide_eq_false_iff_not] at h
      by_cases h3 : sd A x y = 0
      · omega
      · exact .inr (.inr (.inr (.inr h3)))
theorem in_two (M : MH) (A : Wl) (x y : Int) (g : Bool → Bool) (Q : DK) (q : Q (.bl (g (decide (A.1 = x ∧ A.2.1 = y) || decide (A.2.2.1 = x ∧ A.2.2.2 = y)))) M) : rInG g (.tup [.int x, .int y]) (uw A) M Q := by
  refine ⟨_, _, Pd.of rfl, .inr (Pd.of rfl), rfl, rfl, ?_⟩
  rw [List.any_cons, List.any_cons, List.any_nil, eqv_two, eqv_two, Bool.or_false]
  exact q
theorem sg_bd (z : Int) : Bd 64 (Int.sign z) := by
  rcases Int.lt_trichotomy z 0 with h | h | h
  · rw [Int.sign_eq_neg_one_of_neg h]; decide
  · subst h; decide
  · rw [Int.sign_eq_one_of_pos h]; decide
end SD

set_option Elab.async false
set_option linter.all false
set_option maxRecDepth 100000
namespace SD
open PySem PySem.Spec PyProof.Rows L2
noncomputable def uwP (w : Wl) : PyData := .tuple [.tuple [.int w.1, .int w.2.1], .tuple [.int w.2.2.1, .int w.2.2.2]]
theorem pds_ws {M : MH} : ∀ ws : List Wl, Pds M (ws.map uw) (ws.map uwP)
  | [] => .nil
  | w :: ws => .cons (Pd.of rfl) (pds_ws ws)
theorem lay_ws : ∀ ws : List Wl, PyData.canLayAll0 (ws.map uwP) = true
  | [] => rfl
  | w :: ws => by rw [List.map_cons, PyData.canLayAll0, lay_ws ws]; rfl
theorem dep_ws : ∀ ws : List Wl, PyData.depthAll (ws.map uwP) ≤ 10
  | [] => Nat.le_of_ble_eq_true rfl
  | w :: ws => by
    rw [List.map_cons, PyData.depthAll]
    exact Nat.max_le.mpr ⟨Nat.le_of_ble_eq_true rfl, dep_ws ws⟩
theorem shaped_ws (ws : List Wl) : SeqAt.shaped (.list (ws.map uwP)) = true := by
  unfold SeqAt.shaped
  have h1 := lay_ws ws
  have h2 := dep_ws ws
  rw [Bool.and_eq_true]
  refine ⟨by rw [PyData.canLay0]; exact h1, decide_eq_true ?_⟩
  rw [PyData.depth]
  omega
theorem eqv_ws_nil : ∀ ws : List Wl, PyData.eqv (.list (ws.map uwP)) (.list []) = ws.isEmpty
  | [] => by simp [PyData.eqv, PyData.eqvAll]
  | w :: ws => by simp [PyData.eqv, PyData.eqvAll]
/-- walls each two of which are fair -/
noncomputable def PF (ws : List Wl) : Prop := ∀ (i j : Nat) (U V : Wl), i ≠ j → ws[i]? = some U → ws[j]? = some V → Fair U V
theorem pf_nil : PF [] := fun i j U V _ h => by simp at h
theorem pf_append {ws : List Wl} {U : Wl} (h : PF ws) (hU : ∀ (j : Nat) (w : Wl), ws[j]? = some w → Fair U w) : PF (ws ++ [U]) := by
  intro i j A B hij hA hB
  have get : ∀ {k : Nat} {C : Wl}, (ws ++ [U])[k]? = some C → ws[k]? = some C ∨ (k = ws.length ∧ C = U) := fun {k C} e => by
    rcases Nat.lt_trichotomy k ws.length with z | z | z
    · rw [List.getElem?_append_left z] at e; exact .inl e
    · subst z
      rw [List.getElem?_append_right (Nat.le_refl _)] at e
      simp at e
      exact .inr ⟨rfl, e.symm⟩
    · rw [List.getElem?_eq_none (by simp; omega)] at e; cases e
  rcases get hA with a | ⟨a, rfl⟩ <;> rcases get hB with b | ⟨b, rfl⟩
  · exact h i j A B hij a b
  · exact (hU _ _ a).swap
  · exact hU _ _ b
  · omega
theorem end_pick {w : Wl} (h : Un5 w) {v : Int} (h0 : 0 ≤ v) (h1 : v < 2) : ∃ x y, atI [D.tup [.int w.1, .int w.2.1], .tup [.int w.2.2.1, .int w.2.2.2]] v = some (.tup [.int x, .int y]) ∧ (0 ≤ x ∧ x ≤ 20) ∧ (0 ≤ y ∧ y ≤ 20) := by
  rcases (show v = 0 ∨ v = 1 by omega) with rfl | rfl
  · exact ⟨_, _, rfl, h.a, h.b⟩
  · exact ⟨_, _, rfl, h.c, h.d⟩
theorem ws_pick {ws : List Wl} {v : Int} (h0 : 0 ≤ v) (h1 : v < ws.length) : ∃ w, w ∈ ws ∧ atI (ws.map uw) v = some (uw w) := by
  obtain ⟨j, rfl⟩ : ∃ j : Nat, v = (j : Int) := ⟨v.toNat, by omega⟩
  have hj : j < ws.length := by omega
  exact ⟨ws[j], List.getElem_mem hj, atI_nat (by simp [hj])⟩
/-- two spots in their order -/
theorem order_two {p q e f : Int} (hp : 0 ≤ p ∧ p ≤ 20) (hq : 0 ≤ q ∧ q ≤ 20) (he : 0 ≤ e ∧ e ≤ 20) (hf : 0 ≤ f ∧ f ≤ 20) (ne : ¬ (p = e ∧ q = f)) :
    ∃ w : Wl, (if HT.lexLt [e, f] [p, q] = true then [e, f] else [p, q]) = [w.1, w.2.1] ∧ (if HT.lexGt [e, f] [p, q] = true then [e, f] else [p, q]) = [w.2.2.1, w.2.2.2] ∧ Un5 w := by
  rw [lt_la hf hq, gt_la hf hq]
  have nl : la p q ≠ la e f := fun z => ne ((eq_la hq hf).mpr z)
  by_cases h : la e f < la p q
  · exact ⟨(e, f, p, q), by rw [if_pos (decide_eq_true h)], by rw [if_neg (by simp; omega)], ⟨he, hf, hp, hq, h⟩⟩
  · have h' : la p q < la e f := by omega
    exact ⟨(p, q, e, f), by rw [if_neg (by simpa using h)], by rw [if_pos (decide_eq_true h')], ⟨hp, hq, he, hf, h'⟩⟩
/-! ### the program's own numbers -/
theorem sgn_sd {t b X Y : Int} (ht : 0 < t) (hb : 0 < b) (w : Wl) (x y : Int) : Ma.sgn (Ma.cr (Ma.ut t b X 1 w.1) (Ma.ut t b Y 1 w.2.1) (Ma.ut t b X 1 w.2.2.1) (Ma.ut t b Y 1 w.2.2.2) (Ma.ut t b X 1 x) (Ma.ut t b Y 1 y)) = Int.sign (sd w x y) := by
  have k : (0 : Rat) < (t : Rat) / b := by rw [Rat.div_def]; exact Rat.mul_pos (Ma.pos_int ht) (Rat.inv_pos.mpr (Ma.pos_int hb))
  rw [cr_ut hb, sgn_mul (Rat.mul_pos k k)]
  rfl
/-! ### a op b op c as a test -/
/-! ### lists of ints -/
theorem pds_ints {M : MH} : ∀ ns : List Int, Pds M (ns.map D.int) (ns.map PyData.int)
  | [] => .nil
  | n :: ns => .cons (.int n) (pds_ints ns)
theorem lay_ints : ∀ ns : List Int, PyData.canLayAll0 (ns.map PyData.int) = true
  | [] => rfl
  | n :: ns => by rw [List.map_cons, PyData.canLayAll0, lay_ints ns]; rfl
end SD

set_option Elab.async false
set_option linter.all false
set_option maxRecDepth 100000
namespace SD
open PySem PySem.Spec PyProof.Rows L2
section
variable {X : Cx}
noncomputable def insD {α : Type} (xs : List α) (j : Nat) (y : α) : List α := xs.take j ++ y :: xs.drop j
noncomputable def rInsert : V → List V → Hp → VK → Prop := fun x vs H Q => ∃ l xs y, ∃ (k : Int) (j : Nat), x = .ref l ∧ vs = [.int k, y] ∧ k = (j : Int) ∧ H l = some (.lst xs) ∧ j ≤ xs.length ∧ xs.length < 1000000 ∧ Q .non (upd H l (.lst (insD xs j y)))
theorem ins_arr (its : List Value) (k : Int) (j : Nat) (u : Value) (hk : k = (j : Int)) (hj : j ≤ its.length) :
    (its.toArray.extract 0 (if k < 0 then (k + ((its.toArray.size : Nat) : Int)).toNat else min k.toNat its.toArray.size)).push u ++ its.toArray.extract (if k < 0 then (k + ((its.toArray.size : Nat) : Int)).toNat else min k.toNat its.toArray.size) = (insD its j u).toArray := by
  have e : (if k < 0 then (k + ((its.toArray.size : Nat) : Int)).toNat else min k.toNat its.toArray.size) = j := by
    rw [if_neg (by omega), List.size_toArray]; omega
  rw [e]
  apply Array.toList_inj.mp
  simp [insD]
  exact List.take_of_length_le (by simp)
theorem mt_insert : MtM X "list.insert" rInsert := by
  intro pins s σ H x vs v us Q I rx rv ⟨l, xs, y, k, j, ex, ev, hk, hH, hj, hz, q⟩
  subst ex ev
  cases rx
  obtain ⟨u1, u2, rfl, r1, r2⟩ := rv.two
  obtain ⟨t, rfl⟩ := r1
  obtain ⟨z, its, n, r, hl, e⟩ := I.lstM hH
  have fits : Builtin.List.listFitsIndex k = true := by
    unfold Builtin.List.listFitsIndex
    simp
    omega
  have hsz : its.toArray.size ≤ sizeLine := by rw [List.size_toArray, ← hl]; exact z
  refine call_meets PySem.F.slot_list_insert ⟨_, e, rfl⟩ PySem.F.entry_list_insert (PySem.F.args_list_insert_3 _ _ _) (PySem.AutoSeq1.list_insert_list_int_val_1 l its.toArray n k t u2 (by rw [fits]; decide) hsz) ⟨e, ?_⟩
  refine ⟨.non, _, I.lset (its' := insD its j u2) hH e (ins_arr its k j u2 hk (by omega)) ((Vals.take j r).append (.cons r2 (Vals.drop j r))) ?_, rfl, q⟩
  show (xs.take j ++ y :: xs.drop j).length ≤ sizeLine
  simp only [List.length_append, List.length_take, List.length_cons, List.length_drop]
  have : 1000000 ≤ sizeLine := Nat.le_of_ble_eq_true rfl
  omega
noncomputable def tInsD (to : TD) (t : TAD) : TD := fun δ M Q => to δ M fun x M1 => ∃ l ys, x = .ref l ∧ M1 l = some (.lst ys) ∧ t δ M1 fun ds M2 => ∃ xs d, ∃ j : Nat, ds = [.int (j : Int), d] ∧ M2 l = some (.lst xs) ∧ j ≤ xs.length ∧ xs.length < 1000000 ∧ Q .non (updM M2 l (.lst (insD xs j d)))
variable {o e1 e2 : Expr} {to : TD} {t : TAD} {apos cpos : Pos}
theorem de_m_insert (ho : DE X o to) (ha : DA X [e1, e2] t)
    (hbase : attributeBase o "insert" X.env (eval o X.env) = eval o X.env := by rfl)
    (hfew : ((backTo cpos (starEach [e1, e2] X.env)).all (fun x => !x.1) && (backToKw cpos (keywordEach [] X.env)).all (fun x => x.1.isSome)
      && decide ([e1, e2].length + ([] : List Keyword).length + (if ([] : List Keyword).isEmpty then 0 else 1) < 30)) = true := by rfl)
    (hline : (apos.endLine == cpos.line) = true := by rfl) (hs : starEach [e1, e2] X.env = (false, eval e1 X.env) :: starEach [e2] X.env := by rfl) (hplain : (backTo cpos (starEach [e2] X.env)).any (·.1) = false := by rfl) :
    DE X (.Call (.Attribute o "insert" apos) [e1, e2] [] cpos) (tInsD to t) :=
  pe_imp (pe_bm PySem.F.plainAttrs_list PySem.F.slot_list_insert PySem.F.type_list_insert mt_insert ho ha hbase hfew hline hs hplain) fun σ H Q ⟨δ, M, R, hsl, hM, q, fin⟩ => by
    refine ⟨δ, M, _, hsl, hM, q, fun x M1 v H1 g1 r1 a1 ⟨l, ys, ex, hl, q1⟩ => ?_⟩
    subst ex
    rw [Rep] at r1
    subst r1
    obtain ⟨vs, hvs, _⟩ := a1 _ _ hl
    refine ⟨.inl ⟨rfl, vs, SqL.of hvs⟩, δ, M1, _, hsl.mono g1, a1, q1, fun ds M2 us H2 g2 r2 a2 ⟨xs, d, j, ed, hx, hj, hn, q2⟩ => ?_⟩
    subst ed
    obtain ⟨u1, u2, rfl, ru1, ru2⟩ := reps2 r2
    rw [Rep] at ru1
    subst ru1
    obtain ⟨ws, hws, rws⟩ := a2 _ _ hx
    have hlen := rws.length
    exact ⟨l, ws, u2, _, j, rfl, rfl, rfl, hws, by omega, by omega, fin _ _ _ _ (g1.trans (g2.trans (.lst hws))) (by rw [Rep]) (a2.setL hws ((rws.take j).append (.cons ru2 (rws.drop j)))) q2⟩
/-- list(x) -/
noncomputable def rList : RC := fun ds M Q => match ds with
  | [.ref l] => ∃ xs, M l = some (.lst xs) ∧ ∀ p, M p = none → Q (.ref p) (updM M p (.lst xs))
  | [.tup xs] => ∀ p, M p = none → Q (.ref p) (updM M p (.lst xs))
  | _ => False
end
end SD

set_option Elab.async false
set_option linter.all false
set_option maxRecDepth 100000
/-! Above, among walls that span one spot. -/
namespace SD
open PySem PySem.Spec PyProof.Rows L2
noncomputable def lam (w : Wl) : Int := l2 w - l1 w
/-- where the wall is at half of t, over lam -/
noncomputable def Nm (w : Wl) (t : Int) : Int := 2 * w.1 * lam w + (t - 2 * l1 w) * (w.2.2.1 - w.1)
noncomputable def Gh (U V : Wl) (t : Int) : Int := Nm V t * lam U - Nm U t * lam V
theorem g_lin (U V : Wl) (p q t : Int) : Gh U V t * (q - p) = Gh U V p * (q - t) + Gh U V q * (t - p) := by
  unfold Gh Nm
  grind
theorem g_pos {U V : Wl} {p q t : Int} (h1 : p < t) (h2 : t < q) (gp : 0 ≤ Gh U V p) (gq : 0 ≤ Gh U V q) (g : 0 < Gh U V p ∨ 0 < Gh U V q) : 0 < Gh U V t := by
  refine pos_of (k := q - p) (by omega) ?_
  rw [g_lin U V p q t]
  have a1 := Int.mul_nonneg gp (show 0 ≤ q - t by omega)
  have a2 := Int.mul_nonneg gq (show 0 ≤ t - p by omega)
  rcases g with g | g
  · have := Int.mul_pos g (show 0 < q - t by omega); omega
  · have := Int.mul_pos g (show 0 < t - p by omega); omega
end SD

set_option Elab.async false
set_option linter.all false
set_option maxRecDepth 100000
/-! Lists of numbers of walls, the upper one of them. -/
namespace SD
open PySem PySem.Spec PyProof.Rows L2
theorem insD_map {α β : Type} (f : α → β) (xs : List α) (j : Nat) (y : α) : insD (xs.map f) j (f y) = (insD xs j y).map f := by
  unfold insD; simp [List.map_take, List.map_drop]
theorem insD_perm {α : Type} (xs : List α) (j : Nat) (y : α) : (insD xs j y).Perm (y :: xs) := by
  unfold insD
  have h : (xs.take j ++ y :: xs.drop j).Perm (y :: (xs.take j ++ xs.drop j)) := List.perm_middle
  rwa [List.take_append_drop] at h
theorem dep_ints : ∀ ns : List Int, PyData.depthAll (ns.map PyData.int) ≤ 10
  | [] => Nat.le_of_ble_eq_true rfl
  | n :: ns => by
    rw [List.map_cons, PyData.depthAll]
    exact Nat.max_le.mpr ⟨Nat.le_of_ble_eq_true rfl, dep_ints ns⟩
theorem shaped_list {ps : List PyData} (h1 : PyData.canLayAll0 ps = true) (h2 : PyData.depthAll ps ≤ 10) : SeqAt.shaped (.list ps) = true := by
  unfold SeqAt.shaped
  rw [Bool.and_eq_true]
  refine ⟨by rw [PyData.canLay0]; exact h1, decide_eq_true ?_⟩
  rw [PyData.depth]
  omega
theorem shaped_ints (ns : List Int) : SeqAt.shaped (.list (ns.map PyData.int)) = true := shaped_list (lay_ints ns) (dep_ints ns)
theorem fm_filter {α : Type} (p : α → Bool) (f : α → D) : ∀ l : List α, l.filterMap (fun k => if p k = true then some (f k) else none) = (l.filter p).map f
  | [] => rfl
  | a :: l => by
    rw [List.filterMap_cons, List.filter_cons]
    cases h : p a
    · simp [fm_filter p f l]
    · simp [fm_filter p f l]
/-- the wall of a number -/
noncomputable def wAt (ws : List Wl) (k : Int) : Wl := (ws[k.toNat]?).getD (0, 0, 0, 0)
theorem wAt_get {ws : List Wl} {k : Int} (h0 : 0 ≤ k) (h1 : k < ws.length) : ws[k.toNat]? = some (wAt ws k) ∧ atI (ws.map uw) k = some (uw (wAt ws k)) ∧ wAt ws k ∈ ws := by
  obtain ⟨j, rfl⟩ : ∃ j : Nat, k = (j : Int) := ⟨k.toNat, by omega⟩
  have hj : j < ws.length := by omega
  have e : wAt ws (j : Int) = ws[j] := by unfold wAt; simp [hj]
  refine ⟨by rw [e]; simp [hj], ?_, by rw [e]; exact List.getElem_mem hj⟩
  rw [e]
  exact atI_nat (by simp [hj])
/-- the walls as the program has them, as data -/
noncomputable def frP (q : Rat) : PyData := .tuple [.int q.num, .int (q.den : Int)]
noncomputable def rwP (t b x y : Int) (w : Wl) : PyData := .tuple [.tuple [frP (Ma.ut t b x 1 w.1), frP (Ma.ut t b y 1 w.2.1)], .tuple [frP (Ma.ut t b x 1 w.2.2.1), frP (Ma.ut t b y 1 w.2.2.2)]]
end SD
namespace SD
open PySem PySem.Spec PyProof.Rows L2
noncomputable def spB (ws : List Wl) (m s : Int) (j : Nat) : Bool := decide (m * l1 (wAt ws (j : Int)) ≤ s) && decide (s < m * l2 (wAt ws (j : Int)))
noncomputable def spK (ws : List Wl) (m s : Int) : List Int := ((List.range ws.length).filter (spB ws m s)).map fun j : Nat => (j : Int)
end SD

set_option Elab.async false
set_option linter.all false
set_option maxRecDepth 100000
/-! Above goes nowhere round: of some walls one has none above it. -/
namespace SD
open PySem PySem.Spec PyProof.Rows L2
end SD

set_option Elab.async false
set_option linter.all false
set_option maxRecDepth 100000
/-! Spots told over m against walls; rows of squares. -/
namespace SD
open PySem PySem.Spec PyProof.Rows L2
/-! ### squares side by side -/
noncomputable def sqV (k : Int) : Wl := (k, 0, k, 1)
noncomputable def sqH (k y : Int) : Wl := (k, y, k + 1, y)
noncomputable def sqL (m : Int) : Nat → List Wl
  | 0 => [sqV m]
  | i + 1 => sqL m i ++ [sqH (i : Int) 0, sqH (i : Int) 1, sqV (i : Int)]
theorem sqL_len (m : Int) : ∀ i : Nat, (sqL m i).length = 1 + 3 * i
  | 0 => rfl
  | i + 1 => by rw [sqL, List.length_append, sqL_len m i]; simp; omega
theorem sqL_mem {m : Int} {w : Wl} : ∀ {i : Nat}, w ∈ sqL m i → w = sqV m ∨ ∃ k : Nat, k < i ∧ (w = sqH (k : Int) 0 ∨ w = sqH (k : Int) 1 ∨ w = sqV (k : Int))
  | 0, h => .inl (List.mem_singleton.mp h)
  | i + 1, h => by
    rw [sqL, List.mem_append] at h
    rcases h with h | h
    · rcases sqL_mem h with h | ⟨k, hk, h⟩
      · exact .inl h
      · exact .inr ⟨k, by omega, h⟩
    · simp only [List.mem_cons, List.not_mem_nil, or_false] at h
      exact .inr ⟨i, by omega, h⟩
/-- a wall of the squares: upright at k, or level from k at 0 or 1 -/
noncomputable def IsSq (w : Wl) : Prop := ∃ k : Int, 0 ≤ k ∧ k ≤ 13 ∧ (w = sqV k ∨ w = sqH k 0 ∨ w = sqH k 1)
theorem sqL_is {m : Nat} {w : Wl} (hm : m ≤ 13) (h : w ∈ sqL (m : Int) m) : IsSq w := by
  rcases sqL_mem h with h | ⟨k, hk, h | h | h⟩
  · exact ⟨m, by omega, by omega, .inl h⟩
  · exact ⟨k, by omega, by omega, .inr (.inl h)⟩
  · exact ⟨k, by omega, by omega, .inr (.inr h)⟩
  · exact ⟨k, by omega, by omega, .inl h⟩
theorem sq_un {w : Wl} (h : IsSq w) : Un5 w := by
  obtain ⟨k, h0, h1, rfl | rfl | rfl⟩ := h
  · exact ⟨by simp only [sqV]; omega, by simp only [sqV]; omega, by simp only [sqV]; omega, by simp only [sqV]; omega, by simp only [sqV, l1, l2, la]; omega⟩
  · exact ⟨by simp only [sqH]; omega, by simp only [sqH]; omega, by simp only [sqH]; omega, by simp only [sqH]; omega, by simp only [sqH, l1, l2, la]; omega⟩
  · exact ⟨by simp only [sqH]; omega, by simp only [sqH]; omega, by simp only [sqH]; omega, by simp only [sqH]; omega, by simp only [sqH, l1, l2, la]; omega⟩
theorem sd_V (k x y : Int) : sd (sqV k) x y = k - x := by unfold sd crs sqV; simp; omega
theorem sd_H (k c x y : Int) : sd (sqH k c) x y = y - c := by
  unfold sd crs sqH
  simp only
  rw [show k + 1 - k = 1 by omega, Int.sub_self, Int.one_mul, Int.zero_mul, Int.sub_zero]
theorem sgn_same (z : Int) : 0 ≤ Int.sign z * Int.sign z := by
  rcases Int.lt_trichotomy z 0 with h | h | h
  · rw [Int.sign_eq_neg_one_of_neg h]; decide
  · subst h; decide
  · rw [Int.sign_eq_one_of_pos h]; decide
theorem sgn_step (z : Int) : 0 ≤ Int.sign z * Int.sign (z - 1) := by
  rcases Int.lt_trichotomy z 0 with h | h | h
  · rw [Int.sign_eq_neg_one_of_neg h, Int.sign_eq_neg_one_of_neg (by omega)]; decide
  · subst h; decide
  · rcases Int.lt_trichotomy (z - 1) 0 with g | g | g
    · omega
    · rw [g]; simp
    · rw [Int.sign_eq_one_of_pos h, Int.sign_eq_one_of_pos g]; decide
theorem sq_fair {U V : Wl} (hU : IsSq U) (hV : IsSq V) (ne : U ≠ V) : Fair U V := by
  have VV : ∀ k j : Int, k ≠ j → Fair (sqV k) (sqV j) := fun k j e => by
    refine ⟨?_, ?_, ?_, ?_, ?_, .inl ?_⟩
    · simp only [l1, l2, la, sqV]; omega
    · simp only [EndOk, sd1, sd2, sd_V]; simp only [l1, l2, la, sqV]; omega
    · simp only [EndOk, sd1, sd2, sd_V]; simp only [l1, l2, la, sqV]; omega
    · simp only [EndOk, sd1, sd2, sd_V]; simp only [l1, l2, la, sqV]; omega
    · simp only [EndOk, sd1, sd2, sd_V]; simp only [l1, l2, la, sqV]; omega
    · simp only [sd1, sd2, sd_V]; exact sgn_same _
  have VH : ∀ k j y : Int, (y = 0 ∨ y = 1) → Fair (sqV k) (sqH j y) := fun k j y hy => by
    refine ⟨?_, ?_, ?_, ?_, ?_, .inl ?_⟩
    · simp only [l1, l2, la, sqV, sqH]; omega
    · simp only [EndOk, sd1, sd2, sd_V, sd_H]; simp only [l1, l2, la, sqV, sqH]; omega
    · simp only [EndOk, sd1, sd2, sd_V, sd_H]; simp only [l1, l2, la, sqV, sqH]; omega
    · simp only [EndOk, sd1, sd2, sd_V, sd_H]; simp only [l1, l2, la, sqV, sqH]; omega
    · simp only [EndOk, sd1, sd2, sd_V, sd_H]; simp only [l1, l2, la, sqV, sqH]; omega
    · simp only [sd1, sd2, sd_V]
      have := sgn_step (k - j)
      rw [show k - j - 1 = k - (j + 1) by omega] at this
      exact this
  have HH : ∀ k y j x : Int, (y = 0 ∨ y = 1) → (x = 0 ∨ x = 1) → ¬ (k = j ∧ y = x) → Fair (sqH k y) (sqH j x) := fun k y j x hy hx e => by
    refine ⟨?_, ?_, ?_, ?_, ?_, .inl ?_⟩
    · simp only [l1, l2, la, sqH]; omega
    · simp only [EndOk, sd1, sd2, sd_H]; simp only [l1, l2, la, sqH]; omega
    · simp only [EndOk, sd1, sd2, sd_H]; simp only [l1, l2, la, sqH]; omega
    · simp only [EndOk, sd1, sd2, sd_H]; simp only [l1, l2, la, sqH]; omega
    · simp only [EndOk, sd1, sd2, sd_H]; simp only [l1, l2, la, sqH]; omega
    · simp only [sd1, sd2, sd_H]; exact sgn_same _
  have z0 : (0 : Int) = 0 ∨ (0 : Int) = 1 := .inl rfl
  have z1 : (1 : Int) = 0 ∨ (1 : Int) = 1 := .inr rfl
  obtain ⟨k, h0, h1, rfl | rfl | rfl⟩ := hU <;> obtain ⟨j, g0, g1, rfl | rfl | rfl⟩ := hV
  · exact VV k j fun z => ne (by rw [z])
  · exact VH k j 0 z0
  · exact VH k j 1 z1
  · exact (VH j k 0 z0).swap
  · exact HH k 0 j 0 z0 z0 fun z => ne (by rw [z.1])
  · exact HH k 0 j 1 z0 z1 fun z => by omega
  · exact (VH j k 1 z1).swap
  · exact HH k 1 j 0 z1 z0 fun z => by omega
  · exact HH k 1 j 1 z1 z1 fun z => ne (by rw [z.1])
theorem sqL_nodup (m : Nat) : ∀ i : Nat, i ≤ m → (sqL (m : Int) i).Nodup
  | 0, _ => List.nodup_cons.mpr ⟨by simp, List.nodup_nil⟩
  | i + 1, h => by
    rw [sqL, List.nodup_append]
    refine ⟨sqL_nodup m i (by omega), by simp [sqH, sqV], fun a ha b hb e => ?_⟩
    subst e
    have hb' : a = sqH (i : Int) 0 ∨ a = sqH (i : Int) 1 ∨ a = sqV (i : Int) := by simpa using hb
    rcases sqL_mem ha with ha | ⟨k, hk, ha⟩
    · subst ha
      rcases hb' with z | z | z <;> simp only [sqV, sqH, Prod.mk.injEq] at z <;> omega
    · rcases ha with rfl | rfl | rfl <;> rcases hb' with z | z | z <;> simp only [sqV, sqH, Prod.mk.injEq] at z <;> omega
/-- a row of the squares' walls, however it is shuffled -/
theorem sq_pf {m : Nat} {ws : List Wl} (hm : m ≤ 13) (h : ws.Perm (sqL (m : Int) m)) : PF ws ∧ (∀ w ∈ ws, Un5 w) ∧ ws.length ≤ 40 := by
  have is : ∀ w ∈ ws, IsSq w := fun w hw => sqL_is hm (h.mem_iff.mp hw)
  have nd : ws.Nodup := h.nodup_iff.mpr (sqL_nodup m m (Nat.le_refl _))
  refine ⟨fun i j U V hij hU hV => ?_, fun w hw => sq_un (is w hw), by rw [h.length_eq, sqL_len]; omega⟩
  refine sq_fair (is U (List.mem_of_getElem? hU)) (is V (List.mem_of_getElem? hV)) fun e => ?_
  subst e
  obtain ⟨h1, e1⟩ := List.getElem?_eq_some_iff.mp hU
  obtain ⟨h2, e2⟩ := List.getElem?_eq_some_iff.mp hV
  exact hij ((List.getElem_inj nd).mp (e1.trans e2.symm))
/-- the numbers of the walls that span a spot and lie below it -/
noncomputable def bB (ws : List Wl) (m p q : Int) (j : Nat) : Bool := spB ws m (la p q) j && decide (Int.sign (sd (uby m (wAt ws (j : Int))) p q) = 1)
noncomputable def bK (ws : List Wl) (m p q : Int) : List Int := ((List.range ws.length).filter (bB ws m p q)).map fun j : Nat => (j : Int)
end SD

set_option Elab.async false
set_option linter.all false
set_option maxRecDepth 100000
/-! The turn round a corner: what comes behind a face is one to one. -/
namespace SD
open PySem PySem.Spec PyProof.Rows L2
/-- ways of two numbers -/
noncomputable abbrev Vc := Int × Int
noncomputable def vc (a b : Vc) : Int := crs a.1 a.2 b.1 b.2
noncomputable def vl (a : Vc) : Int := la a.1 a.2
theorem vc_neg (a b : Vc) : vc b a = -vc a b := by unfold vc crs; grind
theorem vc_id (b x y z : Vc) : vc b y * vc x z = vc b x * vc y z + vc b z * vc x y := by unfold vc crs; grind
theorem vc_lin (a b c : Vc) (h : vc a b = 0) : vc b c * vl a = vc a c * vl b := by
  unfold vc crs at *; unfold vl la; grind
/-- two ways from one spot: never the same ray -/
noncomputable def Ray (a b : Vc) : Prop := vc a b = 0 → vl a * vl b < 0
theorem Ray.swap {a b : Vc} (h : Ray a b) : Ray b a := fun z => by
  have := h (by rw [vc_neg, z]; rfl)
  rw [Int.mul_comm]; exact this
theorem sgn3 (z : Int) : (z < 0 ∧ Int.sign z = -1) ∨ (z = 0 ∧ Int.sign z = 0) ∨ (0 < z ∧ Int.sign z = 1) := by
  rcases Int.lt_trichotomy z 0 with h | h | h
  · exact .inl ⟨h, Int.sign_eq_neg_one_of_neg h⟩
  · exact .inr (.inl ⟨h, by subst h; rfl⟩)
  · exact .inr (.inr ⟨h, Int.sign_eq_one_of_pos h⟩)
theorem prod_neg {p q : Int} (h : p * q < 0) : (p < 0 ∧ 0 < q) ∨ (0 < p ∧ q < 0) := by
  rcases Int.lt_trichotomy p 0 with a | a | a
  · rcases Int.lt_trichotomy q 0 with b | b | b
    · have := Int.mul_pos_of_neg_of_neg a b; omega
    · subst b; simp at h
    · exact .inl ⟨a, b⟩
  · subst a; simp at h
  · rcases Int.lt_trichotomy q 0 with b | b | b
    · exact .inr ⟨a, b⟩
    · subst b; simp at h
    · have := Int.mul_pos a b; omega
/-- opposite ways turn the other way about -/
theorem opp {a b : Vc} (c : Vc) (z : vc a b = 0) (h : vl a * vl b < 0) : Int.sign (vc b c) = -Int.sign (vc a c) := by
  have e := vc_lin a b c z
  generalize vc b c = p at *
  generalize vc a c = q at *
  have m1 : ∀ {x y : Int}, 0 < x → 0 < y → 0 < x * y := fun h1 h2 => Int.mul_pos h1 h2
  rcases prod_neg h with ⟨h1, h2⟩ | ⟨h1, h2⟩ <;> rcases sgn3 p with ⟨a1, e1⟩ | ⟨a1, e1⟩ | ⟨a1, e1⟩ <;> rcases sgn3 q with ⟨a2, e2⟩ | ⟨a2, e2⟩ | ⟨a2, e2⟩ <;> rw [e1, e2] <;> first | rfl | (exfalso; subst_vars; first
    | (have k1 := Int.mul_pos_of_neg_of_neg a1 h1; have k2 := Int.mul_neg_of_neg_of_pos a2 h2; omega)
    | (have k1 := Int.mul_neg_of_neg_of_pos a1 h1; have k2 := Int.mul_pos_of_neg_of_neg a2 h2; omega)
    | (have k1 := Int.mul_neg_of_pos_of_neg a1 h1; have k2 := Int.mul_pos a2 h2; omega)
    | (have k1 := Int.mul_pos a1 h1; have k2 := Int.mul_neg_of_pos_of_neg a2 h2; omega)
    | (have k1 := Int.mul_pos_of_neg_of_neg a1 h1; omega)
    | (have k1 := Int.mul_neg_of_neg_of_pos a1 h1; omega)
    | (have k1 := Int.mul_neg_of_pos_of_neg a1 h1; omega)
    | (have k1 := Int.mul_pos a1 h1; omega)
    | (have k2 := Int.mul_pos_of_neg_of_neg a2 h2; omega)
    | (have k2 := Int.mul_neg_of_neg_of_pos a2 h2; omega)
    | (have k2 := Int.mul_neg_of_pos_of_neg a2 h2; omega)
    | (have k2 := Int.mul_pos a2 h2; omega))
/-- met sooner, turning from b -/
noncomputable def snr (b x y : Vc) : Bool := if Int.sign (vc b x) = Int.sign (vc b y) then decide (vc x y < 0) else decide (Int.sign (vc b x) < Int.sign (vc b y))
theorem snr_iff (b x y : Vc) : snr b x y = true ↔ Int.sign (vc b x) < Int.sign (vc b y) ∨ (Int.sign (vc b x) = Int.sign (vc b y) ∧ vc x y < 0) := by
  unfold snr
  split
  · rename_i h; simp; omega
  · rename_i h; simp; omega
theorem snr_total {b x y : Vc} (h1 : Ray b x) (h2 : Ray b y) (h3 : Ray x y) : snr b x y = true ∨ snr b y x = true := by
  rw [snr_iff, snr_iff]
  rcases Int.lt_trichotomy (vc x y) 0 with h | h | h
  · omega
  · have o := h3 h
    have e := opp b h o
    have e1 : vc x b = -vc b x := vc_neg b x
    have e2 : vc y b = -vc b y := vc_neg b y
    rw [e1, e2, Int.sign_neg, Int.sign_neg] at e
    by_cases ne : Int.sign (vc b x) = Int.sign (vc b y)
    · have z1 : Int.sign (vc b x) = 0 := by omega
      have z2 : Int.sign (vc b y) = 0 := by omega
      have p1 := prod_neg (h1 (Int.sign_eq_zero_iff_zero.mp z1))
      have p2 := prod_neg (h2 (Int.sign_eq_zero_iff_zero.mp z2))
      have p3 := prod_neg o
      omega
    · omega
  · have := vc_neg x y
    omega
theorem snr_trans {b x y z : Vc} (h1 : Ray b x) (h2 : Ray b y) (h3 : Ray b z) (a1 : snr b x y = true) (a2 : snr b y z = true) : snr b x z = true := by
  rw [snr_iff] at *
  rcases a1 with a1 | ⟨a1, b1⟩
  · left; rcases a2 with a2 | ⟨a2, b2⟩ <;> omega
  · rcases a2 with a2 | ⟨a2, b2⟩
    · left; omega
    · right
      refine ⟨by omega, ?_⟩
      have i := vc_id b x y z
      rcases sgn3 (vc b y) with ⟨k, e⟩ | ⟨k, e⟩ | ⟨k, e⟩
      · have kx : vc b x < 0 := by rcases sgn3 (vc b x) with q | q | q <;> omega
        have kz : vc b z < 0 := by rcases sgn3 (vc b z) with q | q | q <;> omega
        have u1 := Int.mul_pos_of_neg_of_neg kx b2
        have u2 := Int.mul_pos_of_neg_of_neg kz b1
        rcases Int.lt_trichotomy (vc x z) 0 with q | q | q
        · exact q
        · rw [q] at i; simp at i; omega
        · have := Int.mul_neg_of_neg_of_pos k q; omega
      · exfalso
        have kx : vc b x = 0 := by rcases sgn3 (vc b x) with q | q | q <;> omega
        have p1 := h1 kx
        have e := opp y kx p1
        have : Int.sign (vc x y) = -1 := Int.sign_eq_neg_one_of_neg b1
        rw [k] at e
        simp at e
        omega
      · have kx : 0 < vc b x := by rcases sgn3 (vc b x) with q | q | q <;> omega
        have kz : 0 < vc b z := by rcases sgn3 (vc b z) with q | q | q <;> omega
        have u1 := Int.mul_neg_of_pos_of_neg kx b2
        have u2 := Int.mul_neg_of_pos_of_neg kz b1
        rcases Int.lt_trichotomy (vc x z) 0 with q | q | q
        · exact q
        · rw [q] at i; simp at i; omega
        · have := Int.mul_pos k q; omega
/-- met ahead of one another from one another: never -/
theorem snr_cyc {a b c : Vc} (h : Ray a b) (s1 : snr a c b = true) (s2 : snr b c a = true) : False := by
  rw [snr_iff] at s1 s2
  have e1 : vc b a = -vc a b := vc_neg a b
  have e2 : vc c b = -vc b c := vc_neg b c
  have e3 : vc c a = -vc a c := vc_neg a c
  rw [e1, Int.sign_neg] at s2
  rw [e2] at s1
  rw [e3] at s2
  by_cases z : vc a b = 0
  · have o := opp c z (h z)
    rw [z] at s1 s2
    simp at s1 s2
    rcases sgn3 (vc a c) with q | q | q <;> rcases sgn3 (vc b c) with r | r | r <;> omega
  · rcases sgn3 (vc a b) with p | p | p <;> rcases sgn3 (vc a c) with q | q | q <;> rcases sgn3 (vc b c) with r | r | r <;> omega
end SD

set_option Elab.async false
set_option linter.all false
set_option maxRecDepth 100000
/-! Faces, and what comes behind them. -/
namespace SD
open PySem PySem.Spec PyProof.Rows L2
noncomputable def rev (w : Wl) : Wl := (w.2.2.1, w.2.2.2, w.1, w.2.1)
/-- a face's way -/
noncomputable def fw (ws : List Wl) (f : Nat) : Wl := if f % 2 = 0 then wAt ws ((f / 2 : Nat) : Int) else rev (wAt ws ((f / 2 : Nat) : Int))
noncomputable def fa (ws : List Wl) (f : Nat) : Vc := ((fw ws f).1, (fw ws f).2.1)
noncomputable def fb (ws : List Wl) (f : Nat) : Vc := ((fw ws f).2.2.1, (fw ws f).2.2.2)
noncomputable def fd (ws : List Wl) (f : Nat) : Vc := ((fw ws f).2.2.1 - (fw ws f).1, (fw ws f).2.2.2 - (fw ws f).2.1)
noncomputable def fx (f : Nat) : Nat := if f % 2 = 0 then f + 1 else f - 1
theorem fx_half (f : Nat) : fx f / 2 = f / 2 ∧ (fx f) % 2 = 1 - f % 2 := by unfold fx; split <;> omega
theorem fx_fx (f : Nat) : fx (fx f) = f := by unfold fx; split <;> split <;> omega
theorem fx_lt {f n : Nat} (h : f < 2 * n) : fx f < 2 * n := by unfold fx; split <;> omega
theorem fw_fx (ws : List Wl) (f : Nat) : fw ws (fx f) = rev (fw ws f) := by
  unfold fw
  rw [(fx_half f).1, (fx_half f).2]
  by_cases h : f % 2 = 0
  · rw [if_neg (by omega), if_pos h]
  · rw [if_pos (by omega), if_neg h]; rfl
theorem fa_fx (ws : List Wl) (f : Nat) : fa ws (fx f) = fb ws f := by unfold fa fb; rw [fw_fx]; rfl
theorem ray_faces {ws : List Wl} (hU : ∀ w ∈ ws, Un5 w) (hF : PF ws) {g h : Nat} (hg : g < 2 * ws.length) (hh : h < 2 * ws.length) (ne : g ≠ h) (e : fa ws g = fa ws h) : Ray (fd ws g) (fd ws h) := by
  obtain ⟨g1, _, g3⟩ := wAt_get (ws := ws) (k := ((g / 2 : Nat) : Int)) (by omega) (by omega)
  obtain ⟨h1, _, h3⟩ := wAt_get (ws := ws) (k := ((h / 2 : Nat) : Int)) (by omega) (by omega)
  have U := hU _ g3
  have V := hU _ h3
  rw [Int.toNat_natCast] at g1 h1
  unfold fa at e
  have e1 := congrArg Prod.fst e
  have e2 := congrArg Prod.snd e
  unfold fd
  unfold fw at *
  by_cases same : g / 2 = h / 2
  · exfalso
    rw [← same] at e1 e2
    have lt := U.lt
    unfold l1 l2 la at lt
    by_cases p : g % 2 = 0
    · rw [if_pos p, if_neg (show ¬ h % 2 = 0 by omega)] at e1 e2
      unfold rev at e1 e2
      dsimp only at e1 e2
      omega
    · rw [if_neg p, if_pos (show h % 2 = 0 by omega)] at e1 e2
      unfold rev at e1 e2
      dsimp only at e1 e2
      omega
  · have F := hF _ _ _ _ same g1 h1
    generalize wAt ws ((g / 2 : Nat) : Int) = u at *
    generalize wAt ws ((h / 2 : Nat) : Int) = v at *
    intro z
    have lu := U.lt
    have lv := V.lt
    unfold vc crs at z
    have q2 := F.e2
    have q4 := F.e4
    have q1 := F.e1
    have q3 := F.e3
    have qn := F.ne
    unfold EndOk at q1 q2 q3 q4
    unfold vl
    by_cases p : g % 2 = 0 <;> by_cases q : h % 2 = 0
    · rw [if_pos p, if_pos q] at z e1 e2 ⊢
      exfalso
      simp only [] at z e1 e2
      have s2 : sd2 u v = 0 := by unfold sd2 sd crs; grind
      have s4 : sd2 v u = 0 := by unfold sd2 sd crs; grind
      have el : l1 u = l1 v := by unfold l1; rw [e1, e2]
      omega
    · rw [if_pos p, if_neg q] at z e1 e2 ⊢
      unfold rev at *
      simp only [] at z e1 e2 ⊢
      have d1 : la (u.2.2.1 - u.1) (u.2.2.2 - u.2.1) = l2 u - l1 u := by unfold l1 l2 la; omega
      have d2 : la (v.1 - v.2.2.1) (v.2.1 - v.2.2.2) = -(l2 v - l1 v) := by unfold l1 l2 la; omega
      rw [d1, d2]
      exact Int.mul_neg_of_pos_of_neg (by omega) (by omega)
    · rw [if_neg p, if_pos q] at z e1 e2 ⊢
      unfold rev at *
      simp only [] at z e1 e2 ⊢
      have d1 : la (u.1 - u.2.2.1) (u.2.1 - u.2.2.2) = -(l2 u - l1 u) := by unfold l1 l2 la; omega
      have d2 : la (v.2.2.1 - v.1) (v.2.2.2 - v.2.1) = l2 v - l1 v := by unfold l1 l2 la; omega
      rw [d1, d2]
      exact Int.mul_neg_of_neg_of_pos (by omega) (by omega)
    · rw [if_neg p, if_neg q] at z e1 e2 ⊢
      unfold rev at *
      exfalso
      simp only [] at z e1 e2
      have s2 : sd1 u v = 0 := by unfold sd1 sd crs; grind
      have s4 : sd1 v u = 0 := by unfold sd1 sd crs; grind
      have el : l2 u = l2 v := by unfold l2; rw [e1, e2]
      omega
/-- the first one of an order -/
noncomputable def fstep (R : Nat → Nat → Bool) (o : Option Nat) (g : Nat) : Option Nat := match o with
  | none => some g
  | some h => if R g h = true then some g else some h
theorem fold_min {R : Nat → Nat → Bool} {S : Nat → Prop} (tot : ∀ x y, S x → S y → x ≠ y → R x y = true ∨ R y x = true) (tr : ∀ x y z, S x → S y → S z → R x y = true → R y z = true → R x z = true) :
    ∀ (l : List Nat) (h : Nat), S h → (∀ x ∈ l, S x) → ∃ m, l.foldl (fstep R) (some h) = some m ∧ S m ∧ (m = h ∨ m ∈ l) ∧ (h = m ∨ R m h = true) ∧ ∀ x ∈ l, x = m ∨ R m x = true
  | [], h, sh, _ => ⟨h, rfl, sh, .inl rfl, .inl rfl, fun x hx => by cases hx⟩
  | g :: l, h, sh, hl => by
    have sg := hl g (by simp)
    rw [List.foldl_cons]
    by_cases r : R g h = true
    · obtain ⟨m, e, sm, mem, h1, h2⟩ := fold_min tot tr l g sg (fun x hx => hl x (by simp [hx]))
      have es : fstep R (some h) g = some g := by unfold fstep; simp [r]
      rw [es]
      refine ⟨m, e, sm, ?_, ?_, ?_⟩
      · rcases mem with z | z
        · right; simp [z]
        · right; simp [z]
      · right
        rcases h1 with z | z
        · rw [← z]; exact r
        · exact tr _ _ _ sm sg sh z r
      · intro x hx
        rcases List.mem_cons.mp hx with z | z
        · subst z; exact h1
        · exact h2 x z
    · obtain ⟨m, e, sm, mem, h1, h2⟩ := fold_min tot tr l h sh (fun x hx => hl x (by simp [hx]))
      have es : fstep R (some h) g = some h := by unfold fstep; simp [r]
      rw [es]
      refine ⟨m, e, sm, ?_, h1, ?_⟩
      · rcases mem with z | z
        · exact .inl z
        · right; simp [z]
      · intro x hx
        rcases List.mem_cons.mp hx with z | z
        · subst z
          by_cases ne : x = h
          · subst ne; exact h1
          · rcases tot x h sg sh ne with q | q
            · exact absurd q r
            · rcases h1 with z | z
              · right; rw [← z]; exact q
              · right; exact tr _ _ _ sm sh sg z q
        · exact h2 x z
noncomputable def candB (ws : List Wl) (f g : Nat) : Bool := decide (fa ws g = fb ws f) && decide (g ≠ fx f)
noncomputable def cand (ws : List Wl) (f : Nat) : List Nat := (List.range (2 * ws.length)).filter (candB ws f)
noncomputable def snF (ws : List Wl) (f g h : Nat) : Bool := snr (fd ws (fx f)) (fd ws g) (fd ws h)
/-- what comes behind a face -/
noncomputable def bh (ws : List Wl) (f : Nat) : Nat := ((cand ws f).foldl (fstep (snF ws f)) none).getD (fx f)
theorem cand_mem {ws : List Wl} {f g : Nat} : g ∈ cand ws f ↔ g < 2 * ws.length ∧ fa ws g = fb ws f ∧ g ≠ fx f := by
  unfold cand candB
  simp [List.mem_filter]
theorem bh_spec {ws : List Wl} (hU : ∀ w ∈ ws, Un5 w) (hF : PF ws) {f : Nat} (hf : f < 2 * ws.length) : (cand ws f = [] ∧ bh ws f = fx f) ∨ (bh ws f ∈ cand ws f ∧ ∀ x ∈ cand ws f, x = bh ws f ∨ snF ws f (bh ws f) x = true) := by
  unfold bh
  cases c : cand ws f with
  | nil => exact .inl ⟨rfl, rfl⟩
  | cons g l =>
    right
    have sub : ∀ x ∈ g :: l, x < 2 * ws.length ∧ fa ws x = fb ws f ∧ x ≠ fx f := fun x hx => cand_mem.mp (by rw [c]; exact hx)
    have ry : ∀ x, (x < 2 * ws.length ∧ fa ws x = fb ws f ∧ x ≠ fx f) → Ray (fd ws (fx f)) (fd ws x) := fun x hx => ray_faces hU hF (fx_lt hf) hx.1 (fun z => hx.2.2 z.symm) (by rw [fa_fx, hx.2.1])
    obtain ⟨m, e, sm, mem, h1, h2⟩ := fold_min (R := snF ws f) (S := fun x => x < 2 * ws.length ∧ fa ws x = fb ws f ∧ x ≠ fx f)
      (fun x y hx hy ne => snr_total (ry x hx) (ry y hy) (ray_faces hU hF hx.1 hy.1 ne (by rw [hx.2.1, hy.2.1])))
      (fun x y z hx hy hz a b => snr_trans (ry x hx) (ry y hy) (ry z hz) a b) l g (sub g (by simp)) (fun x hx => sub x (by simp [hx]))
    rw [List.foldl_cons]
    have es : fstep (snF ws f) none g = some g := rfl
    rw [es, e]
    simp only [Option.getD_some]
    refine ⟨by rcases mem with z | z <;> simp [z], fun x hx => ?_⟩
    rcases List.mem_cons.mp hx with z | z
    · subst z; exact h1
    · exact h2 x z
theorem bh_lt {ws : List Wl} (hU : ∀ w ∈ ws, Un5 w) (hF : PF ws) {f : Nat} (hf : f < 2 * ws.length) : bh ws f < 2 * ws.length := by
  rcases bh_spec hU hF hf with ⟨_, e⟩ | ⟨h, _⟩
  · rw [e]; exact fx_lt hf
  · exact (cand_mem.mp h).1
theorem bh_fa {ws : List Wl} (hU : ∀ w ∈ ws, Un5 w) (hF : PF ws) {f : Nat} (hf : f < 2 * ws.length) : fa ws (bh ws f) = fb ws f := by
  rcases bh_spec hU hF hf with ⟨_, e⟩ | ⟨h, _⟩
  · rw [e, fa_fx]
  · exact (cand_mem.mp h).2.1
theorem bh_inj {ws : List Wl} (hU : ∀ w ∈ ws, Un5 w) (hF : PF ws) {f g : Nat} (hf : f < 2 * ws.length) (hg : g < 2 * ws.length) (e : bh ws f = bh ws g) : f = g := by
  by_cases ne : fx f = fx g
  · rw [← fx_fx f, ne, fx_fx]
  · exfalso
    have c : fb ws f = fb ws g := by rw [← bh_fa hU hF hf, ← bh_fa hU hF hg, e]
    have m1 : fx g ∈ cand ws f := cand_mem.mpr ⟨fx_lt hg, by rw [fa_fx, c], fun z => ne z.symm⟩
    have m2 : fx f ∈ cand ws g := cand_mem.mpr ⟨fx_lt hf, by rw [fa_fx, c], ne⟩
    rcases bh_spec hU hF hf with ⟨z, _⟩ | ⟨k1, k2⟩
    · rw [z] at m1; cases m1
    · rcases bh_spec hU hF hg with ⟨z, _⟩ | ⟨j1, j2⟩
      · rw [z] at m2; cases m2
      · have n1 := (cand_mem.mp k1).2.2
        have n2 := (cand_mem.mp j1).2.2
        have s1 := (k2 _ m1).resolve_left (fun z => n2 (by rw [← e, ← z]))
        have s2 := (j2 _ m2).resolve_left (fun z => n1 (by rw [e, ← z]))
        rw [← e] at s2
        exact snr_cyc (ray_faces hU hF (fx_lt hf) (fx_lt hg) ne (by rw [fa_fx, fa_fx, c])) s1 s2
end SD

set_option Elab.async false
set_option linter.all false
set_option maxRecDepth 100000
/-! Rings. -/
namespace SD
open PySem PySem.Spec PyProof.Rows L2
noncomputable def itb (ws : List Wl) (f : Nat) : Nat → Nat
  | 0 => f
  | k + 1 => bh ws (itb ws f k)
noncomputable def rn (ws : List Wl) (f k : Nat) : List Nat := (List.range (k + 1)).map (itb ws f)
noncomputable def NR (ws : List Wl) (f k : Nat) : Prop := ∀ i j, i < j → j ≤ k → itb ws f i ≠ itb ws f j
section
variable {ws : List Wl} (hU : ∀ w ∈ ws, Un5 w) (hF : PF ws) {f : Nat} (hf : f < 2 * ws.length)
include hU hF hf
end
/-- a ring, from its first face on -/
structure Rng (ws : List Wl) (r : List Nat) : Prop where
  ex : ∃ f k, f < 2 * ws.length ∧ k + 1 ≤ 2 * ws.length ∧ r = rn ws f k ∧ bh ws (itb ws f k) = f
noncomputable def twT (ws : List Wl) (g : Nat) : Int := (fa ws g).1 * (fb ws g).2 - (fb ws g).1 * (fa ws g).2
noncomputable def arT (t b X Y : Int) (ws : List Wl) (g : Nat) : Rat := Ma.ut t b X 1 (fa ws g).1 * Ma.ut t b Y 1 (fb ws g).2 - Ma.ut t b X 1 (fb ws g).1 * Ma.ut t b Y 1 (fa ws g).2
end SD

set_option Elab.async false
set_option linter.all false
set_option maxRecDepth 100000
/-! A dict with pairs of ints as keys; list(range(n)). -/
namespace SD
open PySem PySem.Spec PyProof.Rows L2
section
variable {X : Cx} {pos : Pos}
noncomputable def tNewDct : TD := fun _ M Q => ∀ p, M p = none → Q (.ref p) (updM M p (.dct 0 fun _ => false))
/-- (a, b) in d, not in d; d a name -/
noncomputable def tDctIn (g : Bool → Bool) (t : TAD) (i : Nat) : TD := fun δ M Q => t δ M fun ds M1 => ∃ a b l n P, ds = [.int a, .int b] ∧ δ[i]? = some (some (.ref l)) ∧ M1 l = some (.dct n P) ∧ Q (.bl (g (P [a, b]))) M1
variable {x : Str} {e1 e2 : Expr} {kt : Nat} {tp np : Pos} {t : TAD}
/-- d[a, b] = v; d a name -/
noncomputable def tDctPut (tv : TD) (t : TAD) (i : Nat) : TSD := fun B δ M => tv δ M fun d M1 => ∃ l, δ[i]? = some (some (.ref l)) ∧ t δ M1 fun ds M2 => ∃ a b n P, ds = [.int a, .int b] ∧ M2 l = some (.dct n P) ∧ n < 1000000 ∧ B.nx δ (updM M2 l (.dct (n + 1) fun k => decide (k = [a, b]) || P k))
/-- range(n) as a value -/
noncomputable def tRngV (t : TA) : TE := fun σ H Q => t σ H fun vs H1 => ∃ n : Nat, vs = [.int (n : Int)] ∧ ∀ p, H1 p = none → Q (.ref p) (upd H1 p (.rng 0 (n : Int)))
theorem pe_rng {a : Expr} {ta : TA} {p : Pos} (hg : Gl X "range") (hm : X.mg "range" = none) (ha : PA X [a] ta) (hs : starEach [a] X.env = [(false, eval a X.env)] := by rfl) : PE X (.Call (.Name "range" p) [a] [] pos) (tRngV ta) := by
  intro pins s σ H Q I h
  refine wpAny_Call_Name_kw (ld_blt I hg hm boot_range (PyProof.Rows.callWith_type1 (thn (ha pos pins s σ H _ I h) fun us s1 ⟨vs, H1, I1, r1, n, ev, q⟩ => ?_) hs rfl))
  subst ev
  obtain ⟨u, rfl, t, rfl⟩ := vals1 r1
  refine call_range_1 ?_
  have hf := I1.hok.fresh (Nat.le_refl s1.heap.objs.size)
  exact ⟨.ref _, _, I1.laid (a := s1.heap.objs.size) (o := .rng 0 (n : Int)) (fun b u e => Heap.get?_push_of_some _ e) (Nat.le_refl _) ⟨_, _, _, Heap.get?_push_size _ rfl⟩, rfl, q _ hf⟩
theorem vals_range : ∀ (n : Nat) (l : List Value), l.length = n → (∀ (j : Nat) (v : Value), l[j]? = some v → ∃ t, v = Value.int (j : Int) t) → Vals ((List.range n).map fun i : Nat => V.int (i : Int)) l := by
  intro n l hl h
  have key : ∀ (m : Nat) (l : List Value), (∀ (j : Nat) (v : Value), l[j]? = some v → ∃ t, v = Value.int ((m + j : Nat) : Int) t) → Vals ((List.range' m l.length).map fun i : Nat => V.int (i : Int)) l := by
    intro m l
    induction l generalizing m with
    | nil => intro _; exact .nil
    | cons a l ih =>
      intro h
      rw [List.length_cons, List.range'_succ, List.map_cons]
      refine .cons (h 0 a rfl) (ih (m + 1) fun j v e => ?_)
      obtain ⟨t, q⟩ := h (j + 1) v (by simpa using e)
      exact ⟨t, by rw [q]; congr 1; omega⟩
  have := key 0 l (fun j v e => by simpa using h j v e)
  rw [hl, ← List.range_eq_range'] at this
  exact this
theorem call_listR (hc : X.calm = true) : CallR X (.type "list") (fun xs H Q => ∃ a, ∃ n : Nat, xs = [.ref a] ∧ H a = some (.rng 0 (n : Int)) ∧ n ≤ 1000000 ∧ ∀ p, H p = none → Q (.ref p) (upd H p (.lst ((List.range n).map fun i : Nat => V.int (i : Int))))) := by
  intro pins s σ H xs us Q I r ⟨a, n, ex, ha, hn, q⟩
  subst ex
  obtain ⟨u, rfl, ru⟩ := vals1 r
  cases (show u = Value.ref a from ru)
  obtain ⟨t, u, v, e⟩ := I.hok a _ ha
  have hz : Builtin.Range.rangeSize 0 (n : Int) 1 = (n : Int) := by rw [rangeSize_one]; split <;> omega
  refine call_list_range (I.ok.hd hc) e (small_one (by omega) (by omega) (by omega) (by omega)) hz (by omega) fun h' tk acc c' kp gl ⟨hsz, hit⟩ => ?_
  have hf := I.hok.fresh (Nat.le_refl s.heap.objs.size)
  have rv : Vals ((List.range n).map fun i : Nat => V.int (i : Int)) acc.toList := vals_range n acc.toList (by simpa using hsz) fun j v e => by
    obtain ⟨t, q⟩ := hit j v (by simpa using e)
    exact ⟨t, by rw [q]; congr 1; omega⟩
  refine ⟨.ref _, _, I.laid (a := s.heap.objs.size) (o := .lst ((List.range n).map fun i : Nat => V.int (i : Int))) (t' := tk) kp (Nat.le_refl _) ⟨?_, acc.toList, c', rv, by simpa using gl⟩, rfl, q _ hf⟩
  have sz : 1000000 ≤ sizeLine := Nat.le_of_ble_eq_true rfl
  simp; omega
noncomputable def tLstR (t : TAD) : TD := fun δ M Q => t δ M fun ds M1 => ∃ n : Nat, ds = [.int (n : Int)] ∧ n ≤ 1000000 ∧ ∀ p, M1 p = none → Q (.ref p) (updM M1 p (.lst ((List.range n).map fun i : Nat => D.int (i : Int))))
theorem reps_range {K : PySem.W.Frag} {H : Hp} (n : Nat) : Reps K H ((List.range n).map fun i : Nat => D.int (i : Int)) ((List.range n).map fun i : Nat => V.int (i : Int)) := by
  have := reps_ints (K := K) (H := H) ((List.range n).map fun i : Nat => (i : Int))
  rw [List.map_map, List.map_map] at this
  exact this
theorem de_listR {e : Expr} {rp rq lp : Pos} (hc : X.calm = true) (hm : X.mg "list" = none) (hmr : X.mg "range" = none) (ha : DA X [e] t) (hgl : Gl X "list" := by rfl) (hgr : Gl X "range" := by rfl) (hs : starEach [e] X.env = [(false, eval e X.env)] := by rfl)
    (he2 : starEach [.Call (.Name "range" rp) [e] [] rq] X.env = (false, eval (.Call (.Name "range" rp) [e] [] rq) X.env) :: starEach [] X.env := by rfl) (hpl2 : (backTo pos (starEach [] X.env)).any (·.1) = false := by rfl) :
    DE X (.Call (.Name "list" lp) [.Call (.Name "range" rp) [e] [] rq] [] pos) (tLstR t) :=
  pe_imp (pe_callTy (call_listR hc) hgl hm bt_list (pa_cons (pe_rng hgr hmr ha hs) pa_nil he2) (by decide) (by decide) he2 hpl2) fun σ H Q ⟨δ, M, R, hs, hM, q, fin⟩ => by
    refine ⟨δ, M, _, hs, hM, q, fun ds M1 vs H1 g1 r1 a1 ⟨n, ed, hn, q1⟩ => ?_⟩
    subst ed
    obtain ⟨v, rfl, rv⟩ := reps1 r1
    rw [Rep] at rv; subst rv
    refine ⟨n, rfl, fun p hp => ⟨p, n, rfl, upd_same, hn, fun p2 hp2 => ?_⟩⟩
    exact fin _ _ _ _ ((g1.trans (.new hp)).trans (.new hp2)) (by rw [Rep]) ((a1.new hp).newL hp2 (reps_range n)) (q1 p2 ((a1.new hp).fresh hp2))
end
end SD

set_option Elab.async false
set_option linter.all false
set_option maxRecDepth 100000
/-! Comprehensions with two fors: [elt for x in a for y in b]. -/
namespace SD
open PySem PySem.Spec PyProof.Rows L2
noncomputable def two (elt t1 i1 t2 i2 : Expr) (scope : Scope) (pos : Pos) : Expr := .ListComp elt [⟨t1, i1, [], 0⟩, ⟨t2, i2, [], 0⟩] scope pos
section
variable {prog : Program} {w : World} {A : Around} {R : Result → Shared → Prop} {s : Shared} {elt t1 i1 t2 i2 : Expr} {scope : Scope} {pos : Pos} {it acc : Value} {env : Env}
end
/-- [elt for x in .. for y in ..] -/
noncomputable def wTwo (js : List Nat) (wi2 : TI) (te : TE) (σ : L2.St) (J : It) (H1 : Hp) (Q : VK) : Prop := ∀ D, H1 D = none → ∃ W : Nat → Nat → Hp → Prop, (∃ m, W 0 m (upd H1 D (.lst []))) ∧ ∀ i m H, W i m H →
  (J.stop i H ∧ Q (.ref D) H) ∨ (J.go i H ∧ ∀ y H', J.yld i H y H' → ∀ o, wi2 (cσ [some y, o] js σ) H' fun J2 H2 => ∃ U : Nat → Nat → Hp → Prop, (∃ n, U 0 n H2) ∧ ∀ j n H3, U j n H3 →
    (J2.stop j H3 ∧ ∃ m', m' < m ∧ W (i + 1) m' H3) ∨ (J2.go j H3 ∧ ∀ z H4, J2.yld j H3 z H4 → te (cσ [some y, some z] js σ) H4 fun v H5 => ∃ xs, H5 D = some (.lst xs) ∧ xs.length < sizeLine ∧ ∃ n', n' < n ∧ U (j + 1) n' (upd H5 D (.lst (xs ++ [v])))))
noncomputable def tTwoL (js : List Nat) (wi wi2 : TI) (te : TE) : TE := fun σ H Q => wi σ H fun J H1 => wTwo js wi2 te σ J H1 Q
section
variable {X : Cx} {x y : Str} {px py pos : Pos} {js : List Nat} {scope : Scope} {elt i1 i2 : Expr} {te : TE} {wi wi2 : TI} {pins : List (Addr × Obj)} {σ : L2.St} {H : Hp} {s : Shared} {fp : List Addr} {it : Addr} {tn : Nat → Heap → Prop} {J : It}
end
noncomputable def kTwo (I : ItD) (js : List Nat) (wd2 : TID) (te : TD) (δ : DS) (M1 : MH) (Q : DK) : Prop := I.n ≤ 1000 ∧ ∀ p, M1 p = none → ∃ W : Nat → List D → MH → Prop, W 0 [] (updM M1 p (.lst [])) ∧ (∀ i ys M, i ≤ I.n → W i ys M → I.C M) ∧
  (∀ i ys d M, i < I.n → I.item i = some d → W i ys M → wd2 (cδ [some d, none] js δ) M fun I2 M2 => I2.n ≤ 1000 ∧ ∃ U : Nat → List D → MH → Prop, U 0 ys M2 ∧ (∀ j zs M, j ≤ I2.n → U j zs M → I2.C M) ∧
    (∀ j zs e M, j < I2.n → I2.item j = some e → U j zs M → te (cδ [some d, some e] js δ) M fun v M' => ∃ M3, Sub M3 M' ∧ M3 p = some (.lst zs) ∧ U (j + 1) (zs ++ [v]) (updM M3 p (.lst (zs ++ [v])))) ∧ ∀ zs M, U I2.n zs M → W (i + 1) zs M) ∧ ∀ ys M, W I.n ys M → Q (.ref p) M
noncomputable def tTwoD (wd : TID) (js : List Nat) (wd2 : TID) (te : TD) : TD := fun δ M Q => wd δ M fun I M1 => kTwo I js wd2 te δ M1 Q
section
variable {X : Cx} {x y : Str} {px py pos : Pos} {js : List Nat} {scope : Scope} {elt i1 i2 : Expr} {te : TD} {wd wd2 : TID}
end
end SD

set_option Elab.async false
set_option linter.all false
set_option maxRecDepth 100000
/-! t[::-1] of a pair; sum of a list of ints. -/
namespace SD
open PySem PySem.Spec PyProof.Rows L2
section
variable {prog : Program} {w : World} {A : Around} {E : Value → Shared → Prop} {s : Shared}
theorem applied_rev {sl : Addr} {t : Tok} {Q : Int × Int × Nat → Shared → Prop} (hs : s.heap.IsSliceOf sl .none .none (.int (-1) t)) (h : Q (1, -1, 2) s) : wpAny (model prog w) A (Builtin.Slice.sliceApplied (.ref sl) (pure ((2 : Nat) : Int))) Q E s := by
  obtain ⟨os, hos, hcs, hds⟩ := id hs
  unfold Builtin.Slice.sliceApplied Builtin.Slice.sliceFields
  refine wpAny_bind (wpAny_bind (wpAny_field hos hds (x := .none) rfl (wpAny_bind (wpAny_field hos hds (x := .none) rfl (wpAny_bind (wpAny_field hos hds (x := .int (-1) t) rfl (wpAny_pure ?_)))))))
  refine wpAny_bind (HT.slicePart_ (IsPart.int _ _) ?_)
  show wpAny _ _ (if ((-1 : Int) == 0) = true then _ else _) _ _ s
  rw [if_neg (by decide)]
  refine wpAny_bind (HT.slicePart_ IsPart.none (wpAny_bind (HT.slicePart_ IsPart.none (wpAny_bind (wpAny_pure ?_)))))
  exact wpAny_pure h
theorem getItem_rev {t sl : Addr} {x y : Value} {tk : Tok} {Q : Value → Shared → Prop} (ht : IsTup s.heap t #[x, y]) (hs : s.heap.IsSliceOf sl .none .none (.int (-1) tk))
    (h : Q (.ref s.heap.objs.size) { s with heap := s.heap.push { cls := .type "tuple", data := .seq #[y, x] } }) : wpAny (model prog w) A (getItem (.ref t) (.ref sl)) Q E s := by
  obtain ⟨os, hos, hcs, hds⟩ := id hs
  have hTs : s.TypeIs (.ref sl) "slice" := ⟨os, hos, hcs⟩
  unfold getItem
  try with_reducible refine wpAny_holding ?_
  first | refine wpAny_bind (wpAny_pure ?_) | skip
  refine wpAny_bind (wpAny_sequenceKey ht.typeIs (by decide) ?_)
  refine wpAny_bind (wpAny_callSpecial?_slot (name := Str.ofString "__getitem__") ht.typeIs PyProof.Rows.slot_tuple_getitem
    (wpAny_call_entry PyProof.Rows.slot_tuple_getitem ht.typeIs entry_tuple_getitem ?_ (args_tuple_getitem _ _)))
  show wpAny _ _ (Builtin.Tuple.tupleItemsOf (.ref t) >>= _) _ _ s
  refine wpAny_bind (tupleItemsOf_ ht ?_)
  refine wpAny_bind (wpAny_typeOf hTs ?_)
  rw [if_pos (by decide)]
  refine wpAny_bind (applied_rev hs ?_)
  have htake : sizeOk (.seq #[y, x]) := Nat.le_of_ble_eq_true rfl
  first
    | exact wpAny_bind (m := Builtin.Tuple.tupleExact _) (wpAny_newObj_type (wpAny_pure ⟨_, rfl, wpAny_pure h⟩) htake)
    | exact wpAny_bind (m := Builtin.Tuple.tupleExact _) (wpAny_newObj_type (wpAny_bind (wpAny_pure (wpAny_pure ⟨_, rfl, wpAny_pure h⟩))) htake)
    | exact wpAny_bind (wpAny_bind (m := Builtin.Tuple.tupleExact _) (wpAny_newObj_type (wpAny_pure (wpAny_pure ⟨_, rfl, wpAny_pure h⟩)) htake))
    | exact wpAny_bind (wpAny_bind (m := Builtin.Tuple.tupleExact _) (wpAny_newObj_type (wpAny_pure ⟨_, rfl, wpAny_pure h⟩) htake))
end
section
variable {X : Cx} {e st : Expr} {pos p2 : Pos}
noncomputable def tRev (K : PySem.W.Frag) (te : TE) (ts : TO) : TE := fun σ H Q => te σ H fun x H1 => ts σ H1 fun o H2 => o = some (-1) ∧ ∃ a u v, x = .ref a ∧ SqT K H2 a [u, v] ∧ ∀ p, H2 p = none → Q (.ref p) (upd H2 p (.tup [v, u]))
theorem pe_rev {te : TE} {ts : TO} (he : PE X e te) (hs : PO X (some st) ts) : PE X (.Subscript e (.Slice none none (some st) p2) pos) (tRev X.K te ts) := by
  intro pins s σ H Q I h
  refine Subscript_ (thn (he pins s σ H _ I h) fun v s1 ⟨x, H1, I1, r1, q1⟩ => ?_)
  refine wpAny_Slice ?_
  rw [evalPart_none]
  refine wpAny_pure (wpAny_pure (thn (hs pins s1 σ H1 _ I1 q1) fun vs s3 ⟨o, H3, I3, ps, eo, a, u, v', ex, hx, q3⟩ => ?_))
  subst eo ex
  cases r1
  obtain ⟨tk, rfl⟩ : ∃ tk, vs = Value.int (-1) tk := by cases ps; exact ⟨_, rfl⟩
  have I4 : Inv X pins σ H3 { s3 with heap := s3.heap.push { cls := .type "slice", data := .fields #[.none, .none, .int (-1) tk] } } := I3.kept (t' := s3.toks) fun b ob q => Heap.get?_push_of_some _ q
  obtain ⟨its, r, ht, hz⟩ := I4.tuple hx
  obtain ⟨w1, w2, rfl, rw1, rw2⟩ : ∃ w1 w2, its = [w1, w2] ∧ RelV u w1 ∧ RelV v' w2 := by
    cases r with
    | cons a1 r => cases r with
      | cons a2 r => cases r; exact ⟨_, _, rfl, a1, a2⟩
  have hg : wpAny (model X.prog X.w) X.A (getItem (.ref a) (.ref s3.heap.objs.size)) (EP X pins σ Q) X.xe { s3 with heap := s3.heap.push { cls := .type "slice", data := .fields #[.none, .none, .int (-1) tk] } } := by
    refine getItem_rev ht (Heap.IsSliceOf.new ..) ?_
    refine ⟨.ref _, _, I4.laid (t' := s3.toks) (o := .tup [v', u]) (fun b ob q => Heap.get?_push_of_some _ q) (Nat.le_refl _) ⟨Nat.le_of_ble_eq_true rfl, [w2, w1], .cons rw2 (.cons rw1 .nil), IsTup.new _ _⟩, rfl, q3 _ (I4.hok.fresh (Nat.le_refl _))⟩
  show wpAny (model X.prog X.w) X.A (subscriptTail e (.Slice none none (some st) p2) (.ref a) (.ref s3.heap.objs.size)) (EP X pins σ Q) X.xe { s3 with heap := s3.heap.push { cls := .type "slice", data := .fields #[.none, .none, .int (-1) tk] } }
  exact tail_any (ops := [.ref a, .ref s3.heap.objs.size]) ht.typeIs PyProof.Rows.slot_tuple_getitem.lookup hg (by with_unfolding_all rfl)
/-- t[::-1], t a pair -/
noncomputable def tRvD (te : TD) (ts : TOD) : TD := fun δ M Q => te δ M fun x M1 => ts δ M1 fun o M2 => o = some (-1) ∧ ∃ d e, x = .tup [d, e] ∧ Q (.tup [e, d]) M2
theorem de_rev {te ts : TD} (he : DE X e te) (hs : DE X st ts) : DE X (.Subscript e (.Slice none none (some st) p2) pos) (tRvD te (tPartD ts)) :=
  pe_imp (pe_rev he (do_some hs)) fun σ H Q ⟨δ, M, R, hs, a, q, fin⟩ => ⟨δ, M, _, hs, a, q, fun x M1 v H1 g1 r1 a1 q1 => ⟨δ, M1, _, hs.mono g1, a1, q1, fun o M2 H2 g2 a2 q2 => by
    obtain ⟨eo, d, e, ex, q2⟩ := q2
    subst eo ex
    have r2 := r1.mono g2
    rw [Rep] at r2
    obtain ⟨b, xs, rfl, hx, rs⟩ := r2
    obtain ⟨v1, v2, rfl, rv1, rv2⟩ := reps2 rs
    exact ⟨rfl, _, _, _, rfl, hx, fun z hz => fin _ _ _ _ ((g1.trans g2).trans (.new hz)) (by rw [Rep]; exact ⟨z, _, rfl, SqT.of upd_same, Reps.mono (.new hz) (by
      rw [Reps]; exact ⟨_, _, rfl, rv2, by rw [Reps]; exact ⟨_, _, rfl, rv1, by rw [Reps]⟩⟩)⟩) (a2.new hz) q2⟩⟩⟩
end
/-! ### sum of a list of ints -/
section
variable {X : Cx}
noncomputable def rSum : RC := fun ds M Q => match ds with
  | [.ref l] => ∃ ns : List Int, M l = some (.lst (ns.map D.int)) ∧ Q (.int ns.sum) M
  | _ => False
end
end SD

set_option Elab.async false
set_option linter.all false
set_option maxRecDepth 100000
/-! Spots as keys: tuples of two tuples of two ints. -/
namespace SD
open PySem PySem.Spec PyProof.Rows
noncomputable abbrev SpK := Int × Int × Int × Int
section
variable {P : Program} {w : World}
noncomputable def IsFr (P : Program) (w : World) (h : Heap) (n d : Int) (a : Addr) : Prop := IsTupleKey (intKind P w) h [n, d] a
noncomputable def IsSp (P : Program) (w : World) (h : Heap) (k : SpK) (a : Addr) : Prop := ∃ o b c m, h.get? a = some o ∧ o.cls = .type "tuple" ∧ o.data = .seq #[.ref b, .ref c] m ∧ IsFr P w h k.1 k.2.1 b ∧ IsFr P w h k.2.2.1 k.2.2.2 c
theorem IsSp.inj {h : Heap} {a : Addr} {x y : SpK} (p : IsSp P w h x a) (q : IsSp P w h y a) : x = y := by
  obtain ⟨o, b, c, m, h1, h2, h3, h4, h5⟩ := p
  obtain ⟨o', b', c', m', g1, g2, g3, g4, g5⟩ := q
  rw [h1] at g1; cases g1
  rw [h3] at g3
  injection g3 with e _
  have e1 : b = b' ∧ c = c' := by simpa using e
  obtain ⟨rfl, rfl⟩ := e1
  have i1 := IsTupleKey.inj h4 g4
  have i2 := IsTupleKey.inj h5 g5
  obtain ⟨x1, x2, x3, x4⟩ := x
  obtain ⟨y1, y2, y3, y4⟩ := y
  simp at i1 i2
  obtain ⟨rfl, rfl⟩ := i1
  obtain ⟨rfl, rfl⟩ := i2
  rfl
theorem IsSp.keeps {h h' : Heap} {k : SpK} {a d : Addr} {o : Obj} {es : Array DictEntry} {ep : Nat} (p : IsSp P w h k a) (hd : h.get? d = some o) (he : o.data = .dict es ep) (sb : Heap.SameBut d h h') : IsSp P w h' k a := by
  obtain ⟨oa, b, c, m, h1, h2, h3, h4, h5⟩ := p
  have ne : a ≠ d := fun z => by rw [z, hd] at h1; cases h1; rw [he] at h3; cases h3
  exact ⟨oa, b, c, m, (sb.2 a ne).trans h1, h2, h3, IsTupleKey.keeps h4 hd he sb, IsTupleKey.keeps h5 hd he sb⟩
noncomputable def spHash (P : Program) (w : World) (k : SpK) : Int := reduceHash (Builtin.Tuple.tupleHashOf [tupleKeyHash (intKind P w) [k.1, k.2.1], tupleKeyHash (intKind P w) [k.2.2.1, k.2.2.2]])
theorem IsSp.hash {A : Around} {E : Value → Shared → Prop} {s : Shared} {k : SpK} {a : Addr} {Q : Int → Shared → Prop} (hu : A.units + 4 < cLine) (p : IsSp P w s.heap k a) (q : Q (spHash P w k) { s with toks := s.toks + 7 }) : wpAny (model P w) A (pyHash (.ref a)) Q E s := by
  obtain ⟨o, b, c, m, h1, h2, h3, h4, h5⟩ := p
  obtain ⟨hp, g, d, tk, os⟩ := s
  show wpAny _ _ (pyHashByItsType (.ref a)) _ _ _
  refine PySem.W.pyHash_slot (T := "tuple") ⟨o, h1, h2⟩ F.slot_tuple_hash F.entry_tuple_hash (F.args_tuple_hash_1 _) rfl (.inr (by omega)) ?_
  unfold Builtin.«tuple.__hash__»
  simp only [← Array.forIn_toList]
  iterate 4 wp_step
  refine wpAny_pure ?_
  refine wpAny_bind (wpAny_tupleItemsOf h1 h3 ?_)
  refine wpAny_bind ?_
  simp only [List.forIn_cons, List.forIn_nil, pure_bind, bind_assoc]
  refine wpAny_bind (wpAny_pyHash_tuple (knd := intKind P w) (by show A.units + 1 < cLine; omega) h4 ?_)
  refine wpAny_bind (wpAny_pyHash_tuple (knd := intKind P w) (by show A.units + 1 < cLine; omega) h5 ?_)
  refine wpAny_pure ?_
  unfold retInt
  wp_walk
  exact ⟨_, _, rfl, q⟩
theorem isInt_of {n : Int} {v : Value} (h : (intKind P w).is n v = true) : ∃ t, v = .int n t := by
  have h : Value.isInt n v = true := h
  cases v with
  | int i t =>
    have : (i == n) = true := h
    exact ⟨t, by rw [eq_of_beq this]⟩
  | _ => cases h
noncomputable def frPd (n d : Int) : PyData := .tuple [.int n, .int d]
noncomputable def spPd (k : SpK) : PyData := .tuple [frPd k.1 k.2.1, frPd k.2.2.1 k.2.2.2]
theorem IsFr.reads {h : Heap} {n d : Int} {a : Addr} (p : IsFr P w h n d a) : ∃ as, Reads h (.ref a) (frPd n d) as := by
  obtain ⟨o, items, m, h1, h2, h3, h4⟩ := p
  generalize hl : items.toList = l at h4
  cases h4 with
  | cons hx r =>
    cases r with
    | cons hy r =>
      cases r
      obtain ⟨t1, rfl⟩ := isInt_of hx
      obtain ⟨t2, rfl⟩ := isInt_of hy
      exact ⟨_, .tuple h1 h2 h3 (by rw [hl]; exact .cons (.int _ _) (.cons (.int _ _) .nil))⟩
theorem IsSp.reads {h : Heap} {k : SpK} {a : Addr} (p : IsSp P w h k a) : ∃ as, Reads h (.ref a) (spPd k) as := by
  obtain ⟨o, b, c, m, h1, h2, h3, h4, h5⟩ := p
  obtain ⟨as, r1⟩ := h4.reads
  obtain ⟨bs, r2⟩ := h5.reads
  exact ⟨_, .tuple h1 h2 h3 (.cons r1 (.cons r2 .nil))⟩
theorem spPd_eqv (x y : SpK) : (spPd x).eqv (spPd y) = decide (x = y) := by
  obtain ⟨x1, x2, x3, x4⟩ := x
  obtain ⟨y1, y2, y3, y4⟩ := y
  simp only [spPd, frPd, PyData.eqv, PyData.eqvAll, Bool.and_true]
  rw [Bool.eq_iff_iff]
  simp [and_assoc]
theorem IsSp.eq {A : Around} {E : Value → Shared → Prop} {s : Shared} {x y : SpK} {a b : Addr} {Q : Bool → Shared → Prop} (hu : A.units + 4 < cLine) (p : IsSp P w s.heap x a) (p' : IsSp P w s.heap y b) (q : Q (decide (x = y)) s) : wpAny (model P w) A (eqBool (.ref a) (.ref b)) Q E s := by
  obtain ⟨as, r1⟩ := p.reads
  obtain ⟨bs, r2⟩ := p'.reads
  have hd : min (spPd x).depth (spPd y).depth ≤ 3 := Nat.le_trans (Nat.min_le_left _ _) (Nat.le_of_ble_eq_true rfl)
  have := SeqAt.eqAt_reads (spPd x) (spPd y) A s (.ref a) (.ref b) as bs r1 r2 rfl rfl (by omega)
  rw [spPd_eqv] at this
  exact this P w E Q q
theorem IsFr.quiet {A : Around} {E : Value → Shared → Prop} {s : Shared} {n d : Int} {a : Addr} {Q : Bool → Shared → Prop} (i : Nat) (p : IsFr P w s.heap n d a) (q : Q true s) : wpAny (model P w) A (eqIsQuiet (i + 1) (.ref a)) Q E s := by
  obtain ⟨o, items, m, h1, h2, h3, h4⟩ := p
  rw [eqIsQuiet.eq_2]
  refine wpAny_bind (wpAny_specialOf ⟨o, h1, h2⟩ F.slot_tuple_eq.lookup ?_)
  refine wpAny_bind (wpAny_isInstance ⟨o, h1, h2⟩ isSubtype_tuple_tuple ?_)
  simp only [Bool.not_true, Bool.false_eq_true, if_false]
  refine wpAny_bind (wpAny_seqItems h1 h3 ?_)
  simp only [Option.getD_some, ← Array.forIn_toList]
  generalize hl : items.toList = l at h4
  cases h4 with
  | cons hx r =>
    cases r with
    | cons hy r =>
      cases r
      obtain ⟨t1, rfl⟩ := isInt_of hx
      obtain ⟨t2, rfl⟩ := isInt_of hy
      refine wpAny_bind ?_
      simp only [List.forIn_cons, List.forIn_nil, pure_bind, bind_assoc, eqIsQuiet_byValue i (show carriedByValue (.int n t1) = true from rfl), eqIsQuiet_byValue i (show carriedByValue (.int d t2) = true from rfl), Bool.not_true, Bool.false_eq_true, if_false]
      refine wpAny_pure ?_
      exact wpAny_pure q
theorem IsSp.quiet {A : Around} {E : Value → Shared → Prop} {s : Shared} {k : SpK} {a : Addr} {Q : Bool → Shared → Prop} (p : IsSp P w s.heap k a) (q : Q true s) : wpAny (model P w) A (eqIsQuiet 8 (.ref a)) Q E s := by
  obtain ⟨o, b, c, m, h1, h2, h3, h4, h5⟩ := p
  rw [eqIsQuiet.eq_2]
  refine wpAny_bind (wpAny_specialOf ⟨o, h1, h2⟩ F.slot_tuple_eq.lookup ?_)
  refine wpAny_bind (wpAny_isInstance ⟨o, h1, h2⟩ isSubtype_tuple_tuple ?_)
  simp only [Bool.not_true, Bool.false_eq_true, if_false]
  refine wpAny_bind (wpAny_seqItems h1 h3 ?_)
  simp only [Option.getD_some, ← Array.forIn_toList]
  refine wpAny_bind ?_
  simp only [List.forIn_cons, List.forIn_nil, pure_bind, bind_assoc]
  refine wpAny_bind (h4.quiet 6 ?_)
  simp only [Bool.not_true, Bool.false_eq_true, if_false, pure_bind]
  refine wpAny_bind (h5.quiet 6 ?_)
  simp only [Bool.not_true, Bool.false_eq_true, if_false, pure_bind]
  refine wpAny_pure ?_
  exact wpAny_pure q
noncomputable def spotKind (P : Program) (w : World) : HeapKind P w SpK where
  is := IsSp P w
  hash := spHash P w
  draws := fun _ => 7
  room := fun A => A.units + 4 < cLine
  inj := fun p q => p.inj q
  keeps := fun p hd he sb => p.keeps hd he sb
  pyHash := fun hu p q => p.hash hu q
  eqBool := fun hu p p' q => p.eq hu p' q
  quiet := fun p q => p.quiet q
end
end SD

set_option Elab.async false
set_option linter.all false
set_option maxRecDepth 100000
/-! A dict with spots as keys, as a thing of the store of values. -/
namespace SD
open PySem PySem.Spec PyProof.Rows L2
section
variable {X : Cx} {pins : List (Addr × Obj)} {σ : L2.St} {H : Hp} {s : Shared} {a b : Addr} {k : SpK}
/-- the spot k lies at b -/
noncomputable def SpAt (K : PySem.W.Frag) (H : Hp) (b : Addr) (k : SpK) : Prop := ∃ f g, SqT K H b [.ref f, .ref g] ∧ SqT K H f [.int k.1, .int k.2.1] ∧ SqT K H g [.int k.2.2.1, .int k.2.2.2]
theorem fr_is {n d : Int} {f : Addr} (I : L2.Inv X pins σ H s) (h : SqT X.K H f [.int n, .int d]) : IsFr X.prog X.w s.heap n d f := by
  obtain ⟨its, r, ht, _⟩ := I.tuple h
  cases r with
  | cons a1 r => cases r with
    | cons a2 r =>
      cases r
      obtain ⟨t1, rfl⟩ := a1
      obtain ⟨t2, rfl⟩ := a2
      obtain ⟨o, h1, h2, m, h3⟩ := ht
      exact ⟨o, _, m, h1, h2, h3, .cons (by show ((n == n) = true); simp) (.cons (by show ((d == d) = true); simp) .nil)⟩
theorem sp_is (I : L2.Inv X pins σ H s) (h : SpAt X.K H b k) : IsSp X.prog X.w s.heap k b := by
  obtain ⟨f, g, h1, h2, h3⟩ := h
  obtain ⟨its, r, ht, _⟩ := I.tuple h1
  cases r with
  | cons a1 r => cases r with
    | cons a2 r =>
      cases r
      cases a1
      cases a2
      obtain ⟨o, q1, q2, m, q3⟩ := ht
      exact ⟨o, f, g, m, q1, q2, q3, fr_is I h2, fr_is I h3⟩
/-- spots, where they lie, what they hold -/
noncomputable abbrev SpE := SpK × Addr × V
noncomputable def dspF (P : Program) (w : World) (a : Addr) (xs : List SpE) : Heap → Prop := fun h => (a == sysModules) = false ∧ xs.length ≤ sizeLine ∧ (xs.map (·.1)).Nodup ∧ ∃ ys : List (SpK × Addr × Value),
  Paired (fun (p : SpE) (q : SpK × Addr × Value) => p.1 = q.1 ∧ p.2.1 = q.2.1 ∧ RelV p.2.2 q.2.2) xs ys ∧ ∃ o es ep, h.get? a = some o ∧ o.ExactDict ∧ o.data = .dict es ep ∧ es.toList = ys.map (entryOfKey (spotKind P w))
noncomputable def putS (xs : List SpE) (k : SpK) (b : Addr) (v : V) : List SpE := if (xs.any fun x => decide (x.1 = k)) = true then xs.map (fun x => if x.1 = k then (x.1, x.2.1, v) else x) else xs ++ [(k, b, v)]
noncomputable abbrev PrS := fun (p : SpE) (q : SpK × Addr × Value) => p.1 = q.1 ∧ p.2.1 = q.2.1 ∧ RelV p.2.2 q.2.2
theorem prs_keys {xs : List SpE} {ys : List (SpK × Addr × Value)} (r : Paired PrS xs ys) : ys.map (·.1) = xs.map (·.1) := by
  induction r with
  | nil => rfl
  | cons h t ih => rw [List.map_cons, List.map_cons, ih, h.1]
theorem prs_any {xs : List SpE} {ys : List (SpK × Addr × Value)} (r : Paired PrS xs ys) (k : SpK) : (xs.any fun x => decide (x.1 = k)) = (atKey ys k).isSome := by
  induction r with
  | nil => rfl
  | @cons p q ps qs h t ih =>
    rw [List.any_cons]
    by_cases e : p.1 = k
    · have e' : q.1 = k := h.1.symm.trans e
      simp [atKey, List.find?_cons, e, e']
    · have e' : ¬ q.1 = k := fun z => e (h.1.trans z)
      rw [decide_eq_false e, Bool.false_or, ih]
      simp [atKey, List.find?_cons, e']
theorem prs_put {xs : List SpE} {ys : List (SpK × Addr × Value)} (r : Paired PrS xs ys) (k : SpK) (b : Addr) {v : V} {u : Value} (rv : RelV v u) : Paired PrS (putS xs k b v) (storedH ys k b u) := by
  unfold putS storedH
  rw [prs_any r k]
  by_cases e : (atKey ys k).isSome = true
  · rw [if_pos e, if_pos e]
    clear e
    induction r with
    | nil => exact .nil
    | @cons p q ps qs h t ih =>
      rw [List.map_cons, List.map_cons]
      refine .cons ?_ ih
      unfold putAt
      by_cases e : p.1 = k
      · rw [if_pos e, if_pos (h.1.symm.trans e)]; exact ⟨h.1, h.2.1, rv⟩
      · rw [if_neg e, if_neg (fun z => e (h.1.trans z))]; exact h
  · rw [if_neg e, if_neg e]
    exact Paired.snoc r ⟨rfl, rfl, rv⟩
theorem prs_len {xs : List SpE} {ys : List (SpK × Addr × Value)} (r : Paired PrS xs ys) : xs.length = ys.length := by
  induction r with
  | nil => rfl
  | cons h t ih => rw [List.length_cons, List.length_cons, ih]
theorem prs_mem {xs : List SpE} {ys : List (SpK × Addr × Value)} (r : Paired PrS xs ys) {q : SpK × Addr × Value} (h : q ∈ ys) : ∃ p ∈ xs, p.1 = q.1 ∧ p.2.1 = q.2.1 := by
  induction r with
  | nil => cases h
  | cons h' t ih =>
    rcases List.mem_cons.mp h with z | z
    · subst z; exact ⟨_, by simp, h'.1, h'.2.1⟩
    · obtain ⟨p, hp, e⟩ := ih z
      exact ⟨p, by simp [hp], e⟩
theorem putS_len (xs : List SpE) (k : SpK) (b : Addr) (v : V) : (putS xs k b v).length ≤ xs.length + 1 := by
  unfold putS
  split
  · rw [List.length_map]; omega
  · simp
/-- what is known of the dict in the heap -/
theorem dsp_of {xs : List SpE} (I : L2.Inv X pins σ H s) (e : H a = some (.ext (dspF X.prog X.w a xs))) (hk : ∀ x ∈ xs, SpAt X.K H x.2.1 x.1) : (a == sysModules) = false ∧ xs.length ≤ sizeLine ∧ ∃ ys, Paired PrS xs ys ∧ s.heap.DictOfH (spotKind X.prog X.w) a ys := by
  obtain ⟨⟨h1, h2, h3, ys, r, o, es, ep, q1, q2, q3, q4⟩, _⟩ := I.hok a _ e
  refine ⟨h1, h2, ys, r, o, es, ep, q1, q2, q3, q4, fun x hx => ?_, by rw [prs_keys r]; exact h3⟩
  obtain ⟨p, hp, e1, e2⟩ := prs_mem r hx
  rw [← e1, ← e2]
  exact sp_is I (hk p hp)
theorem dsp_ext {P : Program} {w : World} {xs : List SpE} (h1 h2 : Heap) (h : dspF P w a xs h1) (k : ∀ o, h1.get? a = some o → h2.get? a = some o) : dspF P w a xs h2 := by
  obtain ⟨p1, p2, p3, ys, r, o, es, ep, q1, q⟩ := h
  exact ⟨p1, p2, p3, ys, r, o, es, ep, k o q1, q⟩
/-- {} -/
theorem dsp_new (I : L2.Inv X pins σ H s) : L2.Inv X pins σ (upd H s.heap.objs.size (.ext (dspF X.prog X.w s.heap.objs.size []))) { s with heap := s.heap.push { cls := .type "dict", data := .dict #[] } } :=
  I.laid (a := s.heap.objs.size) (t' := s.toks) (fun _ _ q => Heap.get?_push_of_some _ q) (Nat.le_refl _)
    ⟨⟨beq_eq_false_iff_ne.mpr (Ne.symm (Nat.ne_of_lt I.big)), Nat.zero_le _, List.nodup_nil, [], .nil, _, #[], 0, Heap.get?_push_size _ rfl, ⟨rfl, rfl, rfl⟩, rfl, rfl⟩, ⟨_, Heap.get?_push_size _ rfl⟩, fun h1 h2 x y => dsp_ext h1 h2 x y⟩
/-- what lies at a spot -/
noncomputable def valS (xs : List SpE) (k : SpK) : Option V := (xs.find? fun x => decide (x.1 = k)).map (·.2.2)
theorem prs_val {xs : List SpE} {ys : List (SpK × Addr × Value)} (r : Paired PrS xs ys) {v : V} (h : valS xs k = some v) : ∃ p : Addr × Value, atKey ys k = some p ∧ RelV v p.2 := by
  induction r with
  | nil => cases h
  | @cons p q ps qs h' t ih =>
    by_cases e : p.1 = k
    · have e' : q.1 = k := h'.1.symm.trans e
      simp [valS, List.find?_cons, e] at h
      subst h
      exact ⟨q.2, by simp [atKey, List.find?_cons, e'], h'.2.2⟩
    · have e' : ¬ q.1 = k := fun z => e (h'.1.trans z)
      have h2 : valS ps k = some v := by simpa [valS, List.find?_cons, e] using h
      obtain ⟨p', h3, h4⟩ := ih h2
      exact ⟨p', by simpa [atKey, List.find?_cons, e'] using h3, h4⟩
/-- d[spot] -/
theorem dsp_get {A : Around} {E : Value → Shared → Prop} {Q : Value → Shared → Prop} {xs : List SpE} {v : V} (hu : A.units + 8 < cLine) (I : L2.Inv X pins σ H s) (e : H a = some (.ext (dspF X.prog X.w a xs))) (hk : ∀ x ∈ xs, SpAt X.K H x.2.1 x.1) (hb : SpAt X.K H b k) (hv : valS xs k = some v)
    (h : ∀ u s', L2.Inv X pins σ H s' → RelV v u → Q u s') : wpAny (model X.prog X.w) A (getItem (.ref a) (.ref b)) Q E s := by
  obtain ⟨hd, hz, ys, r, dd⟩ := dsp_of I e hk
  obtain ⟨p, h1, h2⟩ := prs_val r hv
  exact wpAny_getItem_heap (knd := spotKind X.prog X.w) (show A.in1.units + 4 < cLine by show A.units + 1 + 4 < cLine; omega) (sp_is I hb) dd h1 (h _ _ (I.tok _) h2)
end
end SD

set_option Elab.async false
set_option linter.all false
set_option maxRecDepth 100000
/-! setdefault of a dict with spots as keys. -/
namespace SD
open PySem PySem.Spec PyProof.Rows L2
section
variable {prog : Program} {w : World} {K : Type} [DecidableEq K] {knd : HeapKind prog w K} {A : Around} {E : Value → Shared → Prop} {s : Shared}
theorem setdef_heap {d a : Addr} {xs : List (K × Addr × Value)} {k : K} {v : Value} {Q : Value → Shared → Prop} (hu : knd.room A) (hkey : knd.is s.heap k a) (hm : s.heap.DictOfH knd d xs)
    (h1 : ∀ p, atKey xs k = some p → Q p.2 { s with toks := s.toks + knd.draws k })
    (h2 : atKey xs k = none → ∀ h', h'.DictOfH knd d (storedH xs k a v) → Heap.SameBut d s.heap h' → Q v { s with heap := h', toks := s.toks + knd.draws k }) (hsz : xs.length ≤ sizeLine) :
    wpAny (model prog w) A (dictSetDefault d (.ref a) v) Q E s := by
  obtain ⟨o, es, ep, ho, hc, hd, he, his, hn⟩ := hm
  unfold dictSetDefault
  try with_reducible refine wpAny_holding ?_
  refine wpAny_bind (knd.pyHash hu hkey ?_)
  refine wpAny_bind (wpAny_dictFind_heap (s := { s with toks := s.toks + knd.draws k }) hu hkey ho hd he his hn ?_ ?_)
  · intro hno
    have hnot : k ∉ xs.map (·.1) := not_mem_keys_of_get hno
    have ha := atKey_none_of_get hno
    refine wpAny_bind (wpAny_rule (wpAny_bind (wpAny_updateDictKeys (hz := by have e := size_of_entries he; omega) (s := { s with toks := s.toks + knd.draws k }) ho hd (wpAny_pure (h2 ha _ ⟨_, _, ep + 1, Heap.get?_update_self _ ho (Obj.isFreed_of_dict (Obj.data_mapDictKeys hd _)),
      hc.mapDictKeys _, Obj.data_mapDictKeys hd _, ?_, ?_, ?_⟩ (Heap.SameBut.update ..))))))
    · rw [storedH_new ha]
      simp [he, entryOfKey]
    · rw [storedH_new ha]
      intro x hx
      rcases List.mem_append.mp hx with hx | hx
      · exact knd.keeps (his x hx) ho hd (Heap.SameBut.update ..)
      · have : x = (k, a, v) := by simpa using hx
        subst this
        exact knd.keeps hkey ho hd (Heap.SameBut.update ..)
    · rw [storedH_new ha, List.map_append, List.nodup_append]
      refine ⟨hn, by simp, ?_⟩
      intro x hx y hy
      have : y = k := by simpa using hy
      subst this
      exact fun e => hnot (e ▸ hx)
  · intro j p hj
    have ha := atKey_of_get hn hj
    refine wpAny_bind (wpAny_dictEntries (s := { s with toks := s.toks + knd.draws k }) ho hd ?_)
    rw [entry_at he j, hj]
    exact wpAny_bind (wpAny_rule (wpAny_pure (h1 p ha)))
theorem call_setdef {d a : Addr} {xs : List (K × Addr × Value)} {k : K} {v : Value} {Q : Value → Shared → Prop} (hu : knd.room A.in1) (hkey : knd.is s.heap k a) (hm : s.heap.DictOfH knd d xs) (hd : (d == sysModules) = false)
    (h1 : ∀ p, atKey xs k = some p → Q p.2 { s with toks := s.toks + knd.draws k })
    (h2 : atKey xs k = none → ∀ h', h'.DictOfH knd d (storedH xs k a v) → Heap.SameBut d s.heap h' → Q v { s with heap := h', toks := s.toks + knd.draws k }) (hsz : xs.length ≤ sizeLine) :
    wpAny (model prog w) A (call (.builtin "dict.setdefault") [.ref d, .ref a, v]) Q E s := by
  refine wpAny_call_entry PySem.F.slot_dict_setdefault hm.typeIs PySem.F.entry_dict_setdefault ?_ (PySem.F.args_dict_setdefault_3 _ _ _)
  unfold Builtin.«dict.setdefault»
  refine wpAny_bind ?_
  unfold Builtin.Dict.keyAndDefault
  refine wpAny_bind (wpAny_notOrdered_dict hm.typeIs ?_)
  show wpAny _ _ (pure (d, Value.ref a, some v)) _ _ s
  refine wpAny_pure ?_
  show wpAny _ _ (if (d == sysModules) = true then _ else (dictSetDefault d (.ref a) v >>= _)) _ _ s
  rw [if_neg (by rw [hd]; exact Bool.false_ne_true)]
  exact wpAny_bind (setdef_heap hu hkey hm (fun p hp => wpAny_pure ⟨p.2, rfl, h1 p hp⟩) (fun hn h' hm' hs' => wpAny_pure ⟨v, rfl, h2 hn h' hm' hs'⟩) hsz)
end
section
variable {X : Cx} {pins : List (Addr × Obj)} {σ : L2.St} {H : Hp} {s : Shared} {a b : Addr} {k : SpK}
theorem prs_none {xs : List SpE} {ys : List (SpK × Addr × Value)} (r : Paired PrS xs ys) (h : valS xs k = none) : atKey ys k = none := by
  induction r with
  | nil => rfl
  | @cons p q ps qs h' t ih =>
    by_cases e : p.1 = k
    · simp [valS, List.find?_cons, e] at h
    · have e' : ¬ q.1 = k := fun z => e (h'.1.trans z)
      have h2 : valS ps k = none := by simpa [valS, List.find?_cons, e] using h
      have := ih h2
      simpa [atKey, List.find?_cons, e'] using this
/-- d.setdefault(spot, v) -/
theorem dsp_setdef {A : Around} {E : Value → Shared → Prop} {Q : Value → Shared → Prop} {xs : List SpE} {v : V} {u : Value} (hu : A.units + 8 < cLine) (I : L2.Inv X pins σ H s) (e : H a = some (.ext (dspF X.prog X.w a xs))) (hk : ∀ x ∈ xs, SpAt X.K H x.2.1 x.1) (hb : SpAt X.K H b k) (rv : RelV v u) (hl : xs.length < sizeLine)
    (h1 : ∀ v' u' s', valS xs k = some v' → L2.Inv X pins σ H s' → RelV v' u' → Q u' s')
    (h2 : valS xs k = none → ∀ s', L2.Inv X pins σ (upd H a (.ext (dspF X.prog X.w a (putS xs k b v)))) s' → Q u s') : wpAny (model X.prog X.w) A (call (.builtin "dict.setdefault") [.ref a, .ref b, u]) Q E s := by
  obtain ⟨hd, hz, ys, r, dd⟩ := dsp_of I e hk
  refine call_setdef (knd := spotKind X.prog X.w) (show A.in1.units + 4 < cLine by show A.units + 1 + 4 < cLine; omega) (sp_is I hb) dd hd (fun p hp => ?_) (fun hn h' dd' hs => ?_) (by rw [← prs_len r]; exact hz)
  · cases ev : valS xs k with
    | none => rw [prs_none r ev] at hp; cases hp
    | some v' =>
      obtain ⟨p', h3, h4⟩ := prs_val r ev
      rw [hp] at h3
      cases h3
      exact h1 v' _ _ ev (I.tok _) h4
  · have ev : valS xs k = none := by
      cases ev : valS xs k with
      | none => rfl
      | some v' =>
        obtain ⟨p', h3, _⟩ := prs_val r ev
        rw [hn] at h3; cases h3
    refine h2 ev _ ?_
    obtain ⟨q, es, ep, hq, q2, q3, q4, _, q5⟩ := dd'
    refine d_write I (by rw [e]; exact True.intro) hs ⟨q, hq⟩ ⟨⟨hd, ?_, ?_, _, prs_put r k b rv, q, es, ep, hq, q2, q3, q4⟩, ⟨q, hq⟩, fun h1 h2 x y => dsp_ext h1 h2 x y⟩
    · have := putS_len xs k b v; omega
    · rw [← prs_keys (prs_put r k b rv)]; exact q5
end
end SD

set_option Elab.async false
set_option linter.all false
set_option maxRecDepth 100000
/-! Dicts with spots as keys in expressions. -/
namespace SD
open PySem PySem.Spec PyProof.Rows L2
section
variable {X : Cx}
/-- {} -/
noncomputable def tDsNew (X : Cx) : TE := fun _ H Q => ∀ p, H p = none → Q (.ref p) (upd H p (.ext (dspF X.prog X.w p [])))
theorem pe_dsnew {pos : Pos} : PE X (.Dict [] [] pos) (tDsNew X) := fun pins s σ H Q I h =>
  wpAny_Dict_empty ⟨.ref s.heap.objs.size, _, dsp_new I, rfl, h _ (I.hok.fresh (Nat.le_refl _))⟩
/-- what is asked of the dict at a and the spot at b -/
structure DsAt (X : Cx) (H : Hp) (a b : Addr) (xs : List SpE) (k : SpK) : Prop where
  d : H a = some (.ext (dspF X.prog X.w a xs))
  ks : ∀ x ∈ xs, SpAt X.K H x.2.1 x.1
  key : SpAt X.K H b k
/-- d[spot] -/
noncomputable def tDsGet (X : Cx) (td ty : TE) : TE := fun σ H Q => td σ H fun x H1 => ty σ H1 fun y H2 => ∃ a b xs k v, x = .ref a ∧ y = .ref b ∧ DsAt X H2 a b xs k ∧ valS xs k = some v ∧ Q v H2
theorem dsp_ty {pins : List (Addr × Obj)} {σ : L2.St} {H : Hp} {s : Shared} {a : Addr} {xs : List SpE} (I : L2.Inv X pins σ H s) (e : H a = some (.ext (dspF X.prog X.w a xs))) : s.TypeIs (.ref a) "dict" ∧ ∀ b, Value.ref a = .ref b → ∃ o, s.heap.get? b = some o ∧ o.dict = none := by
  obtain ⟨⟨_, _, _, _, _, o, _, _, q1, q2, _⟩, _⟩ := I.hok a _ e
  exact ⟨⟨o, q1, q2.1⟩, fun b z => by cases z; exact ⟨o, q1, q2.2.1⟩⟩
theorem pe_dsget {o i : Expr} {td ty : TE} {pos : Pos} (hu : X.A.units + 8 < cLine) (ho : PE X o td) (hi : PE X i ty) (hs : NoSl i) : PE X (.Subscript o i pos) (tDsGet X td ty) := by
  intro pins s σ H Q I h
  refine Subscript_ (thn (ho pins s σ H _ I h) fun v s1 ⟨x, H1, I1, r1, q1⟩ => thn (hi pins s1 σ H1 _ I1 q1) fun u s2 ⟨y, H2, I2, r2, a, b, xs, k, w', ex, ey, D, hv, q⟩ => ?_)
  subst ex ey
  cases r1
  cases r2
  exact tail_any (dsp_ty I2 D.d).1 PySem.F.slot_dict_getitem.lookup (dsp_get hu I2 D.d D.ks D.key hv fun u' s' I' r' => ⟨w', H2, I', r', q⟩) (hs _ _)
/-- d[spot] = v -/
noncomputable def sDsPut (X : Cx) (td ty tv : TE) : TS := fun D σ H => tv σ H fun v H1 => td σ H1 fun x H2 => ty σ H2 fun y H3 => ∃ a b xs k, x = .ref a ∧ y = .ref b ∧ DsAt X H3 a b xs k ∧ xs.length < sizeLine ∧ D.nx σ (upd H3 a (.ext (dspF X.prog X.w a (putS xs k b v))))
/-- d.setdefault(spot, v) -/
noncomputable def tDsSd (X : Cx) (to : TE) (t : TA) : TE := fun σ H Q => to σ H fun x H1 => ∃ a xs0, x = .ref a ∧ H1 a = some (.ext (dspF X.prog X.w a xs0)) ∧ t σ H1 fun vs H2 => ∃ b v xs k, vs = [.ref b, v] ∧ DsAt X H2 a b xs k ∧ xs.length < sizeLine ∧
  (∀ v', valS xs k = some v' → Q v' H2) ∧ (valS xs k = none → Q v (upd H2 a (.ext (dspF X.prog X.w a (putS xs k b v)))))
theorem pe_dssd {o e1 e2 : Expr} {to : TE} {t : TA} {apos cpos : Pos} (hu : X.A.units + 8 < cLine) (ho : PE X o to) (ha : PA X [e1, e2] t)
    (hbase : attributeBase o "setdefault" X.env (eval o X.env) = eval o X.env := by rfl)
    (hfew : ((backTo cpos (starEach [e1, e2] X.env)).all (fun x => !x.1) && (backToKw cpos (keywordEach [] X.env)).all (fun x => x.1.isSome)
      && decide ([e1, e2].length + ([] : List Keyword).length + (if ([] : List Keyword).isEmpty then 0 else 1) < 30)) = true := by rfl)
    (hline : (apos.endLine == cpos.line) = true := by rfl) (hs : starEach [e1, e2] X.env = (false, eval e1 X.env) :: starEach [e2] X.env := by rfl) (hplain : (backTo cpos (starEach [e2] X.env)).any (·.1) = false := by rfl) :
    PE X (.Call (.Attribute o "setdefault" apos) [e1, e2] [] cpos) (tDsSd X to t) := by
  intro pins s σ H Q I h
  refine wpAny_Call_method_late hbase hfew hline rfl (thn (ho pins s σ H _ I h) fun v s1 ⟨x, H1, I1, r1, a, xs0, ex, e0, q1⟩ => ?_)
  subst ex
  cases r1
  obtain ⟨h1, h2⟩ := dsp_ty I1 e0
  refine ⟨"dict", "dict.setdefault", PySem.F.plainAttrs_dict, PySem.F.slot_dict_setdefault, PySem.F.type_dict_setdefault, h1, h2, ?_⟩
  have hA := ha cpos pins s1 σ H1 _ I1 q1
  rw [hs] at hA ⊢
  refine Calls.callWith_builtin (by show (false || (backTo cpos (starEach [e2] X.env)).any (·.1)) = false; rw [hplain] <;> rfl) (Calls.evalArgs_plain ?_)
  refine thn hA fun us s2 ⟨vs, H2, I2, r2, b, w', xs, k, ev, D, hl, k1, k2⟩ => ?_
  subst ev
  obtain ⟨u1, u2, rfl, ru1, ru2⟩ := r2.two
  cases ru1
  exact dsp_setdef hu I2 D.d D.ks D.key ru2 hl (fun v' u' s' ev I' r' => ⟨v', H2, I', r', k1 v' ev⟩) (fun hn s' I' => ⟨w', _, I', ru2, k2 hn⟩)
end
end SD

set_option Elab.async false
set_option linter.all false
set_option maxRecDepth 100000
/-! Dicts with spots as keys, as data. -/
namespace SD
open PySem PySem.Spec PyProof.Rows L2
noncomputable def spD (k : SpK) : D := .tup [.tup [.int k.1, .int k.2.1], .tup [.int k.2.2.1, .int k.2.2.2]]
section
variable {K : PySem.W.Frag} {H H' : Hp} {M : MH} {a b : Addr} {k : SpK}
theorem sp_of {v : V} (r : Rep K H (spD k) v) : ∃ b, v = .ref b ∧ SpAt K H b k := by
  unfold spD at r
  rw [Rep] at r
  obtain ⟨b, xs, rfl, hx, rs⟩ := r
  obtain ⟨v1, v2, rfl, r1, r2⟩ := reps2 rs
  rw [Rep] at r1 r2
  obtain ⟨f, fs, rfl, hf, rf⟩ := r1
  obtain ⟨g, gs, rfl, hg, rg⟩ := r2
  obtain ⟨w1, w2, rfl, q1, q2⟩ := reps2 rf
  obtain ⟨w3, w4, rfl, q3, q4⟩ := reps2 rg
  rw [Rep] at q1 q2 q3 q4
  subst q1 q2 q3 q4
  exact ⟨b, rfl, f, g, hx, hf, hg⟩
theorem sp_rep (h : SpAt K H b k) : Rep K H (spD k) (.ref b) := by
  obtain ⟨f, g, hx, hf, hg⟩ := h
  unfold spD
  rw [Rep]
  refine ⟨b, _, rfl, hx, ?_⟩
  have i2 : ∀ (m n : Int), Reps K H [D.int m, D.int n] [V.int m, V.int n] := fun m n => reps_ints [m, n]
  rw [Reps]
  refine ⟨_, _, rfl, ?_, ?_⟩
  · rw [Rep]; exact ⟨f, _, rfl, hf, i2 _ _⟩
  · rw [Reps]
    refine ⟨_, _, rfl, ?_, ?_⟩
    · rw [Rep]; exact ⟨g, _, rfl, hg, i2 _ _⟩
    · rw [Reps]
theorem SpAt.mono (g : Grow K H H') (h : SpAt K H b k) : SpAt K H' b k := by
  obtain ⟨b', e, r⟩ := sp_of ((sp_rep h).mono g)
  cases e
  exact r
noncomputable abbrev SpT := List (SpK × D)
noncomputable def dsA (kvs : SpT) : PySem.W.Frag → Hp → Addr → Prop := fun K H a => ∃ xs : List SpE, (∀ P w, H a = some (.ext (dspF P w a xs))) ∧ xs.map (·.1) = kvs.map (·.1) ∧ (∀ x ∈ xs, SpAt K H x.2.1 x.1) ∧ Reps K H (kvs.map (·.2)) (xs.map (·.2.2))
theorem dsA_mono {kvs : SpT} (h : dsA kvs K H a) (g : Grow K H H') (e : H' a = H a) : dsA kvs K H' a := by
  obtain ⟨xs, h1, h2, h3, h4⟩ := h
  exact ⟨xs, fun P w => e.trans (h1 P w), h2, fun x hx => (h3 x hx).mono g, h4.mono g⟩
noncomputable def dsM (kvs : SpT) : MO := .gen (dsA kvs)
theorem Abs.dsp {kvs : SpT} (h : Abs K H M) (e : M a = some (dsM kvs)) : dsA kvs K H a := (h a _ e).1
theorem dsA.absO {kvs : SpT} (h : dsA kvs K H a) (ne : H a ≠ none) : AbsO K H a (dsM kvs) := ⟨h, ne, fun H' g e => dsA_mono h g e⟩
theorem Abs.newDs {p : Addr} (P : Program) (w : World) (h : Abs K H M) (hp : H p = none) : Abs K (upd H p (.ext (dspF P w p []))) (updM M p (dsM [])) := fun a u e => by
  by_cases ne : a = p
  · subst ne
    rw [updM_same] at e; cases e
    exact dsA.absO ⟨[], (fun P w => upd_same), rfl, (fun x hx => by simp at hx), (by simp [Reps])⟩ (by rw [upd_same]; simp)
  · rw [updM_ne ne] at e
    exact (h a u e).stay (.new hp) (upd_ne ne)
noncomputable def valD (kvs : SpT) (k : SpK) : Option D := (kvs.find? fun x => decide (x.1 = k)).map (·.2)
noncomputable def putD (kvs : SpT) (k : SpK) (d : D) : SpT := if (kvs.any fun x => decide (x.1 = k)) = true then kvs.map (fun x => if x.1 = k then (x.1, d) else x) else kvs ++ [(k, d)]
theorem ds_val (k : SpK) : ∀ {kvs : SpT} {xs : List SpE}, xs.map (·.1) = kvs.map (·.1) → Reps K H (kvs.map (·.2)) (xs.map (·.2.2)) → (∀ d, valD kvs k = some d → ∃ v, valS xs k = some v ∧ Rep K H d v) ∧ (valD kvs k = none → valS xs k = none) ∧ ((xs.any fun x => decide (x.1 = k)) = kvs.any fun x => decide (x.1 = k))
  | [], [], _, _ => ⟨(fun d h => by simp [valD] at h), (fun _ => rfl), rfl⟩
  | [], x :: xs, h, _ => by cases h
  | y :: kvs, [], h, _ => by cases h
  | y :: kvs, x :: xs, h, r => by
    rw [List.map_cons, List.map_cons] at h
    injection h with h1 h2
    rw [List.map_cons, List.map_cons, Reps] at r
    obtain ⟨v, vs, e, r1, r2⟩ := r
    injection e with e1 e2
    subst e1 e2
    obtain ⟨i1, i2, i3⟩ := ds_val k h2 r2
    by_cases e : y.1 = k
    · have e' : x.1 = k := h1.trans e
      refine ⟨fun d hd => ?_, fun hn => ?_, ?_⟩
      · simp [valD, List.find?_cons, e] at hd
        subst hd
        exact ⟨x.2.2, by simp [valS, List.find?_cons, e'], r1⟩
      · simp [valD, List.find?_cons, e] at hn
      · simp [e, e']
    · have e' : ¬ x.1 = k := fun z => e (h1.symm.trans z)
      refine ⟨fun d hd => ?_, fun hn => ?_, ?_⟩
      · obtain ⟨v, q1, q2⟩ := i1 d (by simpa [valD, List.find?_cons, e] using hd)
        exact ⟨v, by simpa [valS, List.find?_cons, e'] using q1, q2⟩
      · have := i2 (by simpa [valD, List.find?_cons, e] using hn)
        simpa [valS, List.find?_cons, e'] using this
      · rw [List.any_cons, List.any_cons, i3, decide_eq_false e, decide_eq_false e']
theorem ds_repl (k : SpK) {d : D} {v : V} (r : Rep K H d v) : ∀ {kvs : SpT} {xs : List SpE}, xs.map (·.1) = kvs.map (·.1) → Reps K H (kvs.map (·.2)) (xs.map (·.2.2)) →
    (xs.map fun x => if x.1 = k then (x.1, x.2.1, v) else x).map (·.1) = (kvs.map fun x => if x.1 = k then (x.1, d) else x).map (·.1) ∧ Reps K H ((kvs.map fun x => if x.1 = k then (x.1, d) else x).map (·.2)) ((xs.map fun x => if x.1 = k then (x.1, x.2.1, v) else x).map (·.2.2))
  | [], [], _, h => ⟨rfl, h⟩
  | [], x :: xs, h, _ => by cases h
  | y :: kvs, [], h, _ => by cases h
  | y :: kvs, x :: xs, h, q => by
    rw [List.map_cons, List.map_cons] at h
    injection h with h1 h2
    rw [List.map_cons, List.map_cons, Reps] at q
    obtain ⟨v', vs, e, r1, r2⟩ := q
    injection e with e1 e2
    subst e1 e2
    obtain ⟨i1, i2⟩ := ds_repl k r h2 r2
    by_cases e : y.1 = k
    · have e' : x.1 = k := h1.trans e
      simp only [List.map_cons, if_pos e, if_pos e']
      exact ⟨by rw [i1]; exact congrArg (· :: _) h1, by rw [Reps]; exact ⟨_, _, rfl, r, i2⟩⟩
    · have e' : ¬ x.1 = k := fun z => e (h1.symm.trans z)
      simp only [List.map_cons, if_neg e, if_neg e']
      exact ⟨by rw [i1]; exact congrArg (· :: _) h1, by rw [Reps]; exact ⟨_, _, rfl, r1, i2⟩⟩
theorem ds_put {kvs : SpT} {xs : List SpE} {d : D} {v : V} (h1 : xs.map (·.1) = kvs.map (·.1)) (h2 : Reps K H (kvs.map (·.2)) (xs.map (·.2.2))) (h3 : ∀ x ∈ xs, SpAt K H x.2.1 x.1) (hb : SpAt K H b k) (r : Rep K H d v) :
    (putS xs k b v).map (·.1) = (putD kvs k d).map (·.1) ∧ Reps K H ((putD kvs k d).map (·.2)) ((putS xs k b v).map (·.2.2)) ∧ ∀ x ∈ putS xs k b v, SpAt K H x.2.1 x.1 := by
  unfold putS putD
  rw [(ds_val k h1 h2).2.2]
  by_cases e : (kvs.any fun x => decide (x.1 = k)) = true
  · rw [if_pos e, if_pos e]
    obtain ⟨i1, i2⟩ := ds_repl k r h1 h2
    refine ⟨i1, i2, fun x hx => ?_⟩
    obtain ⟨y, hy, rfl⟩ := List.mem_map.mp hx
    have := h3 y hy
    by_cases e : y.1 = k
    · rw [if_pos e]; exact this
    · rw [if_neg e]; exact this
  · rw [if_neg e, if_neg e]
    refine ⟨by rw [List.map_append, List.map_append, h1]; rfl, ?_, fun x hx => ?_⟩
    · rw [List.map_append, List.map_append]
      exact h2.append (by rw [List.map_cons, List.map_cons, List.map_nil, List.map_nil, Reps]; exact ⟨_, _, rfl, r, by rw [Reps]⟩)
    · rcases List.mem_append.mp hx with z | z
      · exact h3 x z
      · have : x = (k, b, v) := by simpa using z
        subst this; exact hb
theorem Grow.ext {φ : Heap → Prop} {o : HO} (h : H a = some (.ext φ)) : Grow K H (upd H a o) := .put (fun xs e => by rw [h] at e; cases e) (fun u xs e => by rw [h] at e; cases e)
theorem Abs.putDs {kvs : SpT} {xs : List SpE} {d : D} {v : V} (P : Program) (w : World) (h : Abs K H M) (hx : ∀ P w, H a = some (.ext (dspF P w a xs))) (h1 : xs.map (·.1) = kvs.map (·.1)) (h2 : Reps K H (kvs.map (·.2)) (xs.map (·.2.2))) (h3 : ∀ x ∈ xs, SpAt K H x.2.1 x.1) (hb : SpAt K H b k) (r : Rep K H d v) :
    Abs K (upd H a (.ext (dspF P w a (putS xs k b v)))) (updM M a (dsM (putD kvs k d))) := fun c u e => by
  have g : Grow K H (upd H a (.ext (dspF P w a (putS xs k b v)))) := .ext (hx P w)
  by_cases ne : c = a
  · subst ne
    rw [updM_same] at e; cases e
    obtain ⟨q1, q2, q3⟩ := ds_put h1 h2 h3 hb r
    exact dsA.absO ⟨_, fun P w => upd_same, q1, fun x hx => (q3 x hx).mono g, q2.mono g⟩ (by rw [upd_same]; simp)
  · rw [updM_ne ne] at e
    exact (h c u e).stay g (upd_ne ne)
end
section
variable {X : Cx}
/-- {}, a dict of spots -/
noncomputable def tDsNewD : TD := fun _ M Q => ∀ p, M p = none → Q (.ref p) (updM M p (dsM []))
theorem de_dsnew {pos : Pos} : DE X (.Dict [] [] pos) tDsNewD := pe_imp pe_dsnew fun σ H Q ⟨δ, M, R, hs, hM, q, fin⟩ => fun p hp => fin _ _ _ _ (.new hp) (by rw [Rep]) (hM.newDs _ _ hp) (q p (hM.fresh hp))
/-- d[spot] -/
noncomputable def tDsGetD (td ty : TD) : TD := fun δ M Q => td δ M fun x M1 => ty δ M1 fun y M2 => ∃ l kvs k d, x = .ref l ∧ y = spD k ∧ M2 l = some (dsM kvs) ∧ valD kvs k = some d ∧ Q d M2
theorem de_dsget {o i : Expr} {td ty : TD} {pos : Pos} (hu : X.A.units + 66 < cLine) (ho : DE X o td) (hi : DE X i ty) (hs : NoSl i) : DE X (.Subscript o i pos) (tDsGetD td ty) :=
  pe_imp (pe_dsget (by omega) ho hi hs) fun σ H Q ⟨δ, M, R, hs, hM, q, fin⟩ => ⟨δ, M, _, hs, hM, q, fun x M1 v H1 g1 r1 a1 q1 => ⟨δ, M1, _, hs.mono g1, a1, q1, fun y M2 u H2 g2 r2 a2 ⟨l, kvs, k, d, ex, ey, hl, hv, q2⟩ => by
    subst ex ey
    rw [Rep] at r1; subst r1
    obtain ⟨b, rfl, sp⟩ := sp_of r2
    obtain ⟨xs, h1, h2, h3, h4⟩ := a2.dsp hl
    obtain ⟨v', q3, q4⟩ := (ds_val k h2 h4).1 d hv
    exact ⟨l, b, xs, k, v', rfl, rfl, ⟨h1 _ _, h3, sp⟩, q3, fin _ _ _ _ (g1.trans g2) q4 a2 q2⟩⟩⟩
/-- d[spot] = v -/
noncomputable def tDsPutD (td ty tv : TD) : TSD := fun B δ M => tv δ M fun d M1 => td δ M1 fun x M2 => ty δ M2 fun y M3 => ∃ l kvs k, x = .ref l ∧ y = spD k ∧ M3 l = some (dsM kvs) ∧ kvs.length < 1000000 ∧ B.nx δ (updM M3 l (dsM (putD kvs k d)))
/-- d.setdefault(spot, v) -/
noncomputable def tDsSdD (to : TD) (t : TAD) : TD := fun δ M Q => to δ M fun x M1 => ∃ l kvs0, x = .ref l ∧ M1 l = some (dsM kvs0) ∧ t δ M1 fun ds M2 => ∃ kvs k d, ds = [spD k, d] ∧ M2 l = some (dsM kvs) ∧ kvs.length < 1000000 ∧ (∀ d', valD kvs k = some d' → Q d' M2) ∧ (valD kvs k = none → Q d (updM M2 l (dsM (putD kvs k d))))
theorem de_dssd {o e1 e2 : Expr} {to : TD} {t : TAD} {apos cpos : Pos} (hu : X.A.units + 66 < cLine) (ho : DE X o to) (ha : DA X [e1, e2] t)
    (hbase : attributeBase o "setdefault" X.env (eval o X.env) = eval o X.env := by rfl)
    (hfew : ((backTo cpos (starEach [e1, e2] X.env)).all (fun x => !x.1) && (backToKw cpos (keywordEach [] X.env)).all (fun x => x.1.isSome)
      && decide ([e1, e2].length + ([] : List Keyword).length + (if ([] : List Keyword).isEmpty then 0 else 1) < 30)) = true := by rfl)
    (hline : (apos.endLine == cpos.line) = true := by rfl) (hs : starEach [e1, e2] X.env = (false, eval e1 X.env) :: starEach [e2] X.env := by rfl) (hplain : (backTo cpos (starEach [e2] X.env)).any (·.1) = false := by rfl) :
    DE X (.Call (.Attribute o "setdefault" apos) [e1, e2] [] cpos) (tDsSdD to t) :=
  pe_imp (pe_dssd (by omega) ho ha hbase hfew hline hs hplain) fun σ H Q ⟨δ, M, R, hs, hM, q, fin⟩ => ⟨δ, M, _, hs, hM, q, fun x M1 v H1 g1 r1 a1 ⟨l, kvs0, ex, hl0, q1⟩ => by
    subst ex
    rw [Rep] at r1; subst r1
    obtain ⟨xs0, h0, _⟩ := a1.dsp hl0
    refine ⟨l, xs0, rfl, h0 _ _, δ, M1, _, hs.mono g1, a1, q1, fun ds M2 vs H2 g2 r2 a2 ⟨kvs, k, d, ed, hl, hn, k1, k2⟩ => ?_⟩
    subst ed
    obtain ⟨v1, v2, rfl, rv1, rv2⟩ := reps2 r2
    obtain ⟨b, rfl, sp⟩ := sp_of rv1
    obtain ⟨xs, h1, h2, h3, h4⟩ := a2.dsp hl
    have hlen : xs.length = kvs.length := by have := congrArg List.length h2; simpa using this
    have sz : 1000000 ≤ sizeLine := Nat.le_of_ble_eq_true rfl
    have dv := ds_val k h2 h4
    refine ⟨b, v2, xs, k, rfl, ⟨h1 _ _, h3, sp⟩, by omega, fun v' hv' => ?_, fun hv' => ?_⟩
    · cases ed : valD kvs k with
      | none => rw [dv.2.1 ed] at hv'; cases hv'
      | some d' =>
        obtain ⟨v'', q3, q4⟩ := dv.1 d' ed
        rw [hv'] at q3; cases q3
        exact fin _ _ _ _ (g1.trans g2) q4 a2 (k1 d' ed)
    · have ed : valD kvs k = none := by
        cases ed : valD kvs k with
        | none => rfl
        | some d' =>
          obtain ⟨v'', q3, _⟩ := dv.1 d' ed
          rw [hv'] at q3; cases q3
      have g4 : Grow X.K H2 (upd H2 l (.ext (dspF X.prog X.w l (putS xs k b v2)))) := .ext (h1 X.prog X.w)
      exact fin _ _ _ _ ((g1.trans g2).trans g4) (rv2.mono g4) (a2.putDs _ _ h1 h2 h4 h3 sp rv2) (k2 ed)⟩
end
end SD

set_option Elab.async false
set_option linter.all false
set_option maxRecDepth 100000
/-! i ^ j; clear; dicts with ints as keys. -/
namespace SD
open PySem PySem.Spec PyProof.Rows L2
section
variable {X : Cx}
noncomputable def rXorD : R2D := rI2 (fun _ _ => True) fun i j => .int (Builtin.bitXor i j)
theorem od_xor : OpD X (binaryOp .BitXor) rXorD := opd_int (ri0 op_xor) fun _ _ _ => by rw [Rep]
variable {o : Expr} {to : TD} {apos cpos : Pos}
noncomputable def tClrD (to : TD) : TD := fun δ M Q => to δ M fun x M1 => ∃ l ys, x = .ref l ∧ M1 l = some (.lst ys) ∧ Q .non (updM M1 l (.lst []))
end
theorem xor_fx : ∀ f : Nat, f < 80 → Builtin.bitXor (f : Int) 1 = ((fx f : Nat) : Int) := by decide
end SD

set_option Elab.async false
set_option linter.all false
set_option maxRecDepth 100000
/-! Dicts with ints as keys: which ones are there. -/
namespace SD
open PySem PySem.Spec PyProof.Rows L2
noncomputable def diA (n : Nat) (S : Int → Bool) : PySem.W.Frag → Hp → Addr → Prop := fun K H a => ∃ kvs : List (Key × V), H a = some (.dK kvs) ∧ kvs.length ≤ n ∧ ∀ i : Int, (kvs.any fun kv => decide (kv.1 = Sum.inl i)) = S i
noncomputable def diM (n : Nat) (S : Int → Bool) : MO := .gen (diA n S)
section
variable {K : PySem.W.Frag} {H H' : Hp} {M : MH} {a : Addr}
theorem diA.absO {n : Nat} {S : Int → Bool} (h : diA n S K H a) : AbsO K H a (diM n S) := ⟨h, (by obtain ⟨kvs, h1, _⟩ := h; rw [h1]; simp), fun H' g e => let ⟨kvs, h1, h2⟩ := h; ⟨kvs, e.trans h1, h2⟩⟩
theorem Grow.dK {kvs : List (Key × V)} {o : HO} (h : H a = some (.dK kvs)) : Grow K H (upd H a o) := .put (fun xs e => by rw [h] at e; cases e) (fun u xs e => by rw [h] at e; cases e)
end
section
variable {X : Cx} {pos : Pos}
/-- {}, a dict of ints -/
noncomputable def tDiNew : TD := fun _ M Q => ∀ p, M p = none → Q (.ref p) (updM M p (diM 0 fun _ => false))
/-- i in d, not in d -/
noncomputable def tDiIn (g : Bool → Bool) (ty td : TD) : TD := fun δ M Q => ty δ M fun y M1 => td δ M1 fun x M2 => ∃ i l n S, y = .int i ∧ x = .ref l ∧ M2 l = some (diM n S) ∧ Q (.bl (g (S i))) M2
variable {e1 e2 : Expr} {ty td : TD}
/-- d[i] = v -/
noncomputable def tDiPut (td ty tv : TD) : TSD := fun B δ M => tv δ M fun d M1 => td δ M1 fun x M2 => ty δ M2 fun y M3 => ∃ l i n S, x = .ref l ∧ y = .int i ∧ M3 l = some (diM n S) ∧ n < 1000000 ∧ B.nx δ (updM M3 l (diM (n + 1) fun j => decide (j = i) || S j))
end
end SD

set_option Elab.async false
set_option linter.all false
set_option maxRecDepth 100000
/-! isinstance of a list of the store. -/
namespace SD
open PySem PySem.Spec PyProof.Rows L2
noncomputable def rIsInstL (K : PySem.W.Frag) : RC := fun ds M Q => rIsInst K ds M Q ∨ ∃ a xs n b, ds = [.ref a, .ty n] ∧ M a = some (.lst xs) ∧ PySem.W.kitOne K (.type "list") (.type n) = some b ∧ Q (.bl b) M
section
variable {X : Cx}
theorem cd_isinstL {K : PySem.W.Frag} (hK : X.K = K) : CallD X (.builtin "isinstance") (rIsInstL K) := by
  subst hK
  intro pins s σ H vs us Q I rv ⟨ds, M, R, rs, a, q, fin⟩
  rcases q with q | ⟨x, xs, n, b, ed, hM, hk, q⟩
  · exact cd_isinst pins s σ H vs us Q I rv ⟨ds, M, R, rs, a, q, fin⟩
  · subst ed
    obtain ⟨v, u, rfl, r, r'⟩ := reps2 rs
    rw [Rep] at r; subst r
    rw [Rep] at r'; subst r'
    obtain ⟨v', u', rfl, rw0, ru⟩ := vals2 rv
    cases (show v' = Value.ref x from rw0)
    cases (show u' = Value.type n from ru)
    obtain ⟨ys, hy, _⟩ := a _ _ hM
    obtain ⟨its, _, ⟨o, m, z1, z2, _⟩, _⟩ := I.list (SqL.of hy)
    have h : ∀ tk, EP X pins σ Q (.bool b) { s with toks := tk } := fun tk => ⟨.bl b, H, I.tok tk, rfl, fin _ _ _ _ .refl (by rw [Rep]) a q⟩
    exact PySem.W.kia_one PySem.W.kitx_list I.kIn ⟨o, z1, z2⟩ hk (fun z => nomatch z) h
end
end SD

set_option Elab.async false
set_option linter.all false
set_option maxRecDepth 100000
/-! All rings, in the order in which they are found. -/
namespace SD
open PySem PySem.Spec PyProof.Rows L2
noncomputable def RgOf (ws : List Wl) (f : Nat) (r : List Nat) : Prop := ∃ kk, NR ws f kk ∧ bh ws (itb ws f kk) = f ∧ r = rn ws f kk
noncomputable def Rgs (ws : List Wl) : Nat → List (List Nat) → Prop
  | 0, rs => rs = []
  | i + 1, rs => ∃ qs, Rgs ws i qs ∧ ((i ∈ qs.flatten ∧ rs = qs) ∨ (i ∉ qs.flatten ∧ ∃ r, RgOf ws i r ∧ rs = qs ++ [r]))
/-- rings that lie in the store -/
noncomputable def RL (M : MH) (ps : List Addr) (rs : List (List Nat)) : Prop := Paired (fun (p : Addr) (r : List Nat) => M p = some (.lst (r.map fun g : Nat => D.int (g : Int)))) ps rs
theorem RL.len {M : MH} {ps : List Addr} {rs : List (List Nat)} (h : RL M ps rs) : ps.length = rs.length := by
  unfold RL at h
  induction h with
  | nil => rfl
  | cons _ _ ih => rw [List.length_cons, List.length_cons, ih]
theorem RL.mono {M M' : MH} {ps : List Addr} {rs : List (List Nat)} (h : RL M ps rs) (s : ∀ p ∈ ps, ∀ o, M p = some o → M' p = some o) : RL M' ps rs := by
  unfold RL at *
  induction h with
  | nil => exact .nil
  | cons a _ ih => exact .cons (s _ (by simp) _ a) (ih fun p hp o e => s p (by simp [hp]) o e)
theorem RL.snoc {M : MH} {ps : List Addr} {rs : List (List Nat)} {p : Addr} {r : List Nat} (h : RL M ps rs) (e : M p = some (.lst (r.map fun g : Nat => D.int (g : Int)))) : RL M (ps ++ [p]) (rs ++ [r]) := Paired.snoc h e
/-- as data -/
noncomputable def rgP (rs : List (List Nat)) : List PyData := rs.map fun r => .list (r.map fun g : Nat => PyData.int (g : Int))
end SD

set_option Elab.async false
set_option linter.all false
set_option maxRecDepth 100000
/-! a tree of asks, told by keys that are all unlike: what the sort of fewer than 64 items tells. -/
namespace SD
open PySem PyProof.Rows
section
variable {α β : Type} {n : Nat} {k : Nat → Int}
noncomputable def kwp (n : Nat) (k : Nat → Int) {α : Type} : PySem.W.KasT α → (α → Prop) → Prop
  | .ret a, Q => Q a
  | .ask i j f, Q => i < n ∧ j < n ∧ kwp n k (f (decide (k i < k j))) Q
/-- an order of 0 .. n - 1 -/
structure Pmu (n : Nat) (p : Array Nat) : Prop where
  perm : p.Perm (List.range n).toArray
theorem Pmu.size {p : Array Nat} (h : Pmu n p) : p.size = n := by have := h.perm.size_eq; simpa using this
theorem Pmu.lt {p : Array Nat} (h : Pmu n p) {i : Nat} (hi : i < n) : p.getD i 0 < n := by
  have hi' : i < p.size := by rw [h.size]; exact hi
  have : p[i] ∈ (List.range n).toArray := h.perm.mem_iff.mp (Array.getElem_mem hi')
  simpa [Array.getD, hi'] using this
theorem Pmu.inj {p : Array Nat} (h : Pmu n p) {i j : Nat} (hi : i < n) (hj : j < n) (e : p.getD i 0 = p.getD j 0) : i = j := by
  have hi' : i < p.size := by rw [h.size]; exact hi
  have hj' : j < p.size := by rw [h.size]; exact hj
  have nd : p.toList.Nodup := (Array.perm_iff_toList_perm.mp h.perm).nodup_iff.mpr (by simpa using List.nodup_range)
  have e' : p.toList[i] = p.toList[j] := by simpa [Array.getD, hi', hj'] using e
  have pw := List.pairwise_iff_getElem.mp nd
  rcases Nat.lt_trichotomy i j with h | h | h
  · exact absurd e' (pw i j _ _ h)
  · exact h
  · exact absurd e'.symm (pw j i _ _ h)
noncomputable def ky (k : Nat → Int) (p : Array Nat) (i : Nat) : Int := k (p.getD i 0)
noncomputable def Inj (n : Nat) (k : Nat → Int) : Prop := ∀ i j, i < n → j < n → k i = k j → i = j
noncomputable def Up (k : Nat → Int) (p : Array Nat) (m : Nat) : Prop := ∀ i j, i < j → j < m → ky k p i < ky k p j
noncomputable def Dn (k : Nat → Int) (p : Array Nat) (m : Nat) : Prop := ∀ i j, i < j → j < m → ky k p j < ky k p i
end
end SD

set_option Elab.async false
set_option linter.all false
set_option maxRecDepth 100000
/-! sorted of a list of pairs of ints, all unlike, fewer than 64. -/
namespace SD
open PySem PySem.Spec PyProof.Rows L2
section
variable {prog : Program} {w : World} {A : Around} {E : Value → Shared → Prop} {s : Shared}
noncomputable abbrev srtE (h : Heap) (a : Addr) (vs : List Value) : Heap := ((h.update a (Obj.mapSeq fun _ => #[])).push (seqObj "tuple" vs.toArray 0)).push (seqObj "list" #[] 0)
theorem srtE_at {h : Heap} {a : Addr} {vs : List Value} {n : Nat} (ho : h.get? a = some (seqObj "list" vs.toArray n)) : ∃ e, (h.update a (Obj.mapSeq fun _ => #[])).get? a = some (seqObj "list" #[] e) ∧ (srtE h a vs).get? a = some (seqObj "list" #[] e) :=
  ⟨_, get?_update_seq ho (fun _ => #[]), Heap.get?_push_of_some _ (Heap.get?_push_of_some _ (get?_update_seq ho (fun _ => #[])))⟩
noncomputable def srtOut (vs : List Value) (p : Array Nat) : Array Value := List.toArray (p.toList.map fun i => vs.getD i Value.none)
end
end SD

set_option Elab.async false
set_option linter.all false
set_option maxRecDepth 100000
/-! sorted of a list of pairs of ints: as a call. -/
namespace SD
open PySem PySem.Spec PyProof.Rows L2
section
variable {X : Cx}
noncomputable def p0 (us : List (Int × Int)) (i : Nat) : Int × Int := us.getD i (0, 0)
noncomputable def pky (us : List (Int × Int)) (i : Nat) : Int := 100 * (p0 us i).1 + (p0 us i).2
noncomputable def Pb (us : List (Int × Int)) : Prop := us.length < 64 ∧ us.Nodup ∧ ∀ u ∈ us, 0 ≤ u.2 ∧ u.2 < 100
theorem p0_mem {us : List (Int × Int)} {i : Nat} (h : i < us.length) : p0 us i ∈ us := by
  unfold p0; rw [List.getD_eq_getElem?_getD, List.getElem?_eq_getElem h]; exact List.getElem_mem h
theorem Pb.inj {us : List (Int × Int)} (h : Pb us) : Inj us.length (pky us) := fun i j hi hj e => by
  have b1 := h.2.2 _ (p0_mem hi)
  have b2 := h.2.2 _ (p0_mem hj)
  unfold pky at e
  have e1 : p0 us i = p0 us j := Prod.ext (by omega) (by omega)
  unfold p0 at e1
  rw [List.getD_eq_getElem?_getD, List.getD_eq_getElem?_getD, List.getElem?_eq_getElem hi, List.getElem?_eq_getElem hj] at e1
  have pw := List.pairwise_iff_getElem.mp h.2.1
  rcases Nat.lt_trichotomy i j with q | q | q
  · exact absurd e1 (pw i j _ _ q)
  · exact q
  · exact absurd e1.symm (pw j i _ _ q)
variable {prog : Program} {w : World} {A : Around} {E : Value → Shared → Prop} {s : Shared}
end
section
variable {X : Cx}
noncomputable def Prs (K : PySem.W.Frag) (H : Hp) : List V → List (Int × Int) → Prop
  | [], [] => True
  | x :: xs, u :: us => (∃ a, x = .ref a ∧ SqT K H a [.int u.1, .int u.2]) ∧ Prs K H xs us
  | _, _ => False
theorem Prs.len {K : PySem.W.Frag} {H : Hp} : ∀ {xs : List V} {us : List (Int × Int)}, Prs K H xs us → xs.length = us.length
  | [], [], _ => rfl
  | _ :: _, _ :: _, h => by rw [List.length_cons, List.length_cons, Prs.len h.2]
  | [], _ :: _, h => h.elim
  | _ :: _, [], h => h.elim
noncomputable def TupI (h : Heap) (v : Value) (u : Int × Int) : Prop := ∃ a t1 t2, v = .ref a ∧ IsTup h a #[.int u.1 t1, .int u.2 t2]
theorem TupI.kept {h h' : Heap} {v : Value} {u : Int × Int} (q : TupI h v u) (k : ∀ b o, h.get? b = some o → h'.get? b = some o) : TupI h' v u := by
  obtain ⟨a, t1, t2, e, o, ho, r⟩ := q
  exact ⟨a, t1, t2, e, o, k _ _ ho, r⟩
/-- pairs of ints as data -/
noncomputable def prD (u : Int × Int) : D := .tup [.int u.1, .int u.2]
/-- the keys of two pairs in their order -/
noncomputable def plt (u v : Int × Int) : Prop := 100 * u.1 + u.2 < 100 * v.1 + v.2
noncomputable def rSortP : RC := fun ds M Q => match ds with
  | [.ref l] => ∃ us : List (Int × Int), M l = some (.lst (us.map prD)) ∧ Pb us ∧ ∀ (z : Addr) (us' : List (Int × Int)), M z = none → us'.Perm us → us'.Pairwise plt → Q (.ref z) (updM M z (.lst (us'.map prD)))
  | _ => False
theorem bt_sorted : bootBuiltins "sorted" = some (.builtin "sorted") := by first | exact boot_sorted | rfl
end
end SD

set_option Elab.async false
set_option linter.all false
set_option maxRecDepth 100000
/-! the sort's gallop -/
namespace SD
open PySem PyProof.Rows
noncomputable def gallop' : Bool → Keyed → Array Keyed → Nat → Nat → Nat → StateT SortSt Sem (Option Nat) := sortPriv% PySem.Builtin.gallop
section
variable {prog : Program} {w : World} {A : Around} {E : Value → Shared → Prop} {s : Shared}
noncomputable def kv (p : Keyed) : Int := numOf p.1
noncomputable def IK (p : Keyed) : Prop := ∃ n t, p.1 = .int n t
theorem wpS_lt {st : SortSt} {x y : Keyed} {Q : Option Bool → SortSt → Prop} (hk : kindOf st = oneType') (hx : IK x) (hy : IK y) (h : Q (some (decide (kv x < kv y))) st) : wpS (model prog w) A E s (lt' x y) Q st := by
  obtain ⟨n, t, e1⟩ := hx
  obtain ⟨m, u, e2⟩ := hy
  obtain ⟨x1, x2⟩ := x
  obtain ⟨y1, y2⟩ := y
  dsimp only at e1 e2
  subst e1 e2
  rw [lt'_eq]
  refine wpS_bind (wpS_get ?_)
  rw [hk, keyLt'_oneType]
  exact wpS_bind (wpS_lift (wpAny_attempt (oneLt_int ⟨rfl, wpS_pure h⟩)))
theorem wpS_elem {st : SortSt} {arr : Array Keyed} {i : Nat} {Q : Keyed → SortSt → Prop} (hi : i < arr.size) (h : Q arr[i] st) : wpS (model prog w) A E s (elem' arr i) Q st := by
  rw [elem'_eq, getElem?_pos arr i hi]
  exact wpS_pure h
noncomputable def kat (arr : Array Keyed) (i : Nat) : Int := kv (arr.getD i (.none, .none))
theorem kat_at {arr : Array Keyed} {i : Nat} (h : i < arr.size) : kat arr i = kv arr[i] := by unfold kat; simp [Array.getD, h]
set_option hygiene false in
local macro_rules | `(tactic| walk_at "bey_tac") => `(tactic| (intro x hx hne hr; cases left with
  | true => first | exact wpS_lt hk hx ik hr | (rw [if_pos rfl]; exact wpS_lt hk hx ik hr)
  | false => (rw [if_neg (by decide)]; exact wpS_bind (neg hx hne hr))))
theorem wpS_gallop {left : Bool} {key : Keyed} {arr : Array Keyed} {base n hint : Nat} {st : SortSt} {Q : Option Nat → SortSt → Prop} (hk : kindOf st = oneType') (hn : base + n ≤ arr.size) (hh : hint < n) (ik : IK key) (ia : ∀ i (h : i < arr.size), IK arr[i])
    (up : ∀ i j, i < j → j < n → kat arr (base + i) < kat arr (base + j)) (ne : ∀ i, i < n → kat arr (base + i) ≠ kv key)
    (h : ∀ k, k ≤ n → (∀ i, i < k → kat arr (base + i) < kv key) → (∀ i, k ≤ i → i < n → kv key < kat arr (base + i)) → Q (some k) st) : wpS (model prog w) A E s (gallop' left key arr base n hint) Q st := by
  have bey : ∀ {i : Nat} {f : Keyed → StateT SortSt Sem (Option Bool)} {R : Option Bool → SortSt → Prop}, i < n → (∀ x, IK x → kv x ≠ kv key → R (some (decide (kv x < kv key))) st → wpS (model prog w) A E s (f x) R st) → R (some (decide (kat arr (base + i) < kv key))) st → wpS (model prog w) A E s (elem' arr (base + i) >>= f) R st := fun {i f R} hi hf hr => by
    have hi' : base + i < arr.size := by omega
    have e := kat_at hi'
    have ne := ne i hi
    rw [e] at ne hr
    exact wpS_bind (wpS_elem hi' (hf _ (ia _ hi') ne hr))
  have neg : ∀ {x : Keyed} {R : Option Bool → SortSt → Prop}, IK x → kv x ≠ kv key → R (some (decide (kv x < kv key))) st → wpS (model prog w) A E s (lt' key x) (fun r st' => wpS (model prog w) A E s (pure (r.map (!·))) R st') st := fun {x R} hx ne hr => by
    refine wpS_lt hk ik hx (wpS_pure ?_)
    have : (Option.map (!·) (some (decide (kv key < kv x)))) = some (decide (kv x < kv key)) := by
      rw [Option.map_some]
      congr 1
      rw [Bool.eq_iff_iff]
      simp
      omega
    rw [this]; exact hr
  have mono : ∀ {i j}, i ≤ j → j < n → kat arr (base + j) < kv key → kat arr (base + i) < kv key := fun {i j} hij hj hl => by
    by_cases e : i = j
    · subst e; exact hl
    · have := up i j (by omega) hj; omega
  have mono' : ∀ {i j}, i ≤ j → j < n → ¬ kat arr (base + i) < kv key → kv key < kat arr (base + j) := fun {i j} hij hj hl => by
    have := ne i (by omega)
    by_cases e : i = j
    · subst e; omega
    · have := up i j (by omega) hj; omega
  refine wpS_bind (bey hh (by walk_at "bey_tac") ?_)
  dsimp only
  by_cases hr : kat arr (base + hint) < kv key
  · rw [decide_eq_true hr, if_pos rfl]
    refine wpS_bind (wpS_mono (wpS_forRange (I := fun x c st' => st' = st ∧ ∃ l o, c = (none, l, o) ∧ l < o ∧ x + 1 ≤ o ∧ hint + l < n ∧ kat arr (base + (hint + l)) < kv key)
      (Q := fun c st' => st' = st ∧ ∃ l o, c = (none, l, o) ∧ l < o ∧ hint + l < n ∧ kat arr (base + (hint + l)) < kv key ∧ (o ≥ n - hint ∨ (hint + o < n ∧ ¬ kat arr (base + (hint + o)) < kv key))) ?st ?fi ⟨rfl, 0, 1, rfl, by omega, by omega, by omega, hr⟩) ?po)
    case po =>
      rintro c st' ⟨rfl, l, o, rfl, b1, b2, b3, b4⟩
      dsimp only
      have hx4 : ∀ i, hint + min o (n - hint) ≤ i → i < n → kv key < kat arr (base + i) := fun i h3 h4 => by
        rcases b4 with b4 | b4
        · omega
        · exact mono' (i := hint + o) (by omega) h4 b4.2
      refine wpS_bind (wpS_mono (wpS_forRange (I := fun x c st'' => st'' = st' ∧ ∃ lo hi, c = (none, lo, hi) ∧ lo ≤ hi ∧ hi ≤ n ∧ hi - lo ≤ n - x ∧ (∀ i, i < lo → kat arr (base + i) < kv key) ∧ (∀ i, hi ≤ i → i < n → kv key < kat arr (base + i)))
        (Q := fun c st'' => st'' = st' ∧ ∃ k, c = (none, k, k) ∧ k ≤ n ∧ (∀ i, i < k → kat arr (base + i) < kv key) ∧ (∀ i, k ≤ i → i < n → kv key < kat arr (base + i))) ?st2 ?fi2 ⟨rfl, hint + l + 1, hint + min o (n - hint), rfl, by omega, by omega, by omega, fun i hi => mono (by omega) b2 b3, hx4⟩) ?po2)
      case po2 =>
        rintro c st'' ⟨rfl, k, rfl, k1, k2, k3⟩
        exact wpS_pure (h k k1 k2 k3)
      case fi2 =>
        rintro c st'' ⟨rfl, lo, hi, rfl, a1, a2, a3, a4, a5⟩
        have : lo = hi := by omega
        subst this
        exact ⟨rfl, lo, rfl, a2, a4, a5⟩
      case st2 =>
        rintro x c st'' _ hx ⟨rfl, lo, hi, rfl, a1, a2, a3, a4, a5⟩
        dsimp only
        by_cases g : lo ≥ hi
        · rw [if_pos g]
          have : lo = hi := by omega
          subst this
          exact wpS_pure ⟨rfl, lo, rfl, a2, a4, a5⟩
        · rw [if_neg g]
          have hm : lo + (hi - lo) / 2 < n := by omega
          refine wpS_bind (bey hm (by walk_at "bey_tac") ?_)
          dsimp only
          by_cases c : kat arr (base + (lo + (hi - lo) / 2)) < kv key
          · rw [decide_eq_true c, if_pos rfl]
            exact wpS_pure ⟨rfl, _, _, rfl, by omega, a2, by omega, fun i hi' => mono (by omega) hm c, a5⟩
          · rw [decide_eq_false c, if_neg (by decide)]
            exact wpS_pure ⟨rfl, _, _, rfl, by omega, by omega, by omega, a4, fun i h3 h4 => mono' h3 h4 c⟩
    case fi =>
      rintro c st' ⟨rfl, l, o, rfl, b1, b2, b3, b4⟩
      exact ⟨rfl, l, o, rfl, b1, b3, b4, .inl (by omega)⟩
    case st =>
      rintro x c st' _ hx ⟨rfl, l, o, rfl, b1, b2, b3, b4⟩
      dsimp only
      by_cases g : o ≥ n - hint
      · rw [if_pos g]
        exact wpS_pure ⟨rfl, l, o, rfl, b1, b3, b4, .inl g⟩
      · rw [if_neg g]
        refine wpS_bind (bey (by omega) (by walk_at "bey_tac") ?_)
        dsimp only
        by_cases c : kat arr (base + (hint + o)) < kv key
        · rw [decide_eq_true c, if_neg (by decide)]
          exact wpS_pure ⟨rfl, o, 2 * o + 1, rfl, by omega, by omega, by omega, c⟩
        · rw [decide_eq_false c, if_pos (by decide)]
          exact wpS_pure ⟨rfl, l, o, rfl, b1, b3, b4, .inr ⟨by omega, c⟩⟩
  · rw [decide_eq_false hr, if_neg (by decide)]
    refine wpS_bind (wpS_mono (wpS_forRange (I := fun x c st' => st' = st ∧ ∃ l o, c = (none, l, o) ∧ l < o ∧ x + 1 ≤ o ∧ l ≤ hint ∧ ¬ kat arr (base + (hint - l)) < kv key)
      (Q := fun c st' => st' = st ∧ ∃ l o, c = (none, l, o) ∧ l < o ∧ l ≤ hint ∧ ¬ kat arr (base + (hint - l)) < kv key ∧ (o ≥ hint + 1 ∨ (o ≤ hint ∧ kat arr (base + (hint - o)) < kv key))) ?st ?fi ⟨rfl, 0, 1, rfl, by omega, by omega, by omega, hr⟩) ?po)
    case po =>
      rintro c st' ⟨rfl, l, o, rfl, b1, b2, b3, b4⟩
      dsimp only
      have hx4 : ∀ i, i < hint + 1 - min o (hint + 1) → kat arr (base + i) < kv key := fun i hi => by
        rcases b4 with b4 | b4
        · omega
        · exact mono (j := hint - o) (by omega) (by omega) b4.2
      refine wpS_bind (wpS_mono (wpS_forRange (I := fun x c st'' => st'' = st' ∧ ∃ lo hi, c = (none, lo, hi) ∧ lo ≤ hi ∧ hi ≤ n ∧ hi - lo ≤ n - x ∧ (∀ i, i < lo → kat arr (base + i) < kv key) ∧ (∀ i, hi ≤ i → i < n → kv key < kat arr (base + i)))
        (Q := fun c st'' => st'' = st' ∧ ∃ k, c = (none, k, k) ∧ k ≤ n ∧ (∀ i, i < k → kat arr (base + i) < kv key) ∧ (∀ i, k ≤ i → i < n → kv key < kat arr (base + i))) ?st2 ?fi2 ⟨rfl, hint + 1 - min o (hint + 1), hint - l, rfl, by omega, by omega, by omega, hx4, fun i h3 h4 => mono' h3 h4 b3⟩) ?po2)
      case po2 =>
        rintro c st'' ⟨rfl, k, rfl, k1, k2, k3⟩
        exact wpS_pure (h k k1 k2 k3)
      case fi2 =>
        rintro c st'' ⟨rfl, lo, hi, rfl, a1, a2, a3, a4, a5⟩
        have : lo = hi := by omega
        subst this
        exact ⟨rfl, lo, rfl, a2, a4, a5⟩
      case st2 =>
        rintro x c st'' _ hx ⟨rfl, lo, hi, rfl, a1, a2, a3, a4, a5⟩
        dsimp only
        by_cases g : lo ≥ hi
        · rw [if_pos g]
          have : lo = hi := by omega
          subst this
          exact wpS_pure ⟨rfl, lo, rfl, a2, a4, a5⟩
        · rw [if_neg g]
          have hm : lo + (hi - lo) / 2 < n := by omega
          refine wpS_bind (bey hm (by walk_at "bey_tac") ?_)
          dsimp only
          by_cases c : kat arr (base + (lo + (hi - lo) / 2)) < kv key
          · rw [decide_eq_true c, if_pos rfl]
            exact wpS_pure ⟨rfl, _, _, rfl, by omega, a2, by omega, fun i hi' => mono (by omega) hm c, a5⟩
          · rw [decide_eq_false c, if_neg (by decide)]
            exact wpS_pure ⟨rfl, _, _, rfl, by omega, by omega, by omega, a4, fun i h3 h4 => mono' h3 h4 c⟩
    case fi =>
      rintro c st' ⟨rfl, l, o, rfl, b1, b2, b3, b4⟩
      exact ⟨rfl, l, o, rfl, b1, b3, b4, .inl (by omega)⟩
    case st =>
      rintro x c st' _ hx ⟨rfl, l, o, rfl, b1, b2, b3, b4⟩
      dsimp only
      by_cases g : o ≥ hint + 1
      · rw [if_pos g]
        exact wpS_pure ⟨rfl, l, o, rfl, b1, b3, b4, .inl g⟩
      · rw [if_neg g]
        refine wpS_bind (bey (by omega) (by walk_at "bey_tac") ?_)
        dsimp only
        by_cases c : kat arr (base + (hint - o)) < kv key
        · rw [decide_eq_true c, if_pos rfl]
          exact wpS_pure ⟨rfl, l, o, rfl, b1, b3, b4, .inr ⟨by omega, c⟩⟩
        · rw [decide_eq_false c, if_neg (by decide)]
          exact wpS_pure ⟨rfl, o, 2 * o + 1, rfl, by omega, by omega, by omega, c⟩
end
end SD

set_option Elab.async false
set_option linter.all false
set_option maxRecDepth 100000
/-! two rows merged: what is true at each step, as lists -/
namespace SD
open PySem PyProof.Rows
noncomputable def Srt (l : List Keyed) : Prop := l.Pairwise fun p q => kv p < kv q
noncomputable def Bel (l m : List Keyed) : Prop := ∀ p ∈ l, ∀ q ∈ m, kv p < kv q
theorem Srt.app {l m : List Keyed} : Srt (l ++ m) ↔ Srt l ∧ Srt m ∧ Bel l m := List.pairwise_append
theorem Bel.appL {l m n : List Keyed} (h1 : Bel l n) (h2 : Bel m n) : Bel (l ++ m) n := fun p hp q hq => (List.mem_append.mp hp).elim (fun z => h1 p z q hq) fun z => h2 p z q hq
theorem Bel.appR {l m n : List Keyed} (h1 : Bel l m) (h2 : Bel l n) : Bel l (m ++ n) := fun p hp q hq => (List.mem_append.mp hq).elim (fun z => h1 p hp q z) fun z => h2 p hp q z
theorem Bel.subR {l m n : List Keyed} (h : Bel l m) (s : ∀ q ∈ n, q ∈ m) : Bel l n := fun p hp q hq => h p hp q (s q hq)
theorem Bel.subL {l m n : List Keyed} (h : Bel m l) (s : ∀ q ∈ n, q ∈ m) : Bel n l := fun p hp q hq => h p (s p hp) q hq
/-- the rest of two rows: A from i on, B from j on; O is what is merged -/
structure Mg (A B O : List Keyed) (i j : Nat) : Prop where
  pm : (O ++ (A.drop i ++ B.drop j)).Perm (A ++ B)
  so : Srt O
  oa : Bel O (A.drop i)
  ob : Bel O (B.drop j)
variable {A B O : List Keyed} {i j k : Nat}
theorem Mg.nil : Mg A B [] 0 0 := ⟨by simp, List.Pairwise.nil, (fun p hp => by cases hp), (fun p hp => by cases hp)⟩
theorem drop_split (A : List Keyed) (i k : Nat) : A.drop i = (A.drop i).take k ++ A.drop (i + k) := by
  rw [← List.drop_drop]; exact (List.take_append_drop k _).symm
/-- k more of the one -/
theorem Mg.goA (sA : Srt A) (h : Mg A B O i j) (k : Nat) (hb : Bel ((A.drop i).take k) (B.drop j)) : Mg A B (O ++ (A.drop i).take k) (i + k) j := by
  have e := drop_split A i k
  have sd : Srt (A.drop i) := sA.sublist (List.drop_sublist _ _)
  rw [e] at sd
  obtain ⟨s1, s2, s3⟩ := Srt.app.mp sd
  refine ⟨?_, Srt.app.mpr ⟨h.so, s1, h.oa.subR fun q hq => List.mem_of_mem_take hq⟩, Bel.appL (h.oa.subR fun q hq => by rw [e]; exact List.mem_append_right _ hq) s3, Bel.appL h.ob hb⟩
  have := h.pm
  rw [e] at this
  simpa [List.append_assoc] using this
theorem Mg.goB (sB : Srt B) (h : Mg A B O i j) (k : Nat) (hb : Bel ((B.drop j).take k) (A.drop i)) : Mg A B (O ++ (B.drop j).take k) i (j + k) := by
  have e := drop_split B j k
  have sd : Srt (B.drop j) := sB.sublist (List.drop_sublist _ _)
  rw [e] at sd
  obtain ⟨s1, s2, s3⟩ := Srt.app.mp sd
  refine ⟨?_, Srt.app.mpr ⟨h.so, s1, h.ob.subR fun q hq => List.mem_of_mem_take hq⟩, Bel.appL h.oa hb, Bel.appL (h.ob.subR fun q hq => by rw [e]; exact List.mem_append_right _ hq) s3⟩
  have := h.pm
  rw [e] at this
  refine List.Perm.trans ?_ this
  rw [List.append_assoc]
  refine List.Perm.append_left O ?_
  rw [← List.append_assoc, ← List.append_assoc]
  exact List.Perm.append_right _ List.perm_append_comm
theorem Mg.endB (sA : Srt A) (h : Mg A B O i j) (hj : B.length ≤ j) : Srt (O ++ A.drop i ++ B.drop j) ∧ (O ++ A.drop i ++ B.drop j).Perm (A ++ B) := by
  have e : B.drop j = [] := List.drop_eq_nil_of_le hj
  refine ⟨?_, by rw [List.append_assoc]; exact h.pm⟩
  rw [e, List.append_nil]
  exact Srt.app.mpr ⟨h.so, sA.sublist (List.drop_sublist _ _), h.oa⟩
theorem Mg.endA (sB : Srt B) (h : Mg A B O i j) (hi : A.length ≤ i) : Srt (O ++ A.drop i ++ B.drop j) ∧ (O ++ A.drop i ++ B.drop j).Perm (A ++ B) := by
  have e : A.drop i = [] := List.drop_eq_nil_of_le hi
  refine ⟨?_, by rw [List.append_assoc]; exact h.pm⟩
  rw [e, List.append_nil]
  exact Srt.app.mpr ⟨h.so, sB.sublist (List.drop_sublist _ _), h.ob⟩
theorem Mg.lastA (sA : Srt A) (sB : Srt B) (h : Mg A B O i j) (hb : Bel B (A.drop i)) : Srt (O ++ B.drop j ++ A.drop i) ∧ (O ++ B.drop j ++ A.drop i).Perm (A ++ B) := by
  refine ⟨?_, ?_⟩
  · rw [List.append_assoc]
    exact Srt.app.mpr ⟨h.so, Srt.app.mpr ⟨sB.sublist (List.drop_sublist _ _), sA.sublist (List.drop_sublist _ _), hb.subL fun q hq => List.mem_of_mem_drop hq⟩, Bel.appR h.ob h.oa⟩
  · rw [List.append_assoc]
    exact (List.Perm.append_left O List.perm_append_comm).trans h.pm
/-- the heads of two rows: A up to i, B up to j; R is what is merged -/
structure Mh (A B R : List Keyed) (i j : Nat) : Prop where
  pm : ((A.take i ++ B.take j) ++ R).Perm (A ++ B)
  so : Srt R
  oa : Bel (A.take i) R
  ob : Bel (B.take j) R
theorem take_split (A : List Keyed) (i k : Nat) (h : k ≤ i) : A.take i = A.take k ++ (A.take i).drop k := by
  have := (List.take_append_drop k (A.take i)).symm
  rwa [List.take_take, Nat.min_eq_left h] at this
variable {R : List Keyed}
theorem Mh.nil : Mh A B [] A.length B.length := ⟨by simp, List.Pairwise.nil, (fun p _ q hq => by cases hq), (fun p _ q hq => by cases hq)⟩
theorem Mh.goA (sA : Srt A) (h : Mh A B R i j) (hk : k ≤ i) (hb : Bel (B.take j) ((A.take i).drop k)) : Mh A B ((A.take i).drop k ++ R) k j := by
  have e := take_split A i k hk
  have sd : Srt (A.take i) := sA.sublist (List.take_sublist _ _)
  rw [e] at sd
  obtain ⟨s1, s2, s3⟩ := Srt.app.mp sd
  refine ⟨?_, Srt.app.mpr ⟨s2, h.so, h.oa.subL fun q hq => List.mem_of_mem_drop hq⟩, Bel.appR s3 (h.oa.subL fun q hq => by rw [e]; exact List.mem_append_left _ hq), Bel.appR hb h.ob⟩
  have := h.pm
  rw [e] at this
  refine List.Perm.trans ?_ this
  rw [← List.append_assoc]
  refine List.Perm.append_right R ?_
  rw [List.append_assoc, List.append_assoc]
  exact List.Perm.append_left _ List.perm_append_comm
theorem Mh.goB (sB : Srt B) (h : Mh A B R i j) (hk : k ≤ j) (hb : Bel (A.take i) ((B.take j).drop k)) : Mh A B ((B.take j).drop k ++ R) i k := by
  have e := take_split B j k hk
  have sd : Srt (B.take j) := sB.sublist (List.take_sublist _ _)
  rw [e] at sd
  obtain ⟨s1, s2, s3⟩ := Srt.app.mp sd
  refine ⟨?_, Srt.app.mpr ⟨s2, h.so, h.ob.subL fun q hq => List.mem_of_mem_drop hq⟩, Bel.appR hb h.oa, Bel.appR s3 (h.ob.subL fun q hq => by rw [e]; exact List.mem_append_left _ hq)⟩
  have := h.pm
  rw [e] at this
  simpa [List.append_assoc] using this
theorem Mh.endA (sB : Srt B) (h : Mh A B R i j) (hi : i = 0) : Srt (A.take i ++ B.take j ++ R) ∧ (A.take i ++ B.take j ++ R).Perm (A ++ B) := by
  subst hi
  refine ⟨?_, h.pm⟩
  rw [List.take_zero, List.nil_append]
  exact Srt.app.mpr ⟨sB.sublist (List.take_sublist _ _), h.so, h.ob⟩
theorem Mh.endB (sA : Srt A) (h : Mh A B R i j) (hj : j = 0) : Srt (A.take i ++ B.take j ++ R) ∧ (A.take i ++ B.take j ++ R).Perm (A ++ B) := by
  subst hj
  refine ⟨?_, h.pm⟩
  rw [List.take_zero, List.append_nil]
  exact Srt.app.mpr ⟨sA.sublist (List.take_sublist _ _), h.so, h.oa⟩
theorem Mh.firstB (sA : Srt A) (sB : Srt B) (h : Mh A B R i j) (hb : Bel (B.take j) A) : Srt (B.take j ++ A.take i ++ R) ∧ (B.take j ++ A.take i ++ R).Perm (A ++ B) := by
  refine ⟨?_, (List.Perm.append_right R List.perm_append_comm).trans h.pm⟩
  exact Srt.app.mpr ⟨Srt.app.mpr ⟨sB.sublist (List.take_sublist _ _), sA.sublist (List.take_sublist _ _), hb.subR fun q hq => List.mem_of_mem_take hq⟩, h.so, Bel.appL h.ob h.oa⟩
end SD

set_option Elab.async false
set_option linter.all false
set_option maxRecDepth 100000
/-! the sort's merge from the left -/
set_option maxHeartbeats 4000000
namespace SD
open PySem PyProof.Rows
noncomputable def mergeLo' : Array Keyed → Array Keyed → StateT SortSt Sem (Array Keyed) := sortPriv% PySem.Builtin.mergeLo
/-- what the merges keep of the state: all but the gallop's bound -/
noncomputable def Sm (st st' : SortSt) : Prop := kindOf st' = kindOf st ∧ arrOf st' = arrOf st ∧ pendingOf st' = pendingOf st ∧ failedOf st' = failedOf st
theorem Sm.refl (st : SortSt) : Sm st st := ⟨rfl, rfl, rfl, rfl⟩
section
variable {a b out : Array Keyed} {i j k : Nat}
theorem ext_list (a : Array Keyed) (i : Nat) : (a.extract i a.size).toList = a.toList.drop i := by
  rw [Array.toList_extract, List.extract_eq_drop_take]
  apply List.take_of_length_le
  simp
theorem ext_take (a : Array Keyed) (i k : Nat) : (a.extract i (i + k)).toList = (a.toList.drop i).take k := by
  rw [Array.toList_extract, List.extract_eq_drop_take, Nat.add_sub_cancel_left]
theorem one_list {a : Array Keyed} {i : Nat} (h : i < a.size) : [a[i]] = (a.toList.drop i).take 1 := by
  have h' : i < a.toList.length := by simpa using h
  rw [List.drop_eq_getElem_cons h']
  simp
theorem mem_drop_kat {a : Array Keyed} {i : Nat} {q : Keyed} (h : q ∈ a.toList.drop i) : ∃ x, i ≤ x ∧ x < a.size ∧ kv q = kat a x := by
  obtain ⟨y, hy, e⟩ := List.getElem_of_mem h
  rw [List.length_drop] at hy
  have hy' : i + y < a.size := by have : a.toList.length = a.size := by simp
                                  (first | lia | omega)
  refine ⟨i + y, by (first | lia | omega), hy', ?_⟩
  rw [kat_at hy', ← e]
  simp
theorem mem_block_kat {a : Array Keyed} {i k : Nat} {q : Keyed} (h : q ∈ (a.toList.drop i).take k) : ∃ x, x < k ∧ i + x < a.size ∧ kv q = kat a (i + x) := by
  obtain ⟨y, hy, e⟩ := List.getElem_of_mem h
  rw [List.length_take, List.length_drop] at hy
  have hy' : i + y < a.size := by have : a.toList.length = a.size := by simp
                                  (first | lia | omega)
  refine ⟨y, by (first | lia | omega), hy', ?_⟩
  rw [kat_at hy', ← e]
  simp
theorem srt_kat {a : Array Keyed} (h : Srt a.toList) {x y : Nat} (hxy : x < y) (hy : y < a.size) : kat a x < kat a y := by
  have := List.pairwise_iff_getElem.mp h x y (by simp; (first | lia | omega)) (by simpa using hy) hxy
  rw [kat_at (by (first | lia | omega)), kat_at hy]
  simpa using this
theorem srt_kat_le {a : Array Keyed} (h : Srt a.toList) {x y : Nat} (hxy : x ≤ y) (hy : y < a.size) : kat a x ≤ kat a y := by
  by_cases e : x = y
  · subst e; exact Int.le_refl _
  · exact Int.le_of_lt (srt_kat h (by (first | lia | omega)) hy)
noncomputable abbrev MG (a b out : Array Keyed) (i j : Nat) : Prop := Mg a.toList b.toList out.toList i j
noncomputable abbrev FN (a b out : Array Keyed) : Prop := Srt out.toList ∧ out.toList.Perm (a.toList ++ b.toList)
theorem mg_blockA (sa : Srt a.toList) (sb : Srt b.toList) (h : MG a b out i j) (hj : j < b.size) (k : Nat) (hb : ∀ x, x < k → i + x < a.size → kat a (i + x) < kat b j) : MG a b (out ++ a.extract i (i + k)) (i + k) j := by
  have := h.goA sa k fun p hp q hq => by
    obtain ⟨x, hx, hx2, e1⟩ := mem_block_kat hp
    obtain ⟨y, hy, hy2, e2⟩ := mem_drop_kat hq
    have := hb x hx hx2
    have := srt_kat_le sb hy hy2
    (first | lia | omega)
  show Mg _ _ _ _ _
  rw [Array.toList_append, ext_take]
  exact this
theorem mg_blockB (sa : Srt a.toList) (sb : Srt b.toList) (h : MG a b out i j) (hi : i < a.size) (k : Nat) (hb : ∀ x, x < k → j + x < b.size → kat b (j + x) < kat a i) : MG a b (out ++ b.extract j (j + k)) i (j + k) := by
  have := h.goB sb k fun p hp q hq => by
    obtain ⟨x, hx, hx2, e1⟩ := mem_block_kat hp
    obtain ⟨y, hy, hy2, e2⟩ := mem_drop_kat hq
    have := hb x hx hx2
    have := srt_kat_le sa hy hy2
    (first | lia | omega)
  show Mg _ _ _ _ _
  rw [Array.toList_append, ext_take]
  exact this
theorem mg_pushA (sa : Srt a.toList) (sb : Srt b.toList) (h : MG a b out i j) (hi : i < a.size) (hj : j < b.size) (hb : kat a i < kat b j) : MG a b (out.push a[i]) (i + 1) j := by
  have := h.goA sa 1 fun p hp q hq => by
    obtain ⟨x, hx, hx2, e1⟩ := mem_block_kat hp
    obtain ⟨y, hy, hy2, e2⟩ := mem_drop_kat hq
    obtain rfl : x = 0 := by (first | lia | omega)
    have := srt_kat_le sb hy hy2
    rw [Nat.add_zero] at e1
    (first | lia | omega)
  show Mg _ _ _ _ _
  rw [Array.toList_push, one_list hi]
  exact this
theorem mg_pushB (sa : Srt a.toList) (sb : Srt b.toList) (h : MG a b out i j) (hi : i < a.size) (hj : j < b.size) (hb : kat b j < kat a i) : MG a b (out.push b[j]) i (j + 1) := by
  have := h.goB sb 1 fun p hp q hq => by
    obtain ⟨x, hx, hx2, e1⟩ := mem_block_kat hp
    obtain ⟨y, hy, hy2, e2⟩ := mem_drop_kat hq
    obtain rfl : x = 0 := by (first | lia | omega)
    have := srt_kat_le sa hy hy2
    rw [Nat.add_zero] at e1
    (first | lia | omega)
  show Mg _ _ _ _ _
  rw [Array.toList_push, one_list hj]
  exact this
theorem fn_done (sa : Srt a.toList) (h : MG a b out i j) (hj : j = b.size) : FN a b (out ++ a.extract i a.size ++ b.extract j b.size) := by
  have := h.endB sa (by simp [hj])
  unfold FN
  rw [Array.toList_append, Array.toList_append, ext_list, ext_list]
  exact this
theorem fn_doneA (sb : Srt b.toList) (h : MG a b out i j) (hi : i = a.size) : FN a b (out ++ a.extract i a.size ++ b.extract j b.size) := by
  have := h.endA sb (by simp [hi])
  unfold FN
  rw [Array.toList_append, Array.toList_append, ext_list, ext_list]
  exact this
theorem fn_last (sa : Srt a.toList) (sb : Srt b.toList) (hl : ∀ j, j < b.size → kat b j < kat a (a.size - 1)) (h : MG a b out i j) (hi : i + 1 = a.size) : FN a b (out ++ b.extract j b.size ++ a.extract i a.size) := by
  have := h.lastA sa sb fun p hp q hq => by
    obtain ⟨y, hy, hy2, e2⟩ := mem_drop_kat hq
    obtain ⟨x, _, hx2, e1⟩ := mem_drop_kat (a := b) (i := 0) (by simpa using hp)
    have := hl x hx2
    obtain rfl : y = a.size - 1 := by (first | lia | omega)
    (first | lia | omega)
  unfold FN
  rw [Array.toList_append, Array.toList_append, ext_list, ext_list]
  exact this
end
section
variable {prog : Program} {w : World} {A : Around} {E : Value → Shared → Prop} {s : Shared}
theorem Sm.trans {st st1 st2 : SortSt} (h : Sm st st1) (h2 : Sm st1 st2) : Sm st st2 := ⟨h2.1.trans h.1, h2.2.1.trans h.2.1, h2.2.2.1.trans h.2.2.1, h2.2.2.2.trans h.2.2.2⟩
set_option hygiene false in
/-- the last piece: one of a, and on -/
local macro_rules | `(tactic| walk_at "ml_end") => `(tactic| (
  refine wpS_bind (wpS_elem hi3 ?_)
  have m5 := mg_pushA sa sb m4 hi3 hj4 ca4
  by_cases d5 : i3 + 1 + 1 = a.size
  · rw [if_pos (by simpa using d5)]
    exact wpS_pure ⟨sm3, .inl ⟨_, rfl, fn_last sa sb hl m5 d5⟩⟩
  · rw [if_neg (by simpa using d5)]
    split
    · exact wpS_pure ⟨sm3, .inr ⟨_, _, _, _, _, _, rfl, m5, by (first | lia | omega), by (first | lia | omega), by (first | lia | omega)⟩⟩
    · exact wpS_pure ⟨sm3, _, _, _, _, _, _, rfl, m5, by (first | lia | omega), by (first | lia | omega), by (first | lia | omega)⟩))
set_option hygiene false in
/-- one of b, then those of b ahead of the next of a -/
local macro_rules | `(tactic| walk_at "ml_mid") => `(tactic| (
  refine wpS_bind (wpS_elem hj2 ?_)
  have m3 := mg_pushB sa sb mg3 hi3 hj2 cb3
  by_cases d3 : j2 + 1 = b.size
  · rw [if_pos (by simpa using d3)]
    exact wpS_pure ⟨sm3, .inl ⟨_, rfl, fn_done sa m3 d3⟩⟩
  rw [if_neg (by simpa using d3)]
  refine wpS_bind (wpS_elem hi3 ?_)
  refine wpS_bind (wpS_gallop (sm3.1.trans hk) (by (first | lia | omega)) (by (first | lia | omega)) (ia _ hi3) ib (fun x y h1 h2 => srt_kat sb (by (first | lia | omega)) (by (first | lia | omega))) (fun x hx => by rw [← kat_at hi3]; exact (ne _ _ hi3 (by (first | lia | omega))).symm) fun k' k1 k2 k3 => ?_)
  dsimp only
  rw [← kat_at hi3] at k2 k3
  have m4 := mg_blockB sa sb m3 hi3 k' fun x hx _ => k2 x hx
  by_cases e3 : k' > 0
  · rw [if_pos e3]
    by_cases d4 : j2 + 1 + k' = b.size
    · rw [if_pos (by simpa using d4)]
      exact wpS_pure ⟨sm3, .inl ⟨_, rfl, fn_done sa m4 d4⟩⟩
    · rw [if_neg (by simpa using d4)]
      have hj4 : j2 + 1 + k' < b.size := by (first | lia | omega)
      have ca4 := k3 k' (Nat.le_refl _) (by (first | lia | omega))
      walk_at "ml_end"
  · rw [if_neg e3]
    obtain rfl : k' = 0 := by (first | lia | omega)
    have m4 := m3
    have hj4 : j2 + 1 < b.size := by (first | lia | omega)
    have ca4 := k3 0 (Nat.le_refl _) (by (first | lia | omega))
    walk_at "ml_end"))
set_option hygiene false in
/-- the begin: those of a ahead of the next of b -/
local macro_rules | `(tactic| walk_at "ml_go") => `(tactic| (
  refine wpS_bind (wpS_modify ?_)
  refine wpS_bind (wpS_elem hj2 ?_)
  refine wpS_bind (wpS_gallop (sm3.1.trans hk) (by (first | lia | omega)) (by (first | lia | omega)) (ib _ hj2) ia (fun x y h1 h2 => srt_kat sa (by (first | lia | omega)) (by (first | lia | omega))) (fun x hx => by rw [← kat_at hj2]; exact ne _ _ (by (first | lia | omega)) hj2) fun k k1 k2 k3 => ?_)
  dsimp only
  rw [← kat_at hj2] at k2 k3
  have mgk := mg_blockA sa sb mg2 hj2 k fun x hx _ => k2 x hx
  by_cases e2 : k > 0
  · rw [if_pos e2]
    by_cases d1 : i2 + k + 1 = a.size
    · rw [if_pos (by simpa using d1)]
      exact wpS_pure ⟨sm3, .inl ⟨_, rfl, fn_last sa sb hl mgk d1⟩⟩
    rw [if_neg (by simpa using d1)]
    by_cases d2 : i2 + k = a.size
    · rw [if_pos (by simpa using d2)]
      exact wpS_pure ⟨sm3, .inl ⟨_, rfl, fn_doneA sb mgk d2⟩⟩
    rw [if_neg (by simpa using d2)]
    have cb3 := k3 k (Nat.le_refl _) (by (first | lia | omega))
    have hi3 : i2 + k < a.size := by (first | lia | omega)
    have hi3' : i2 + k + 1 < a.size := by (first | lia | omega)
    have mg3 := mgk
    generalize out2 ++ a.extract i2 (i2 + k) = out3 at mg3 ⊢
    generalize hi3e : i2 + k = i3 at mg3 hi3 hi3' cb3 ⊢
    walk_at "ml_mid"
  · rw [if_neg e2]
    obtain rfl : k = 0 := by (first | lia | omega)
    have cb3 := k3 0 (Nat.le_refl _) (by (first | lia | omega))
    rw [Nat.add_zero] at cb3
    have hi3 : i2 < a.size := by (first | lia | omega)
    have hi3' := hi2
    have mg3 := mg2
    generalize hi3e : i2 = i3 at mg3 hi3 hi3' cb3 ⊢
    walk_at "ml_mid"))
theorem wpS_mergeLo {a b : Array Keyed} {st : SortSt} {Q : Array Keyed → SortSt → Prop} (hk : kindOf st = oneType') (ia : ∀ i (h : i < a.size), IK a[i]) (ib : ∀ i (h : i < b.size), IK b[i]) (sa : Srt a.toList) (sb : Srt b.toList)
    (a1 : 1 ≤ a.size) (b1 : 1 ≤ b.size) (h0 : kat b 0 < kat a 0) (hl : ∀ j, j < b.size → kat b j < kat a (a.size - 1)) (ne : ∀ i j, i < a.size → j < b.size → kat a i ≠ kat b j)
    (h : ∀ out st', Sm st st' → FN a b out → Q out st') : wpS (model prog w) A E s (mergeLo' a b) Q st := by
  refine wpS_bind (wpS_lift (wpAny_rule ⟨rfl, ?_⟩))
  refine wpS_bind (wpS_elem b1 ?_)
  have m0 : MG a b #[b[0]] 0 1 := mg_pushB (out := #[]) sa sb Mg.nil a1 b1 h0
  by_cases c1 : 1 = b.size
  · rw [if_pos (by simpa using c1)]
    exact wpS_pure (h _ _ (Sm.refl _) (fn_done sa m0 c1))
  rw [if_neg (by simpa using c1)]
  by_cases c2 : 0 + 1 = a.size
  · rw [if_pos (by simpa using c2)]
    exact wpS_pure (h _ _ (Sm.refl _) (fn_last sa sb hl m0 c2))
  rw [if_neg (by simpa using c2)]
  refine wpS_bind (wpS_get ?_)
  refine wpS_bind (wpS_mono (wpS_forRange (I := fun x c st' => Sm st st' ∧ ∃ out i j g, c = (none, out, i, j, g) ∧ MG a b out i j ∧ i + 1 < a.size ∧ j < b.size ∧ x ≤ i + j)
    (Q := fun c st' => Sm st st' ∧ ∃ r, c.1 = some r ∧ FN a b r) ?stp ?fin ⟨Sm.refl _, _, _, _, _, rfl, m0, by (first | lia | omega), by (first | lia | omega), by (first | lia | omega)⟩) ?pos)
  case pos =>
    rintro ⟨c, c'⟩ st' ⟨sm, r, hc, fr⟩
    dsimp only at hc ⊢
    subst hc
    exact wpS_pure (h r st' sm fr)
  case fin =>
    rintro c st' ⟨sm, out, i, j, g, rfl, mg, hi, hj, hx⟩
    (first | lia | omega)
  case stp =>
    rintro x0 c st' _ hx0 ⟨sm, out, i, j, g, rfl, mg, hi, hj, hx⟩
    dsimp only
    refine wpS_bind (wpS_mono (wpS_forRange (I := fun x c st'' => st'' = st' ∧ ∃ out' i' j' ac bc, c = (none, out', i', j', ac, bc) ∧ MG a b out' i' j' ∧ i' + 1 < a.size ∧ j' < b.size ∧ i + j + x ≤ i' + j')
      (Q := fun c st'' => st'' = st' ∧ ((∃ r, c.1 = some r ∧ FN a b r) ∨ ∃ out' i' j' ac bc, c = (none, out', i', j', ac, bc) ∧ MG a b out' i' j' ∧ i' + 1 < a.size ∧ j' < b.size ∧ i + j < i' + j')) ?st1 ?fi1 ⟨rfl, _, _, _, _, _, rfl, mg, hi, hj, by (first | lia | omega)⟩) ?po1)
    case fi1 =>
      rintro c st'' ⟨rfl, out', i', j', ac, bc, rfl, mg', hi', hj', hx'⟩
      (first | lia | omega)
    case st1 =>
      rintro x c st'' _ hx' ⟨rfl, out', i', j', ac, bc, rfl, mg', hi', hj', hx'⟩
      dsimp only
      have hia : i' < a.size := by (first | lia | omega)
      refine wpS_bind (wpS_elem hj' (wpS_bind (wpS_elem hia (wpS_bind (wpS_lt (sm.1.trans hk) (ib _ hj') (ia _ hia) ?_)))))
      dsimp only
      rw [← kat_at hj', ← kat_at hia]
      by_cases cb : kat b j' < kat a i'
      · rw [decide_eq_true cb, if_pos rfl]
        refine wpS_bind (wpS_elem hj' ?_)
        have m1 := mg_pushB sa sb mg' hia hj' cb
        by_cases d1 : j' + 1 = b.size
        · rw [if_pos (by simpa using d1)]
          exact wpS_pure ⟨rfl, .inl ⟨_, rfl, fn_done sa m1 d1⟩⟩
        · rw [if_neg (by simpa using d1)]
          split
          · exact wpS_pure ⟨rfl, .inr ⟨_, _, _, _, _, rfl, m1, by (first | lia | omega), by (first | lia | omega), by (first | lia | omega)⟩⟩
          · exact wpS_pure ⟨rfl, _, _, _, _, _, rfl, m1, by (first | lia | omega), by (first | lia | omega), by (first | lia | omega)⟩
      · rw [decide_eq_false cb, if_neg (by decide)]
        have nab := ne i' j' hia hj'
        have ca : kat a i' < kat b j' := by (first | lia | omega)
        refine wpS_bind (wpS_elem hia ?_)
        have m1 := mg_pushA sa sb mg' hia hj' ca
        by_cases d1 : i' + 1 + 1 = a.size
        · rw [if_pos (by simpa using d1)]
          exact wpS_pure ⟨rfl, .inl ⟨_, rfl, fn_last sa sb hl m1 d1⟩⟩
        · rw [if_neg (by simpa using d1)]
          split
          · exact wpS_pure ⟨rfl, .inr ⟨_, _, _, _, _, rfl, m1, by (first | lia | omega), by (first | lia | omega), by (first | lia | omega)⟩⟩
          · exact wpS_pure ⟨rfl, _, _, _, _, _, rfl, m1, by (first | lia | omega), by (first | lia | omega), by (first | lia | omega)⟩
    case po1 =>
      rintro ⟨c, c'⟩ st'' ⟨rfl, (⟨r, hc, fr⟩ | ⟨out', i', j', ac, bc, hc, mg', hi', hj', hx'⟩)⟩
      · dsimp only at hc ⊢
        subst hc
        exact wpS_pure ⟨sm, r, rfl, fr⟩
      · rw [Prod.mk.injEq] at hc
        obtain ⟨rfl, rfl⟩ := hc
        dsimp only
        refine wpS_bind (wpS_lift (wpAny_rule ⟨rfl, ?_⟩))
        refine wpS_bind (wpS_mono (wpS_forRange (I := fun x c st3 => Sm st st3 ∧ ∃ out2 i2 j2 g2 ac2 bc2, c = (none, out2, i2, j2, g2, ac2, bc2) ∧ MG a b out2 i2 j2 ∧ i2 + 1 < a.size ∧ j2 < b.size ∧ i' + j' + x ≤ i2 + j2)
          (Q := fun c st3 => Sm st st3 ∧ ((∃ r, c.1 = some r ∧ FN a b r) ∨ ∃ out2 i2 j2 g2 ac2 bc2, c = (none, out2, i2, j2, g2, ac2, bc2) ∧ MG a b out2 i2 j2 ∧ i2 + 1 < a.size ∧ j2 < b.size ∧ i' + j' ≤ i2 + j2)) ?st2 ?fi2 ⟨sm, _, _, _, _, _, _, rfl, mg', hi', hj', by (first | lia | omega)⟩) ?po2)
        case fi2 =>
          rintro c st3 ⟨sm2, out2, i2, j2, g2, ac2, bc2, rfl, mg2, hi2, hj2, hx2⟩
          (first | lia | omega)
        case po2 =>
          rintro ⟨c, c'⟩ st3 ⟨sm2, (⟨r, hc, fr⟩ | ⟨out2, i2, j2, g2, ac2, bc2, hc, mg2, hi2, hj2, hx2⟩)⟩
          · dsimp only at hc ⊢
            subst hc
            exact wpS_pure ⟨sm2, r, rfl, fr⟩
          · rw [Prod.mk.injEq] at hc
            obtain ⟨rfl, rfl⟩ := hc
            dsimp only
            exact wpS_bind (wpS_modify (wpS_pure ⟨sm2.trans ⟨rfl, rfl, rfl, rfl⟩, _, _, _, _, rfl, mg2, hi2, hj2, by (first | lia | omega)⟩))
        case st2 =>
          rintro x c st3 _ hx2 ⟨sm2, out2, i2, j2, g2, ac2, bc2, rfl, mg2, hi2, hj2, hx3⟩
          dsimp only
          have sm3 : ∀ n, Sm st (SortSt.mk' (kindOf st3) (arrOf st3) (pendingOf st3) n (failedOf st3)) := fun n => sm2.trans ⟨rfl, rfl, rfl, rfl⟩
          by_cases gg : g2 > 1
          · rw [if_pos gg]
            have sm3 := sm3 (g2 - 1)
            walk_at "ml_go"
          · rw [if_neg gg]
            have sm3 := sm3 g2
            walk_at "ml_go"
end
end SD

set_option Elab.async false
set_option linter.all false
set_option maxRecDepth 100000
/-! the sort's merge from the right -/
set_option maxHeartbeats 4000000
namespace SD
open PySem PyProof.Rows
noncomputable def mergeHi' : Array Keyed → Array Keyed → StateT SortSt Sem (Array Keyed) := sortPriv% PySem.Builtin.mergeHi
section
variable {a b out : Array Keyed} {i j k : Nat}
theorem ext_low (a : Array Keyed) (i : Nat) : (a.extract 0 i).toList = a.toList.take i := by
  rw [Array.toList_extract, List.extract_eq_drop_take]
  simp
theorem ext_mid (a : Array Keyed) (k i : Nat) : (a.extract k i).toList = (a.toList.take i).drop k := by
  rw [Array.toList_extract, List.extract_eq_drop_take, List.drop_take]
theorem one_take {a : Array Keyed} {i : Nat} (h : i < a.size) : [a[i]] = (a.toList.take (i + 1)).drop i := by
  have h' : i < a.toList.length := by simpa using h
  rw [List.drop_take, Nat.add_sub_cancel_left, List.drop_eq_getElem_cons h']
  simp
theorem mem_take_kat {a : Array Keyed} {i : Nat} {q : Keyed} (h : q ∈ a.toList.take i) : ∃ x, x < i ∧ x < a.size ∧ kv q = kat a x := by
  obtain ⟨y, hy, e⟩ := List.getElem_of_mem h
  rw [List.length_take] at hy
  have hy' : y < a.size := by have : a.toList.length = a.size := by simp
                              (first | lia | omega)
  refine ⟨y, by (first | lia | omega), hy', ?_⟩
  rw [kat_at hy', ← e]
  simp
theorem mem_mid_kat {a : Array Keyed} {k i : Nat} {q : Keyed} (h : q ∈ (a.toList.take i).drop k) : ∃ x, k ≤ x ∧ x < i ∧ x < a.size ∧ kv q = kat a x := by
  obtain ⟨y, hy, e⟩ := List.getElem_of_mem h
  rw [List.length_drop, List.length_take] at hy
  have hy' : k + y < a.size := by have : a.toList.length = a.size := by simp
                                  (first | lia | omega)
  refine ⟨k + y, by (first | lia | omega), by (first | lia | omega), hy', ?_⟩
  rw [kat_at hy', ← e]
  simp
noncomputable abbrev MH2 (a b out : Array Keyed) (i j : Nat) : Prop := Mh a.toList b.toList out.toList.reverse i j
theorem mh_blockA (sa : Srt a.toList) (sb : Srt b.toList) (h : MH2 a b out i j) (hj : 1 ≤ j) (hjb : j ≤ b.size) (hk : k ≤ i) (hb : ∀ x, k ≤ x → x < i → x < a.size → kat b (j - 1) < kat a x) : MH2 a b (out ++ (a.extract k i).reverse) k j := by
  have := h.goA sa hk fun p hp q hq => by
    obtain ⟨x, hx, hx2, e1⟩ := mem_take_kat hp
    obtain ⟨y, hy, hy2, hy3, e2⟩ := mem_mid_kat hq
    have := hb y hy hy2 hy3
    have := srt_kat_le sb (x := x) (y := j - 1) (by (first | lia | omega)) (by (first | lia | omega))
    (first | lia | omega)
  show Mh _ _ _ _ _
  rw [Array.toList_append, Array.toList_reverse, List.reverse_append, List.reverse_reverse, ext_mid]
  exact this
theorem mh_blockB (sa : Srt a.toList) (sb : Srt b.toList) (h : MH2 a b out i j) (hi : 1 ≤ i) (hia : i ≤ a.size) (hk : k ≤ j) (hb : ∀ x, k ≤ x → x < j → x < b.size → kat a (i - 1) < kat b x) : MH2 a b (out ++ (b.extract k j).reverse) i k := by
  have := h.goB sb hk fun p hp q hq => by
    obtain ⟨x, hx, hx2, e1⟩ := mem_take_kat hp
    obtain ⟨y, hy, hy2, hy3, e2⟩ := mem_mid_kat hq
    have := hb y hy hy2 hy3
    have := srt_kat_le sa (x := x) (y := i - 1) (by (first | lia | omega)) (by (first | lia | omega))
    (first | lia | omega)
  show Mh _ _ _ _ _
  rw [Array.toList_append, Array.toList_reverse, List.reverse_append, List.reverse_reverse, ext_mid]
  exact this
theorem mh_pushA (sa : Srt a.toList) (sb : Srt b.toList) (h : MH2 a b out (i + 1) j) (hi : i < a.size) (hj : 1 ≤ j) (hjb : j ≤ b.size) (hb : kat b (j - 1) < kat a i) : MH2 a b (out.push a[i]) i j := by
  have := h.goA sa (k := i) (by (first | lia | omega)) fun p hp q hq => by
    obtain ⟨x, hx, hx2, e1⟩ := mem_take_kat hp
    obtain ⟨y, hy, hy2, hy3, e2⟩ := mem_mid_kat hq
    obtain rfl : y = i := by (first | lia | omega)
    have := srt_kat_le sb (x := x) (y := j - 1) (by (first | lia | omega)) (by (first | lia | omega))
    (first | lia | omega)
  show Mh _ _ _ _ _
  rw [Array.toList_push, List.reverse_append, List.reverse_singleton, one_take hi]
  exact this
theorem mh_pushB (sa : Srt a.toList) (sb : Srt b.toList) (h : MH2 a b out i (j + 1)) (hj : j < b.size) (hi : 1 ≤ i) (hia : i ≤ a.size) (hb : kat a (i - 1) < kat b j) : MH2 a b (out.push b[j]) i j := by
  have := h.goB sb (k := j) (by (first | lia | omega)) fun p hp q hq => by
    obtain ⟨x, hx, hx2, e1⟩ := mem_take_kat hp
    obtain ⟨y, hy, hy2, hy3, e2⟩ := mem_mid_kat hq
    obtain rfl : y = j := by (first | lia | omega)
    have := srt_kat_le sa (x := x) (y := i - 1) (by (first | lia | omega)) (by (first | lia | omega))
    (first | lia | omega)
  show Mh _ _ _ _ _
  rw [Array.toList_push, List.reverse_append, List.reverse_singleton, one_take hj]
  exact this
theorem mh_popA (sa : Srt a.toList) (sb : Srt b.toList) (h : MH2 a b out i j) (hi : 1 ≤ i) (hia : i ≤ a.size) (hi' : i - 1 < a.size) (hj : 1 ≤ j) (hjb : j ≤ b.size) (hb : kat b (j - 1) < kat a (i - 1)) : MH2 a b (out.push a[i - 1]) (i - 1) j :=
  mh_pushA sa sb (by rw [Nat.sub_add_cancel hi]; exact h) hi' hj hjb hb
theorem mh_popB (sa : Srt a.toList) (sb : Srt b.toList) (h : MH2 a b out i j) (hj : 1 ≤ j) (hjb : j ≤ b.size) (hj' : j - 1 < b.size) (hi : 1 ≤ i) (hia : i ≤ a.size) (hb : kat a (i - 1) < kat b (j - 1)) : MH2 a b (out.push b[j - 1]) i (j - 1) :=
  mh_pushB sa sb (by rw [Nat.sub_add_cancel hj]; exact h) hj' hi hia hb
theorem fh_done (sb : Srt b.toList) (h : MH2 a b out i j) (hi : i = 0) : FN a b (a.extract 0 i ++ b.extract 0 j ++ out.reverse) := by
  have := h.endA sb hi
  unfold FN
  rw [Array.toList_append, Array.toList_append, ext_low, ext_low, Array.toList_reverse]
  exact this
theorem fh_doneB (sa : Srt a.toList) (h : MH2 a b out i j) (hj : j = 0) : FN a b (a.extract 0 i ++ b.extract 0 j ++ out.reverse) := by
  have := h.endB sa hj
  unfold FN
  rw [Array.toList_append, Array.toList_append, ext_low, ext_low, Array.toList_reverse]
  exact this
theorem fh_first (sa : Srt a.toList) (sb : Srt b.toList) (h0 : kat b 0 < kat a 0) (h : MH2 a b out i j) (hj : j = 1) : FN a b (b.extract 0 j ++ a.extract 0 i ++ out.reverse) := by
  have := h.firstB sa sb fun p hp q hq => by
    obtain ⟨x, hx, hx2, e1⟩ := mem_take_kat hp
    obtain ⟨y, _, hy2, e2⟩ := mem_drop_kat (a := a) (i := 0) (by simpa using hq)
    obtain rfl : x = 0 := by (first | lia | omega)
    have := srt_kat_le sa (x := 0) (y := y) (by (first | lia | omega)) hy2
    (first | lia | omega)
  unfold FN
  rw [Array.toList_append, Array.toList_append, ext_low, ext_low, Array.toList_reverse]
  exact this
end
section
variable {prog : Program} {w : World} {A : Around} {E : Value → Shared → Prop} {s : Shared}
set_option hygiene false in
/-- the last piece: one of a, and on -/
local macro_rules | `(tactic| walk_at "mh_end") => `(tactic| (
  refine wpS_bind (wpS_elem hi3' ?_)
  have m5 := mh_popA sa sb m4 hi3 hia3 hi3' hj4 hjb4 ca4
  by_cases d5 : i3 - 1 = 0
  · rw [if_pos (by simpa using d5)]
    exact wpS_pure ⟨sm3, .inl ⟨_, rfl, fh_done sb m5 d5⟩⟩
  · rw [if_neg (by simpa using d5)]
    split
    · exact wpS_pure ⟨sm3, .inr ⟨_, _, _, _, _, _, rfl, m5, by (first | lia | omega), by (first | lia | omega), by (first | lia | omega), by (first | lia | omega), by (first | lia | omega)⟩⟩
    · exact wpS_pure ⟨sm3, _, _, _, _, _, _, rfl, m5, by (first | lia | omega), by (first | lia | omega), by (first | lia | omega), by (first | lia | omega), by (first | lia | omega)⟩))
set_option hygiene false in
/-- one of b, then those of b behind the next of a -/
local macro_rules | `(tactic| walk_at "mh_mid") => `(tactic| (
  refine wpS_bind (wpS_elem hj2' ?_)
  have m3 := mh_popB sa sb mg3 (by (first | lia | omega)) hjb2 hj2' hi3 hia3 cb3
  by_cases d3 : j2 - 1 = 1
  · rw [if_pos (by simpa using d3)]
    exact wpS_pure ⟨sm3, .inl ⟨_, rfl, fh_first sa sb h0 m3 d3⟩⟩
  rw [if_neg (by simpa using d3)]
  have hi3' : i3 - 1 < a.size := by (first | lia | omega)
  refine wpS_bind (wpS_elem hi3' ?_)
  refine wpS_bind (wpS_gallop (sm3.1.trans hk) (by (first | lia | omega)) (by (first | lia | omega)) (ia _ hi3') ib (fun x y h1 h2 => by rw [Nat.zero_add, Nat.zero_add]; exact srt_kat sb h1 (by (first | lia | omega))) (fun x hx => by rw [← kat_at hi3', Nat.zero_add]; exact (ne _ _ hi3' (by (first | lia | omega))).symm) fun k' k1 k2 k3 => ?_)
  dsimp only
  rw [← kat_at hi3'] at k2 k3
  simp only [Nat.zero_add] at k2 k3
  have m4 := mh_blockB (k := k') sa sb m3 hi3 hia3 k1 fun x h1 h2 _ => k3 x h1 h2
  by_cases e3 : j2 - 1 - k' > 0
  · rw [if_pos e3]
    by_cases d4 : k' = 1
    · rw [if_pos (by simpa using d4)]
      exact wpS_pure ⟨sm3, .inl ⟨_, rfl, fh_first sa sb h0 m4 d4⟩⟩
    rw [if_neg (by simpa using d4)]
    by_cases d6 : k' = 0
    · rw [if_pos (by simpa using d6)]
      exact wpS_pure ⟨sm3, .inl ⟨_, rfl, fh_doneB sa m4 d6⟩⟩
    rw [if_neg (by simpa using d6)]
    have hj4 : 1 ≤ k' := by (first | lia | omega)
    have hjb4 : k' ≤ b.size := by (first | lia | omega)
    have ca4 := k2 (k' - 1) (by (first | lia | omega))
    walk_at "mh_end"
  · rw [if_neg e3]
    have ek : k' = j2 - 1 := by (first | lia | omega)
    have m4 := m3
    have hj4 : 1 ≤ j2 - 1 := by (first | lia | omega)
    have hjb4 : j2 - 1 ≤ b.size := by (first | lia | omega)
    have ca4 := k2 (j2 - 1 - 1) (by (first | lia | omega))
    walk_at "mh_end"))
set_option hygiene false in
/-- the begin: those of a behind the next of b -/
local macro_rules | `(tactic| walk_at "mh_go") => `(tactic| (
  refine wpS_bind (wpS_modify ?_)
  refine wpS_bind (wpS_elem hj2' ?_)
  refine wpS_bind (wpS_gallop (sm3.1.trans hk) (by (first | lia | omega)) (by (first | lia | omega)) (ib _ hj2') ia (fun x y h1 h2 => by rw [Nat.zero_add, Nat.zero_add]; exact srt_kat sa h1 (by (first | lia | omega))) (fun x hx => by rw [← kat_at hj2', Nat.zero_add]; exact ne _ _ (by (first | lia | omega)) hj2') fun k k1 k2 k3 => ?_)
  dsimp only
  rw [← kat_at hj2'] at k2 k3
  simp only [Nat.zero_add] at k2 k3
  have mgk := mh_blockA (k := k) sa sb mg2 (by (first | lia | omega)) hjb2 k1 fun x h1 h2 _ => k3 x h1 h2
  by_cases e2 : i2 - k > 0
  · rw [if_pos e2]
    by_cases d1 : k = 0
    · rw [if_pos (by simpa using d1)]
      exact wpS_pure ⟨sm3, .inl ⟨_, rfl, fh_done sb mgk d1⟩⟩
    rw [if_neg (by simpa using d1)]
    have cb3 := k2 (k - 1) (by (first | lia | omega))
    have hi3 : 1 ≤ k := by (first | lia | omega)
    have hia3 : k ≤ a.size := by (first | lia | omega)
    have mg3 := mgk
    generalize out2 ++ (a.extract k i2).reverse = out3 at mg3 ⊢
    generalize i2 - k = kk at ⊢ e2
    generalize hi3e : k = i3 at mg3 hi3 hia3 cb3 k1 ⊢
    walk_at "mh_mid"
  · rw [if_neg e2]
    obtain rfl : k = i2 := by (first | lia | omega)
    have cb3 := k2 (k - 1) (by (first | lia | omega))
    have hi3 := hi2
    have hia3 := hia2
    have mg3 := mg2
    generalize k - k = kk at ⊢ e2
    generalize hi3e : k = i3 at mg3 hi3 hia3 cb3 k1 ⊢
    walk_at "mh_mid"))
theorem wpS_mergeHi {a b : Array Keyed} {st : SortSt} {Q : Array Keyed → SortSt → Prop} (hk : kindOf st = oneType') (ia : ∀ i (h : i < a.size), IK a[i]) (ib : ∀ i (h : i < b.size), IK b[i]) (sa : Srt a.toList) (sb : Srt b.toList)
    (a1 : 1 ≤ a.size) (b1 : 1 ≤ b.size) (h0 : kat b 0 < kat a 0) (hl : ∀ j, j < b.size → kat b j < kat a (a.size - 1)) (ne : ∀ i j, i < a.size → j < b.size → kat a i ≠ kat b j)
    (h : ∀ out st', Sm st st' → FN a b out → Q out st') : wpS (model prog w) A E s (mergeHi' a b) Q st := by
  refine wpS_bind (wpS_lift (wpAny_rule ⟨rfl, ?_⟩))
  have a2 : a.size - 1 < a.size := by (first | lia | omega)
  refine wpS_bind (wpS_elem a2 ?_)
  have m0 : MH2 a b #[a[a.size - 1]] (a.size - 1) b.size := by
    have hn : MH2 a b #[] (a.size - 1 + 1) b.size := by
      rw [Nat.sub_add_cancel a1]
      have := Mh.nil (A := a.toList) (B := b.toList)
      show Mh _ _ _ _ _
      simpa using this
    exact mh_pushA sa sb hn a2 b1 (Nat.le_refl _) (hl _ (by (first | lia | omega)))
  by_cases c1 : a.size - 1 = 0
  · rw [if_pos (by simpa using c1)]
    exact wpS_pure (h _ _ (Sm.refl _) (fh_done sb m0 c1))
  rw [if_neg (by simpa using c1)]
  by_cases c2 : b.size = 1
  · rw [if_pos (by simpa using c2)]
    exact wpS_pure (h _ _ (Sm.refl _) (fh_first sa sb h0 m0 c2))
  rw [if_neg (by simpa using c2)]
  refine wpS_bind (wpS_get ?_)
  refine wpS_bind (wpS_mono (wpS_forRange (I := fun x c st' => Sm st st' ∧ ∃ out i j g, c = (none, i, j, out, g) ∧ MH2 a b out i j ∧ 1 ≤ i ∧ i ≤ a.size ∧ 2 ≤ j ∧ j ≤ b.size ∧ x + i + j ≤ a.size + b.size)
    (Q := fun c st' => Sm st st' ∧ ∃ r, c.1 = some r ∧ FN a b r) ?stp ?fin ⟨Sm.refl _, _, _, _, _, rfl, m0, by (first | lia | omega), by (first | lia | omega), by (first | lia | omega), by (first | lia | omega), by (first | lia | omega)⟩) ?pos)
  case pos =>
    rintro ⟨c, c'⟩ st' ⟨sm, r, hc, fr⟩
    dsimp only at hc ⊢
    subst hc
    exact wpS_pure (h r st' sm fr)
  case fin =>
    rintro c st' ⟨sm, out, i, j, g, rfl, mg, hi, hia, hj, hjb, hx⟩
    (first | lia | omega)
  case stp =>
    rintro x0 c st' _ hx0 ⟨sm, out, i, j, g, rfl, mg, hi, hia, hj, hjb, hx⟩
    dsimp only
    refine wpS_bind (wpS_mono (wpS_forRange (I := fun x c st'' => st'' = st' ∧ ∃ out' i' j' ac bc, c = (none, i', j', out', ac, bc) ∧ MH2 a b out' i' j' ∧ 1 ≤ i' ∧ i' ≤ a.size ∧ 2 ≤ j' ∧ j' ≤ b.size ∧ i' + j' + x ≤ i + j)
      (Q := fun c st'' => st'' = st' ∧ ((∃ r, c.1 = some r ∧ FN a b r) ∨ ∃ out' i' j' ac bc, c = (none, i', j', out', ac, bc) ∧ MH2 a b out' i' j' ∧ 1 ≤ i' ∧ i' ≤ a.size ∧ 2 ≤ j' ∧ j' ≤ b.size ∧ i' + j' < i + j)) ?st1 ?fi1 ⟨rfl, _, _, _, _, _, rfl, mg, hi, hia, hj, hjb, by (first | lia | omega)⟩) ?po1)
    case fi1 =>
      rintro c st'' ⟨rfl, out', i', j', ac, bc, rfl, mg', hi', hia', hj', hjb', hx'⟩
      (first | lia | omega)
    case st1 =>
      rintro x c st'' _ hx' ⟨rfl, out', i', j', ac, bc, rfl, mg', hi', hia', hj', hjb', hx'⟩
      dsimp only
      have pa : i' - 1 < a.size := by (first | lia | omega)
      have pb : j' - 1 < b.size := by (first | lia | omega)
      refine wpS_bind (wpS_elem pb (wpS_bind (wpS_elem pa (wpS_bind (wpS_lt (sm.1.trans hk) (ib _ pb) (ia _ pa) ?_)))))
      dsimp only
      rw [← kat_at pb, ← kat_at pa]
      by_cases cb : kat b (j' - 1) < kat a (i' - 1)
      · rw [decide_eq_true cb, if_pos rfl]
        refine wpS_bind (wpS_elem pa ?_)
        have m1 := mh_popA sa sb mg' hi' hia' pa (by (first | lia | omega)) hjb' cb
        by_cases d1 : i' - 1 = 0
        · rw [if_pos (by simpa using d1)]
          exact wpS_pure ⟨rfl, .inl ⟨_, rfl, fh_done sb m1 d1⟩⟩
        · rw [if_neg (by simpa using d1)]
          split
          · exact wpS_pure ⟨rfl, .inr ⟨_, _, _, _, _, rfl, m1, by (first | lia | omega), by (first | lia | omega), by (first | lia | omega), by (first | lia | omega), by (first | lia | omega)⟩⟩
          · exact wpS_pure ⟨rfl, _, _, _, _, _, rfl, m1, by (first | lia | omega), by (first | lia | omega), by (first | lia | omega), by (first | lia | omega), by (first | lia | omega)⟩
      · rw [decide_eq_false cb, if_neg (by decide)]
        have nab := ne (i' - 1) (j' - 1) pa pb
        have ca : kat a (i' - 1) < kat b (j' - 1) := by (first | lia | omega)
        refine wpS_bind (wpS_elem pb ?_)
        have m1 := mh_popB sa sb mg' (by (first | lia | omega)) hjb' pb hi' hia' ca
        by_cases d1 : j' - 1 = 1
        · rw [if_pos (by simpa using d1)]
          exact wpS_pure ⟨rfl, .inl ⟨_, rfl, fh_first sa sb h0 m1 d1⟩⟩
        · rw [if_neg (by simpa using d1)]
          split
          · exact wpS_pure ⟨rfl, .inr ⟨_, _, _, _, _, rfl, m1, by (first | lia | omega), by (first | lia | omega), by (first | lia | omega), by (first | lia | omega), by (first | lia | omega)⟩⟩
          · exact wpS_pure ⟨rfl, _, _, _, _, _, rfl, m1, by (first | lia | omega), by (first | lia | omega), by (first | lia | omega), by (first | lia | omega), by (first | lia | omega)⟩
    case po1 =>
      rintro ⟨c, c'⟩ st'' ⟨rfl, (⟨r, hc, fr⟩ | ⟨out', i', j', ac, bc, hc, mg', hi', hia', hj', hjb', hx'⟩)⟩
      · dsimp only at hc ⊢
        subst hc
        exact wpS_pure ⟨sm, r, rfl, fr⟩
      · rw [Prod.mk.injEq] at hc
        obtain ⟨rfl, rfl⟩ := hc
        dsimp only
        refine wpS_bind (wpS_lift (wpAny_rule ⟨rfl, ?_⟩))
        refine wpS_bind (wpS_mono (wpS_forRange (I := fun x c st3 => Sm st st3 ∧ ∃ out2 i2 j2 g2 ac2 bc2, c = (none, i2, j2, out2, g2, ac2, bc2) ∧ MH2 a b out2 i2 j2 ∧ 1 ≤ i2 ∧ i2 ≤ a.size ∧ 2 ≤ j2 ∧ j2 ≤ b.size ∧ i2 + j2 + x ≤ i' + j')
          (Q := fun c st3 => Sm st st3 ∧ ((∃ r, c.1 = some r ∧ FN a b r) ∨ ∃ out2 i2 j2 g2 ac2 bc2, c = (none, i2, j2, out2, g2, ac2, bc2) ∧ MH2 a b out2 i2 j2 ∧ 1 ≤ i2 ∧ i2 ≤ a.size ∧ 2 ≤ j2 ∧ j2 ≤ b.size ∧ i2 + j2 ≤ i' + j')) ?st2 ?fi2 ⟨sm, _, _, _, _, _, _, rfl, mg', hi', hia', hj', hjb', by (first | lia | omega)⟩) ?po2)
        case fi2 =>
          rintro c st3 ⟨sm2, out2, i2, j2, g2, ac2, bc2, rfl, mg2, hi2, hia2, hj2, hjb2, hx2⟩
          (first | lia | omega)
        case po2 =>
          rintro ⟨c, c'⟩ st3 ⟨sm2, (⟨r, hc, fr⟩ | ⟨out2, i2, j2, g2, ac2, bc2, hc, mg2, hi2, hia2, hj2, hjb2, hx2⟩)⟩
          · dsimp only at hc ⊢
            subst hc
            exact wpS_pure ⟨sm2, r, rfl, fr⟩
          · rw [Prod.mk.injEq] at hc
            obtain ⟨rfl, rfl⟩ := hc
            dsimp only
            exact wpS_bind (wpS_modify (wpS_pure ⟨sm2.trans ⟨rfl, rfl, rfl, rfl⟩, _, _, _, _, rfl, mg2, hi2, hia2, hj2, hjb2, by (first | lia | omega)⟩))
        case st2 =>
          rintro x c st3 _ hx2 ⟨sm2, out2, i2, j2, g2, ac2, bc2, rfl, mg2, hi2, hia2, hj2, hjb2, hx3⟩
          dsimp only
          have hj2' : j2 - 1 < b.size := by (first | lia | omega)
          have sm3 : ∀ n, Sm st (SortSt.mk' (kindOf st3) (arrOf st3) (pendingOf st3) n (failedOf st3)) := fun n => sm2.trans ⟨rfl, rfl, rfl, rfl⟩
          by_cases gg : g2 > 1
          · rw [if_pos gg]
            have sm3 := sm3 (g2 - 1)
            walk_at "mh_go"
          · rw [if_neg gg]
            have sm3 := sm3 g2
            walk_at "mh_go"
end
end SD

set_option Elab.async false
set_option linter.all false
set_option maxRecDepth 100000
/-! the sort's runs, begun anywhere; all keys unlike -/
set_option maxHeartbeats 4000000
namespace SD
open PySem PyProof.Rows
theorem kat_K (a : Array Keyed) (i : Nat) : K a i = kat a i := by
  unfold K kat kv
  cases e : a[i]? with
  | none => simp [Array.getD_eq_getD_getElem?, e, numOf]
  | some p => simp [Array.getD_eq_getD_getElem?, e]
/-- the same items, all but the piece from lo on, so many, at their places -/
structure Sg (lo n : Nat) (a a' : Array Keyed) : Prop where
  pm : a'.Perm a
  out : ∀ i, (i < lo ∨ lo + n ≤ i) → a'[i]? = a[i]?
theorem Sg.refl (lo n : Nat) (a : Array Keyed) : Sg lo n a a := ⟨Array.Perm.refl _, fun _ _ => rfl⟩
theorem Sg.trans {lo n : Nat} {a b c : Array Keyed} (h : Sg lo n a b) (h2 : Sg lo n b c) : Sg lo n a c := ⟨h2.pm.trans h.pm, fun i hi => (h2.out i hi).trans (h.out i hi)⟩
theorem Sg.mir {lo n m : Nat} {a : Array Keyed} (hm : m ≤ n) (hs : lo + n ≤ a.size) : Sg lo n a (mirror a lo (lo + m) ((lo + m - lo) / 2)) := ⟨mirror_perm _ _ _ _, fun i hi => by
  rw [getElem?_mirror_all (by (first | lia | omega))]
  rw [if_neg (by (first | lia | omega))]⟩
theorem Sg.bub {lo n k l : Nat} {a : Array Keyed} (hk : k < n) (hl : l ≤ k) (hs : lo + n ≤ a.size) : Sg lo n a (bubble a (lo + k) (lo + k - (lo + l))) := ⟨bubble_perm _ _ _, fun i hi => by
  rw [getElem?_bubble (by (first | lia | omega)) _ (by (first | lia | omega)), if_neg (by (first | lia | omega)), if_neg (by (first | lia | omega))]⟩
/-- all keys ints, and unlike -/
structure Kd (a : Array Keyed) : Prop where
  ik : ∀ i (h : i < a.size), IK a[i]
  nd : ∀ i j, i < j → j < a.size → kat a i ≠ kat a j
theorem Kd.of {a : Array Keyed} (h1 : ∀ p ∈ a.toList, IK p) (h2 : (a.toList.map kv).Nodup) : Kd a := ⟨fun i h => h1 _ (by simp), fun i j hij hj => by
  have := List.pairwise_iff_getElem.mp h2 i j (by simp; (first | lia | omega)) (by simpa using hj) hij
  rw [kat_at (by (first | lia | omega)), kat_at hj]
  simpa using this⟩
theorem Kd.perm {a b : Array Keyed} (h : Kd a) (p : b.Perm a) : Kd b := by
  have pl := Array.perm_iff_toList_perm.mp p
  refine Kd.of (fun q hq => ?_) ?_
  · have := pl.mem_iff.mp hq
    obtain ⟨i, hi, rfl⟩ := List.getElem_of_mem this
    have hi' : i < a.size := by simpa using hi
    exact h.ik i hi'
  · refine ((pl.map kv).nodup_iff).mpr (List.pairwise_iff_getElem.mpr fun i j hi hj hij => ?_)
    have hj' : j < a.size := by simpa using hj
    have := h.nd i j hij hj'
    rw [kat_at (by (first | lia | omega)), kat_at hj'] at this
    simpa using this
/-- rising from lo on, m of them -/
noncomputable def Ri (a : Array Keyed) (lo m : Nat) : Prop := ∀ i j, i < j → j < m → kat a (lo + i) < kat a (lo + j)
noncomputable def Fa (a : Array Keyed) (lo m : Nat) : Prop := ∀ i j, i < j → j < m → kat a (lo + j) < kat a (lo + i)
theorem ri_succ {a : Array Keyed} {lo m : Nat} (h1 : 1 ≤ m) (h : Ri a lo m) (h2 : kat a (lo + (m - 1)) < kat a (lo + m)) : Ri a lo (m + 1) := fun i j hij hj => by
  by_cases e : j = m
  · subst e
    by_cases e' : i = j - 1
    · subst e'; exact h2
    · have := h i (j - 1) (by (first | lia | omega)) (by (first | lia | omega)); (first | lia | omega)
  · exact h i j hij (by (first | lia | omega))
theorem fa_succ {a : Array Keyed} {lo m : Nat} (h1 : 1 ≤ m) (h : Fa a lo m) (h2 : kat a (lo + m) < kat a (lo + (m - 1))) : Fa a lo (m + 1) := fun i j hij hj => by
  by_cases e : j = m
  · subst e
    by_cases e' : i = j - 1
    · subst e'; exact h2
    · have := h i (j - 1) (by (first | lia | omega)) (by (first | lia | omega)); (first | lia | omega)
  · exact h i j hij (by (first | lia | omega))
theorem fa_mir {a : Array Keyed} {lo m : Nat} (hs : lo + m ≤ a.size) (h : Fa a lo m) : Ri (mirror a lo (lo + m) ((lo + m - lo) / 2)) lo m := fun i j hij hj => by
  rw [← kat_K, ← kat_K, K_mirror hs, K_mirror hs, if_pos ⟨by (first | lia | omega), by (first | lia | omega)⟩, if_pos ⟨by (first | lia | omega), by (first | lia | omega)⟩, kat_K, kat_K]
  have := h (m - 1 - j) (m - 1 - i) (by (first | lia | omega)) (by (first | lia | omega))
  rw [show lo + (lo + m) - 1 - (lo + i) = lo + (m - 1 - i) by (first | lia | omega), show lo + (lo + m) - 1 - (lo + j) = lo + (m - 1 - j) by (first | lia | omega)]
  exact this
section
variable {prog : Program} {w : World} {A : Around} {E : Value → Shared → Prop} {s : Shared}
theorem wpS_ltG {st : SortSt} {i j : Nat} {Q : Option Bool → SortSt → Prop} (hk : kindOf st = oneType') (kd : Kd (arrOf st)) (hi : i < (arrOf st).size) (hj : j < (arrOf st).size)
    (h : Q (some (decide (kat (arrOf st) i < kat (arrOf st) j))) st) : wpS (model prog w) A E s (ltAt' i j) Q st := by
  rw [ltAt'_eq]
  refine wpS_bind (wpS_get (wpS_bind (wpS_elem hi (wpS_bind (wpS_elem hj (wpS_lt hk (kd.ik _ hi) (kd.ik _ hj) ?_))))))
  rw [← kat_at hi, ← kat_at hj]
  exact h
theorem wpS_countG {st : SortSt} {lo n : Nat} {Q : Option Nat → SortSt → Prop} (hk : kindOf st = oneType') (kd : Kd (arrOf st)) (hn : 1 ≤ n) (hs : lo + n ≤ (arrOf st).size)
    (h : ∀ m a', Sg lo n (arrOf st) a' → 1 ≤ m → m ≤ n → Ri a' lo m → Q (some m) (setArr st a')) : wpS (model prog w) A E s (countRun' lo n) Q st := by
  rw [countRun'_eq]
  dsimp only
  refine wpS_bind (wpS_mono (wpS_forRange (I := fun x c st' => st' = st ∧ c = (none, x) ∧ Ri (arrOf st) lo x)
    (Q := fun c st' => st' = st ∧ ∃ m, c = (none, m) ∧ 1 ≤ m ∧ m ≤ n ∧ Ri (arrOf st) lo m ∧ (m = n ∨ kat (arrOf st) (lo + m) < kat (arrOf st) (lo + (m - 1)))) ?s1 ?f1 ⟨rfl, rfl, (fun i j hij hj => by (first | lia | omega))⟩) ?p1)
  case f1 =>
    rintro c st' ⟨e, rfl, r⟩
    subst st'
    rw [show max 1 n = n by (first | lia | omega)] at r ⊢
    exact ⟨rfl, n, rfl, by (first | lia | omega), Nat.le_refl _, r, .inl rfl⟩
  case s1 =>
    rintro x c st' hx1 hx2 ⟨e, rfl, r⟩
    subst st'
    dsimp only
    refine wpS_bind (wpS_ltG hk kd (by show lo + x < ((arrOf st)).size; have := hs; (first | lia | omega)) (by show lo + x - 1 < ((arrOf st)).size; have := hs; (first | lia | omega)) ?_)
    dsimp only
    rw [show lo + x - 1 = lo + (x - 1) by (first | lia | omega)]
    by_cases c : kat (arrOf st) (lo + x) < kat (arrOf st) (lo + (x - 1))
    · rw [show decide (kat (arrOf st) (lo + x) < kat (arrOf st) (lo + (x - 1))) = true from decide_eq_true c, if_pos rfl]
      exact wpS_pure ⟨rfl, x, rfl, by (first | lia | omega), by (first | lia | omega), r, .inr c⟩
    · rw [show decide (kat (arrOf st) (lo + x) < kat (arrOf st) (lo + (x - 1))) = false from decide_eq_false c, if_neg (by decide)]
      have ne := kd.nd (lo + (x - 1)) (lo + x) (by (first | lia | omega)) (by show lo + x < ((arrOf st)).size; have := hs; (first | lia | omega))
      refine wpS_pure ⟨rfl, rfl, ri_succ (by (first | lia | omega)) r ?_⟩
      have ne : kat (arrOf st) (lo + (x - 1)) ≠ kat (arrOf st) (lo + x) := ne
      (first | lia | omega)
  case p1 =>
    rintro c st' ⟨e, m, rfl, h1, h2, r, hor⟩
    subst st'
    dsimp only
    by_cases e1 : m = n
    · rw [if_pos (by simpa using e1)]
      exact wpS_pure (h m _ (Sg.refl _ _ _) h1 h2 r)
    rw [if_neg (by simpa using e1)]
    have hlt := hor.resolve_left e1
    by_cases e2 : m > 1
    · rw [if_pos e2]
      refine wpS_bind (wpS_ltG hk kd (by (first | lia | omega)) (by (first | lia | omega)) ?_)
      dsimp only
      have up := r 0 (m - 1) (by (first | lia | omega)) (by (first | lia | omega))
      rw [show lo + m - 1 = lo + (m - 1) by (first | lia | omega)]
      rw [Nat.add_zero] at up
      rw [decide_eq_true up, if_pos rfl]
      exact wpS_pure (h m _ (Sg.refl _ _ _) h1 h2 r)
    rw [if_neg e2]
    obtain rfl : m = 1 := by (first | lia | omega)
    refine wpS_bind (wpS_lift (wpAny_rule ⟨rfl, ?_⟩))
    have fa2 : Fa (arrOf st) lo (1 + 1) := fun i j hij hj => by
      obtain rfl : i = 0 := by (first | lia | omega)
      obtain rfl : j = 1 := by (first | lia | omega)
      exact hlt
    refine wpS_bind (wpS_mono (wpS_forRange (I := fun x c st'' => st'' = st ∧ c = (none, x, 0) ∧ Fa (arrOf st) lo x)
      (Q := fun c st'' => st'' = st ∧ ∃ m, c = (none, m, 0) ∧ 2 ≤ m ∧ m ≤ n ∧ Fa (arrOf st) lo m) ?s2 ?f2 ⟨rfl, rfl, fa2⟩) ?p2)
    case f2 =>
      rintro c st'' ⟨e, rfl, r⟩
      subst st''
      rw [show max (1 + 1) n = n by (first | lia | omega)] at r ⊢
      exact ⟨rfl, n, rfl, by (first | lia | omega), Nat.le_refl _, r⟩
    case s2 =>
      rintro x c st'' hx1 hx2 ⟨e, rfl, r⟩
      subst st''
      dsimp only
      refine wpS_bind (wpS_ltG hk kd (by (first | lia | omega)) (by (first | lia | omega)) ?_)
      dsimp only
      rw [show lo + x - 1 = lo + (x - 1) by (first | lia | omega)]
      by_cases c : kat (arrOf st) (lo + x) < kat (arrOf st) (lo + (x - 1))
      · rw [decide_eq_true c, if_pos rfl, if_neg (by (first | lia | omega))]
        exact wpS_pure ⟨rfl, rfl, fa_succ (by (first | lia | omega)) r c⟩
      · rw [decide_eq_false c, if_neg (by decide)]
        have ne := kd.nd (lo + (x - 1)) (lo + x) (by (first | lia | omega)) (by (first | lia | omega))
        have c2 : kat (arrOf st) (lo + (x - 1)) < kat (arrOf st) (lo + x) := by (first | lia | omega)
        refine wpS_bind (wpS_ltG hk kd (by (first | lia | omega)) (by (first | lia | omega)) ?_)
        dsimp only
        rw [decide_eq_true c2, if_pos rfl]
        exact wpS_pure ⟨rfl, x, rfl, by (first | lia | omega), by (first | lia | omega), r⟩
    case p2 =>
      rintro c st'' ⟨e, m, rfl, q1', q2', fa⟩
      subst st''
      dsimp only
      rw [if_neg (by (first | lia | omega))]
      refine wpS_bind (wpS_modify ?_)
      have r2 := fa_mir (by (first | lia | omega) : lo + m ≤ (arrOf st).size) fa
      have kd2 := kd.perm (mirror_perm (arrOf st) lo (lo + m) ((lo + m - lo) / 2))
      have hs2 : lo + n ≤ (mirror (arrOf st) lo (lo + m) ((lo + m - lo) / 2)).size := by rw [mirror_size]; exact hs
      have sg := Sg.mir (a := arrOf st) q2' hs
      show wpS _ _ _ _ _ _ (setArr st (mirror (arrOf st) lo (lo + m) ((lo + m - lo) / 2)))
      generalize mirror (arrOf st) lo (lo + m) ((lo + m - lo) / 2) = a2 at r2 kd2 hs2 sg ⊢
      refine wpS_bind (wpS_mono (wpS_forRange (I := fun x c st' => st' = (setArr st a2) ∧ c = (none, x) ∧ Ri a2 lo x)
        (Q := fun c st' => st' = (setArr st a2) ∧ ∃ q, c = (none, q) ∧ m ≤ q ∧ q ≤ n ∧ Ri a2 lo q ∧ (q = n ∨ kat a2 (lo + q) < kat a2 (lo + (q - 1)))) ?s3 ?f3 ⟨rfl, rfl, r2⟩) ?p3)
      case f3 =>
        rintro c st' ⟨rfl, rfl, r⟩
        rw [show max m n = n by (first | lia | omega)] at r ⊢
        exact ⟨rfl, n, rfl, by (first | lia | omega), Nat.le_refl _, r, .inl rfl⟩
      case s3 =>
        rintro x c st' hx1 hx2 ⟨rfl, rfl, r⟩
        dsimp only
        refine wpS_bind (wpS_ltG hk kd2 (by show lo + x < (a2).size; have := hs2; (first | lia | omega)) (by show lo + x - 1 < (a2).size; have := hs2; (first | lia | omega)) ?_)
        dsimp only
        rw [show lo + x - 1 = lo + (x - 1) by (first | lia | omega)]
        by_cases c : kat a2 (lo + x) < kat a2 (lo + (x - 1))
        · rw [show decide (kat a2 (lo + x) < kat a2 (lo + (x - 1))) = true from decide_eq_true c, if_pos rfl]
          exact wpS_pure ⟨rfl, x, rfl, by (first | lia | omega), by (first | lia | omega), r, .inr c⟩
        · rw [show decide (kat a2 (lo + x) < kat a2 (lo + (x - 1))) = false from decide_eq_false c, if_neg (by decide)]
          have ne := kd2.nd (lo + (x - 1)) (lo + x) (by (first | lia | omega)) (by show lo + x < (a2).size; have := hs2; (first | lia | omega))
          refine wpS_pure ⟨rfl, rfl, ri_succ (by (first | lia | omega)) r ?_⟩
          have ne : kat a2 (lo + (x - 1)) ≠ kat a2 (lo + x) := ne
          (first | lia | omega)
      case p3 =>
        rintro c st3 ⟨rfl, m2, rfl, q1, q2, q3, _⟩
        exact wpS_pure (h m2 a2 sg (by (first | lia | omega)) q2 q3)
end
end SD

set_option Elab.async false
set_option linter.all false
set_option maxRecDepth 100000
/-! the sort's insertion, begun anywhere; all keys unlike -/
set_option maxHeartbeats 4000000
namespace SD
open PySem PyProof.Rows
theorem bub_kat {a : Array Keyed} {lo k l : Nat} (hk : lo + k < a.size) (hl : l ≤ k) (i : Nat) : kat (bubble a (lo + k) (lo + k - (lo + l))) (lo + i) = if i = l then kat a (lo + k) else if l < i ∧ i ≤ k then kat a (lo + (i - 1)) else kat a (lo + i) := by
  rw [← kat_K, K_bubble hk (by (first | lia | omega))]
  by_cases h1 : i = l
  · rw [if_pos (by (first | lia | omega)), if_pos h1, kat_K]
  · rw [if_neg (by (first | lia | omega)), if_neg h1]
    by_cases h2 : l < i ∧ i ≤ k
    · rw [if_pos (by (first | lia | omega)), if_pos h2, kat_K, show lo + i - 1 = lo + (i - 1) by (first | lia | omega)]
    · rw [if_neg (by (first | lia | omega)), if_neg h2, kat_K]
theorem bub_ri {a : Array Keyed} {lo k l : Nat} (hk : lo + k < a.size) (hl : l ≤ k) (u : Ri a lo k) (h1 : ∀ i, i < l → kat a (lo + i) < kat a (lo + k)) (h2 : ∀ i, l ≤ i → i < k → kat a (lo + k) < kat a (lo + i)) : Ri (bubble a (lo + k) (lo + k - (lo + l))) lo (k + 1) := fun i j hij hj => by
  rw [bub_kat hk hl, bub_kat hk hl]
  by_cases e1 : i = l
  · rw [if_pos e1, if_neg (by (first | lia | omega)), if_pos ⟨by (first | lia | omega), by (first | lia | omega)⟩]
    exact h2 _ (by (first | lia | omega)) (by (first | lia | omega))
  · rw [if_neg e1]
    by_cases e2 : l < i
    · rw [if_pos ⟨e2, by (first | lia | omega)⟩, if_neg (by (first | lia | omega)), if_pos ⟨by (first | lia | omega), by (first | lia | omega)⟩]
      exact u _ _ (by (first | lia | omega)) (by (first | lia | omega))
    · rw [if_neg (by (first | lia | omega))]
      by_cases e3 : j = l
      · rw [if_pos e3]; exact h1 i (by (first | lia | omega))
      · rw [if_neg e3]
        by_cases e4 : l < j
        · rw [if_pos ⟨e4, by (first | lia | omega)⟩]
          exact u _ _ (by (first | lia | omega)) (by (first | lia | omega))
        · rw [if_neg (by (first | lia | omega))]
          exact u _ _ hij (by (first | lia | omega))
section
variable {prog : Program} {w : World} {A : Around} {E : Value → Shared → Prop} {s : Shared}
theorem wpS_binG {st : SortSt} {lo n ok : Nat} {Q : Bool → SortSt → Prop} (hk : kindOf st = oneType') (kd : Kd (arrOf st)) (h1 : 1 ≤ ok) (hok : ok ≤ n) (hs : lo + n ≤ (arrOf st).size) (r : Ri (arrOf st) lo ok)
    (h : ∀ a', Sg lo n (arrOf st) a' → Ri a' lo n → Q true (setArr st a')) : wpS (model prog w) A E s (binarySort' lo n ok) Q st := by
  rw [binarySort'_eq]
  dsimp only
  refine wpS_bind (wpS_mono (wpS_forRange (I := fun k c st' => c = (none, ()) ∧ ∃ a', st' = setArr st a' ∧ Sg lo n (arrOf st) a' ∧ Ri a' lo k)
    (Q := fun c st' => c = (none, ()) ∧ ∃ a', st' = setArr st a' ∧ Sg lo n (arrOf st) a' ∧ Ri a' lo n) ?s1 ?f1 ⟨rfl, arrOf st, rfl, Sg.refl _ _ _, by rw [show max ok 1 = ok by (first | lia | omega)]; exact r⟩) ?p1)
  case f1 =>
    rintro c st' ⟨rfl, a', rfl, sg, r'⟩
    rw [show max (max ok 1) n = n by (first | lia | omega)] at r'
    exact ⟨rfl, a', rfl, sg, r'⟩
  case p1 =>
    rintro c st' ⟨rfl, a', rfl, sg, r'⟩
    exact wpS_pure (h a' sg r')
  case s1 =>
    rintro k c st' hk1 hk2 ⟨rfl, a', rfl, sg, r'⟩
    have kd' := kd.perm sg.pm
    have hs' : lo + n ≤ a'.size := by rw [sg.pm.size_eq]; exact hs
    refine wpS_bind (wpS_mono (wpS_forRange (I := fun x c st2 => st2 = setArr st a' ∧ ∃ l q, c = (none, l, q) ∧ l ≤ q ∧ q ≤ k ∧ q - l ≤ k - x ∧ (∀ i, i < l → kat a' (lo + i) < kat a' (lo + k)) ∧ (∀ i, q ≤ i → i < k → kat a' (lo + k) < kat a' (lo + i)))
      (Q := fun c st2 => st2 = setArr st a' ∧ ∃ l q, c = (none, l, q) ∧ l ≤ k ∧ (∀ i, i < l → kat a' (lo + i) < kat a' (lo + k)) ∧ (∀ i, l ≤ i → i < k → kat a' (lo + k) < kat a' (lo + i))) ?s2 ?f2 ⟨rfl, 0, k, rfl, by (first | lia | omega), by (first | lia | omega), by (first | lia | omega), fun i hi => by (first | lia | omega), fun i h1 h2 => by (first | lia | omega)⟩) ?p2)
    case f2 =>
      rintro c st2 ⟨rfl, l, q, rfl, b1, b2, b3, b4, b5⟩
      have : l = q := by (first | lia | omega)
      subst this
      exact ⟨rfl, l, l, rfl, b2, b4, b5⟩
    case s2 =>
      rintro x c st2 _ hx ⟨rfl, l, q, rfl, b1, b2, b3, b4, b5⟩
      dsimp only
      by_cases g : l ≥ q
      · rw [if_pos g]
        have : l = q := by (first | lia | omega)
        subst this
        exact wpS_pure ⟨rfl, l, l, rfl, b2, b4, b5⟩
      · rw [if_neg g]
        refine wpS_bind (wpS_ltG hk kd' (by show lo + k < a'.size; (first | lia | omega)) (by show lo + (l + q) / 2 < a'.size; (first | lia | omega)) ?_)
        dsimp only
        by_cases c : kat a' (lo + k) < kat a' (lo + (l + q) / 2)
        · rw [show decide (kat a' (lo + k) < kat a' (lo + (l + q) / 2)) = true from decide_eq_true c, if_pos rfl]
          refine wpS_pure ⟨rfl, _, _, rfl, by (first | lia | omega), by (first | lia | omega), by (first | lia | omega), b4, fun i h3 h4 => ?_⟩
          by_cases e : i = (l + q) / 2
          · subst e; exact c
          · have := r' ((l + q) / 2) i (by (first | lia | omega)) (by (first | lia | omega)); (first | lia | omega)
        · rw [show decide (kat a' (lo + k) < kat a' (lo + (l + q) / 2)) = false from decide_eq_false c, if_neg (by decide)]
          have ne := kd'.nd (lo + (l + q) / 2) (lo + k) (by (first | lia | omega)) (by (first | lia | omega))
          refine wpS_pure ⟨rfl, _, _, rfl, by (first | lia | omega), by (first | lia | omega), by (first | lia | omega), fun i h3 => ?_, b5⟩
          by_cases e : i = (l + q) / 2
          · subst e; (first | lia | omega)
          · have := r' i ((l + q) / 2) (by (first | lia | omega)) (by (first | lia | omega)); (first | lia | omega)
    case p2 =>
      rintro c st2 ⟨rfl, l, q, rfl, b1, b2, b3⟩
      dsimp only
      refine wpS_bind (wpS_modify (wpS_pure ⟨rfl, bubble a' (lo + k) (lo + k - (lo + l)), rfl, sg.trans (Sg.bub hk2 b1 hs'), bub_ri (by (first | lia | omega)) b1 r' b2 b3⟩))
end
end SD

set_option Elab.async false
set_option linter.all false
set_option maxRecDepth 100000
/-! the sort's merging of its two runs -/
set_option maxHeartbeats 4000000
namespace SD
open PySem PyProof.Rows
theorem put_list : ∀ (m : List Keyed) (a : Array Keyed) (s d : Nat), s + d + m.length ≤ a.size → (m.zipIdx d |>.foldl (fun a (x : Keyed × Nat) => a.setIfInBounds (s + x.2) x.1) a).toList = a.toList.take (s + d) ++ m ++ a.toList.drop (s + d + m.length)
  | [], a, s, d, h => by simp
  | p :: m, a, s, d, h => by
    rw [List.length_cons] at h
    rw [List.zipIdx_cons, List.foldl_cons, put_list m _ s (d + 1) (by rw [Array.size_setIfInBounds]; (first | lia | omega))]
    have hlt : s + d < a.toList.length := by simp; (first | lia | omega)
    rw [Array.toList_setIfInBounds, show s + (d + 1) = s + d + 1 by (first | lia | omega), List.length_cons]
    rw [List.take_set, List.drop_set_of_lt (by (first | lia | omega)), show s + d + (m.length + 1) = s + d + 1 + m.length by (first | lia | omega)]
    have l : (a.toList.take (s + d)).length = s + d := by rw [List.length_take]; (first | lia | omega)
    have e : (a.toList.take (s + d + 1)).set (s + d) p = a.toList.take (s + d) ++ [p] := by
      rw [List.take_succ_eq_append_getElem hlt, List.set_append_right _ _ (by (first | lia | omega)), l, Nat.sub_self]
      rfl
    rw [e]
    simp
theorem srt_of_kat {a : Array Keyed} (h : ∀ i j, i < j → j < a.size → kat a i < kat a j) : Srt a.toList := List.pairwise_iff_getElem.mpr fun i j hi hj hij => by
  have hj' : j < a.size := by simpa using hj
  have := h i j hij hj'
  rw [kat_at (by (first | lia | omega)), kat_at hj'] at this
  simpa using this
theorem ext_kat {a : Array Keyed} {i k j : Nat} (hk : k ≤ a.size) (hj : i + j < k) : kat (a.extract i k) j = kat a (i + j) := by
  have h1 : j < (a.extract i k).size := by rw [Array.size_extract]; (first | lia | omega)
  rw [kat_at h1, kat_at (by (first | lia | omega)), Array.getElem_extract]
theorem ext_ik {a : Array Keyed} {i k : Nat} (h : ∀ i (h : i < a.size), IK a[i]) : ∀ j (hj : j < (a.extract i k).size), IK (a.extract i k)[j] := fun j hj => by
  rw [Array.size_extract] at hj
  rw [Array.getElem_extract]
  exact h _ _
theorem ext_srt {a : Array Keyed} {i n : Nat} (hs : i + n ≤ a.size) (r : ∀ x y, x < y → y < n → kat a (i + x) < kat a (i + y)) : Srt (a.extract i (i + n)).toList := srt_of_kat fun x y hxy hy => by
  rw [Array.size_extract] at hy
  rw [ext_kat (by (first | lia | omega)) (by (first | lia | omega)), ext_kat (by (first | lia | omega)) (by (first | lia | omega))]
  exact r x y hxy (by (first | lia | omega))
/-- two runs merged: what stands at the left and at the right stays -/
theorem merged_all {a m : Array Keyed} {k n1 nb n2 : Nat} (hs : n1 + n2 = a.size) (hk : k < n1) (hb : nb ≤ n2) (r1 : Ri a 0 n1) (r2 : Ri a n1 n2)
    (g1 : ∀ i, i < k → kat a i < kat a n1) (g2 : ∀ i, nb ≤ i → i < n2 → kat a (n1 - 1) < kat a (n1 + i)) (f : FN (a.extract k n1) (a.extract n1 (n1 + nb)) m) :
    (m.toList.zipIdx.foldl (fun a (x : Keyed × Nat) => a.setIfInBounds (0 + k + x.2) x.1) a).Perm a ∧ Srt (m.toList.zipIdx.foldl (fun a (x : Keyed × Nat) => a.setIfInBounds (0 + k + x.2) x.1) a).toList := by
  have lm : m.toList.length = n1 - k + nb := by
    rw [f.2.length_eq, List.length_append]
    simp
    (first | lia | omega)
  have e := put_list m.toList a (0 + k) 0 (by (first | lia | omega))
  rw [show 0 + k + 0 = k by (first | lia | omega), lm, show k + (n1 - k + nb) = n1 + nb by (first | lia | omega)] at e
  have sp : a.toList = a.toList.take k ++ ((a.extract k n1).toList ++ (a.extract n1 (n1 + nb)).toList) ++ a.toList.drop (n1 + nb) := by
    rw [ext_mid, ext_take]
    have e1 := take_split a.toList n1 k (by (first | lia | omega))
    have e2 := drop_split a.toList n1 nb
    have e3 := (List.take_append_drop n1 a.toList).symm
    rw [e1, e2] at e3
    rw [List.append_assoc, List.append_assoc] at *
    simpa [List.append_assoc] using e3
  have rr : ∀ {i j}, i < j → j < n1 → kat a i < kat a j := fun {i j} h1 h2 => by have := r1 i j h1 h2; simpa using this
  have rr2 : ∀ {i j}, i < j → j < n2 → kat a (n1 + i) < kat a (n1 + j) := fun {i j} h1 h2 => r2 i j h1 h2
  have mm : ∀ q ∈ m.toList, (∃ x, k ≤ x ∧ x < n1 ∧ kv q = kat a x) ∨ ∃ x, x < nb ∧ kv q = kat a (n1 + x) := fun q hq => by
    rcases List.mem_append.mp (f.2.mem_iff.mp hq) with z | z
    · rw [ext_mid] at z
      obtain ⟨x, h1, h2, _, h4⟩ := mem_mid_kat z
      exact .inl ⟨x, h1, h2, h4⟩
    · rw [ext_take] at z
      obtain ⟨x, h1, _, h4⟩ := mem_block_kat z
      exact .inr ⟨x, h1, h4⟩
  have tt : ∀ q ∈ a.toList.take k, ∃ x, x < k ∧ kv q = kat a x := fun q hq => let ⟨x, h1, _, h3⟩ := mem_take_kat hq; ⟨x, h1, h3⟩
  have dd : ∀ q ∈ a.toList.drop (n1 + nb), ∃ x, nb ≤ x ∧ x < n2 ∧ kv q = kat a (n1 + x) := fun q hq => by
    obtain ⟨x, h1, h2, h3⟩ := mem_drop_kat hq
    exact ⟨x - n1, by (first | lia | omega), by (first | lia | omega), by rw [show n1 + (x - n1) = x by (first | lia | omega)]; exact h3⟩
  have n1n : ∀ {x}, x < nb → kat a n1 ≤ kat a (n1 + x) := fun {x} hx => by
    by_cases z : x = 0
    · subst z; exact Int.le_refl _
    · exact Int.le_of_lt (rr2 (i := 0) (by (first | lia | omega)) (by (first | lia | omega)))
  have b1 : Bel (a.toList.take k) m.toList := fun p hp q hq => by
    obtain ⟨x, hx, e1⟩ := tt p hp
    rcases mm q hq with ⟨y, h1, h2, e2⟩ | ⟨y, h1, e2⟩
    · have := rr (i := x) (j := y) (by (first | lia | omega)) h2; (first | lia | omega)
    · have := g1 x hx
      have := n1n h1
      (first | lia | omega)
  have b2 : Bel m.toList (a.toList.drop (n1 + nb)) := fun p hp q hq => by
    obtain ⟨x, hx, hx2, e1⟩ := dd q hq
    have := g2 x hx hx2
    rcases mm p hp with ⟨y, h1, h2, e2⟩ | ⟨y, h1, e2⟩
    · by_cases z : y = n1 - 1
      · subst z; (first | lia | omega)
      · have := rr (i := y) (j := n1 - 1) (by (first | lia | omega)) (by (first | lia | omega)); (first | lia | omega)
    · have := rr2 (i := y) (j := x) (by (first | lia | omega)) hx2; (first | lia | omega)
  have b3 : Bel (a.toList.take k) (a.toList.drop (n1 + nb)) := fun p hp q hq => by
    obtain ⟨x, hx, hx2, e1⟩ := dd q hq
    obtain ⟨y, hy, e2⟩ := tt p hp
    have := g2 x hx hx2
    have := rr (i := y) (j := n1 - 1) (by (first | lia | omega)) (by (first | lia | omega))
    (first | lia | omega)
  have s1 : Srt (a.toList.take k) := by
    have := ext_srt (a := a) (i := 0) (n := k) (by (first | lia | omega)) fun x y h1 h2 => r1 x y h1 (by (first | lia | omega))
    rwa [Nat.zero_add, ext_low] at this
  have s2 : Srt (a.toList.drop (n1 + nb)) := by
    have := ext_srt (a := a) (i := n1 + nb) (n := n2 - nb) (by (first | lia | omega)) fun x y h1 h2 => by
      have := r2 (nb + x) (nb + y) (by (first | lia | omega)) (by (first | lia | omega))
      rw [show n1 + nb + x = n1 + (nb + x) by (first | lia | omega), show n1 + nb + y = n1 + (nb + y) by (first | lia | omega)]; exact this
    rwa [show n1 + nb + (n2 - nb) = a.size by (first | lia | omega), ext_list] at this
  refine ⟨Array.perm_iff_toList_perm.mpr ?_, ?_⟩
  · rw [e]
    conv => rhs; rw [sp]
    exact List.Perm.append_right _ (List.Perm.append_left _ f.2)
  · rw [e]
    exact Srt.app.mpr ⟨Srt.app.mpr ⟨s1, f.1, b1⟩, s2, Bel.appL b3 b2⟩
section
variable {prog : Program} {w : World} {A : Around} {E : Value → Shared → Prop} {s : Shared}
theorem wpS_set {st st' : SortSt} {Q : PUnit → SortSt → Prop} (h : Q ⟨⟩ st') : wpS (model prog w) A E s (set st' : StateT SortSt Sem PUnit) Q st := by
  unfold wpS; rw [StateT.run_set]; exact wpAny_pure ⟨rfl, h⟩
theorem wpS_mergeAt {st : SortSt} {n1 n2 p q : Nat} {Q : Bool → SortSt → Prop} (hk : kindOf st = oneType') (hf : failedOf st = none) (kd : Kd (arrOf st)) (hp : pendingOf st = #[(0, n1, p), (n1, n2, q)]) (h1 : 1 ≤ n1) (h2 : 1 ≤ n2) (hs : n1 + n2 = (arrOf st).size)
    (r1 : Ri (arrOf st) 0 n1) (r2 : Ri (arrOf st) n1 n2)
    (h : ∀ a' st', kindOf st' = oneType' → arrOf st' = a' → a'.Perm (arrOf st) → Srt a'.toList → pendingOf st' = #[(0, n1 + n2, p)] → failedOf st' = none → Q true st') : wpS (model prog w) A E s (mergeAt' 0) Q st := by
  refine wpS_bind (wpS_get ?_)
  have e0 : (pendingOf st)[0]? = some (0, n1, p) := by rw [hp]; rfl
  have e1 : (pendingOf st)[0 + 1]? = some (n1, n2, q) := by rw [hp]; rfl
  rw [e0, e1]
  dsimp only
  refine wpS_bind (wpS_set ?_)
  have hn : n1 < (arrOf st).size := by (first | lia | omega)
  refine wpS_bind (wpS_elem hn ?_)
  refine wpS_bind (wpS_gallop (arr := arrOf st) (show kindOf _ = oneType' from hk) (by (first | lia | omega)) (by (first | lia | omega)) (kd.ik _ hn) kd.ik (fun x y a1 a2 => r1 x y a1 a2) (fun x hx => by rw [← kat_at hn, Nat.zero_add]; exact kd.nd _ _ hx hn) fun k k1 k2 k3 => ?_)
  dsimp only
  rw [← kat_at hn] at k2 k3
  simp only [Nat.zero_add] at k2 k3
  have pe : ((pendingOf st).setIfInBounds 0 (0, n1 + n2, p)).eraseIdxIfInBounds (0 + 1) = #[(0, n1 + n2, p)] := by
    rw [hp]
    apply Array.toList_inj.mp
    simp [Array.eraseIdxIfInBounds]
  have whole : (∀ i, i < n1 → kat (arrOf st) i < kat (arrOf st) n1) → Srt (arrOf st).toList := fun hh => srt_of_kat fun i j hij hj => by
    by_cases c1 : j < n1
    · have := r1 i j hij c1; simpa using this
    · by_cases c2 : i < n1
      · have g := hh i c2
        by_cases c3 : j = n1
        · subst c3; exact g
        · have := r2 0 (j - n1) (by (first | lia | omega)) (by (first | lia | omega))
          rw [Nat.add_zero, show n1 + (j - n1) = j by (first | lia | omega)] at this
          (first | lia | omega)
      · have := r2 (i - n1) (j - n1) (by (first | lia | omega)) (by (first | lia | omega))
        rw [show n1 + (i - n1) = i by (first | lia | omega), show n1 + (j - n1) = j by (first | lia | omega)] at this
        exact this
  by_cases c1 : n1 - k = 0
  · rw [if_pos (by simpa using c1)]
    exact wpS_pure (h _ _ hk rfl (Array.Perm.refl _) (whole fun i hi => k2 i (by (first | lia | omega))) pe hf)
  rw [if_neg (by simpa using c1)]
  have hl : 0 + k + (n1 - k) - 1 < (arrOf st).size := by (first | lia | omega)
  have el : 0 + k + (n1 - k) - 1 = n1 - 1 := by (first | lia | omega)
  refine wpS_bind (wpS_elem hl ?_)
  have kl : kv (arrOf st)[0 + k + (n1 - k) - 1] = kat (arrOf st) (n1 - 1) := by rw [← kat_at hl, el]
  refine wpS_bind (wpS_gallop (arr := arrOf st) (show kindOf _ = oneType' from hk) (by (first | lia | omega)) (by (first | lia | omega)) (kd.ik _ hl) kd.ik (fun x y a1 a2 => r2 x y a1 a2) (fun x hx => by rw [kl]; exact (kd.nd (n1 - 1) (n1 + x) (by (first | lia | omega)) (by (first | lia | omega))).symm) fun nb b1 b2 b3 => ?_)
  dsimp only
  rw [kl] at b2 b3
  by_cases c2 : nb = 0
  · rw [if_pos (by simpa using c2)]
    refine wpS_pure (h _ _ hk rfl (Array.Perm.refl _) (whole fun i hi => ?_) pe hf)
    have g := b3 0 (by (first | lia | omega)) (by (first | lia | omega))
    rw [Nat.add_zero] at g
    by_cases z : i = n1 - 1
    · subst z; exact g
    · have := r1 i (n1 - 1) (by (first | lia | omega)) (by (first | lia | omega))
      simp only [Nat.zero_add] at this
      (first | lia | omega)
  rw [if_neg (by simpa using c2)]
  have e0k : 0 + k = k := Nat.zero_add k
  have sx : ((arrOf st).extract (0 + k) n1).size = n1 - k := by rw [Array.size_extract]; (first | lia | omega)
  have sy : ((arrOf st).extract n1 (n1 + nb)).size = nb := by rw [Array.size_extract]; (first | lia | omega)
  have kx : ∀ {x}, x < n1 - k → kat ((arrOf st).extract (0 + k) n1) x = kat (arrOf st) (k + x) := fun {x} hx => by rw [ext_kat (by (first | lia | omega)) (by (first | lia | omega)), e0k]
  have ky' : ∀ {x}, x < nb → kat ((arrOf st).extract n1 (n1 + nb)) x = kat (arrOf st) (n1 + x) := fun {x} hx => ext_kat (by (first | lia | omega)) (by (first | lia | omega))
  have q1 : Srt ((arrOf st).extract (0 + k) n1).toList := srt_of_kat fun x y hxy hy => by
    rw [sx] at hy
    rw [kx (by (first | lia | omega)), kx hy]
    have := r1 (k + x) (k + y) (by (first | lia | omega)) (by (first | lia | omega))
    simpa using this
  have q2 : Srt ((arrOf st).extract n1 (n1 + nb)).toList := ext_srt (by (first | lia | omega)) fun x y a1 a2 => r2 x y a1 (by (first | lia | omega))
  have q3 : kat ((arrOf st).extract n1 (n1 + nb)) 0 < kat ((arrOf st).extract (0 + k) n1) 0 := by
    rw [ky' (by (first | lia | omega)), kx (by (first | lia | omega))]
    exact k3 k (Nat.le_refl _) (by (first | lia | omega))
  have q4 : ∀ j, j < ((arrOf st).extract n1 (n1 + nb)).size → kat ((arrOf st).extract n1 (n1 + nb)) j < kat ((arrOf st).extract (0 + k) n1) (((arrOf st).extract (0 + k) n1).size - 1) := fun j hj => by
    rw [sy] at hj
    rw [sx, ky' hj, kx (by (first | lia | omega)), show k + (n1 - k - 1) = n1 - 1 by (first | lia | omega)]
    exact b2 j hj
  have q5 : ∀ i j, i < ((arrOf st).extract (0 + k) n1).size → j < ((arrOf st).extract n1 (n1 + nb)).size → kat ((arrOf st).extract (0 + k) n1) i ≠ kat ((arrOf st).extract n1 (n1 + nb)) j := fun i j hi hj => by
    rw [sx] at hi
    rw [sy] at hj
    rw [kx hi, ky' hj]
    exact kd.nd _ _ (by (first | lia | omega)) (by (first | lia | omega))
  have fin : ∀ (m : Array Keyed) (st' : SortSt), Sm (setPending st (((pendingOf st).setIfInBounds 0 (0, n1 + n2, p)).eraseIdxIfInBounds (0 + 1))) st' → FN ((arrOf st).extract (0 + k) n1) ((arrOf st).extract n1 (n1 + nb)) m →
      Q (failedOf (setArr st' (m.toList.zipIdx.foldl (fun a (x : Keyed × Nat) => a.setIfInBounds (0 + k + x.2) x.1) (arrOf st')))).isNone (setArr st' (m.toList.zipIdx.foldl (fun a (x : Keyed × Nat) => a.setIfInBounds (0 + k + x.2) x.1) (arrOf st'))) := fun m st' sm f => by
    obtain ⟨s1, s2, s3, s4⟩ := sm
    rw [e0k] at f
    obtain ⟨z1, z2⟩ := merged_all hs (by (first | lia | omega)) b1 r1 r2 k2 b3 f
    have s2 : arrOf st' = arrOf st := s2
    have s4 : failedOf st' = none := s4.trans hf
    show Q (failedOf st').isNone _
    rw [s4]
    refine h _ _ (s1.trans hk) rfl ?_ ?_ (s3.trans pe) s4
    · show Array.Perm (m.toList.zipIdx.foldl (fun a (x : Keyed × Nat) => a.setIfInBounds (0 + k + x.2) x.1) (arrOf st')) _
      rw [s2]; exact z1
    · show Srt (m.toList.zipIdx.foldl (fun a (x : Keyed × Nat) => a.setIfInBounds (0 + k + x.2) x.1) (arrOf st')).toList
      rw [s2]; exact z2
  split
  · refine wpS_bind (wpS_mergeLo (a := (arrOf st).extract (0 + k) n1) (b := (arrOf st).extract n1 (n1 + nb)) (show kindOf _ = oneType' from hk) (ext_ik kd.ik) (ext_ik kd.ik) q1 q2 (by (first | lia | omega)) (by (first | lia | omega)) q3 q4 q5 fun m st' sm f => ?_)
    exact wpS_bind (wpS_modify (wpS_bind (wpS_get (wpS_pure (fin m st' sm f)))))
  · refine wpS_bind (wpS_mergeHi (a := (arrOf st).extract (0 + k) n1) (b := (arrOf st).extract n1 (n1 + nb)) (show kindOf _ = oneType' from hk) (ext_ik kd.ik) (ext_ik kd.ik) q1 q2 (by (first | lia | omega)) (by (first | lia | omega)) q3 q4 q5 fun m st' sm f => ?_)
    exact wpS_bind (wpS_modify (wpS_bind (wpS_get (wpS_pure (fin m st' sm f)))))
end
end SD

set_option Elab.async false
set_option linter.all false
set_option maxRecDepth 100000
/-! the sort of 64 to 127 ints, all unlike: two runs at most -/
set_option maxHeartbeats 4000000
namespace SD
open PySem PyProof.Rows
theorem minRun_two {n : Nat} (h1 : 64 ≤ n) (h2 : n < 128) : minRun' n n 0 = n / 2 + n % 2 := by
  obtain ⟨f, rfl⟩ : ∃ f, n = f + 1 := ⟨n - 1, by (first | lia | omega)⟩
  rw [minRun'_succ, if_neg (by (first | lia | omega))]
  obtain ⟨g, rfl⟩ : ∃ g, f = g + 1 := ⟨f - 1, by (first | lia | omega)⟩
  rw [minRun'_succ, if_pos (by (first | lia | omega))]
  (first | lia | omega)
structure R0 (a₀ : Array Keyed) (st : SortSt) : Prop where
  pm : (arrOf st).Perm a₀
  kind : kindOf st = oneType'
  failed : failedOf st = none
structure R1 (a₀ : Array Keyed) (n1 : Nat) (st : SortSt) : Prop extends R0 a₀ st where
  pend : pendingOf st = #[(0, n1, 0)]
  ri : Ri (arrOf st) 0 n1
structure R2 (a₀ : Array Keyed) (n1 n2 : Nat) (st : SortSt) : Prop extends R0 a₀ st where
  pend : ∃ p, pendingOf st = #[(0, n1, p), (n1, n2, 0)]
  ri1 : Ri (arrOf st) 0 n1
  ri2 : Ri (arrOf st) n1 n2
  sum : n1 + n2 = a₀.size
  p1 : 1 ≤ n1
  p2 : 1 ≤ n2
structure R3 (a₀ : Array Keyed) (st : SortSt) : Prop extends R0 a₀ st where
  pend : (pendingOf st).size = 1
  srt : Srt (arrOf st).toList
theorem R0.size {a₀ : Array Keyed} {st : SortSt} (h : R0 a₀ st) : (arrOf st).size = a₀.size := h.pm.size_eq
theorem sg_ri {a a' : Array Keyed} {lo n m : Nat} (h : Sg lo n a a') (hm : m ≤ lo) (r : Ri a 0 m) : Ri a' 0 m := fun i j hij hj => by
  have e : ∀ x, x < lo → kat a' x = kat a x := fun x hx => by rw [← kat_K, ← kat_K]; exact K_congr (h.out x (.inl hx))
  rw [e _ (by (first | lia | omega)), e _ (by (first | lia | omega))]
  exact r i j hij hj
section
variable {prog : Program} {w : World} {A : Around} {E : Value → Shared → Prop} {s : Shared} {a₀ : Array Keyed}
set_option hygiene false in
local macro_rules | `(tactic| walk_at "runs_tail") => `(tactic| (
  refine wpS_bind (wpS_get ?_)
  have hb : (pendingOf (setArr st' a2)).back? = some (0, n1, 0) := by show (pendingOf st').back? = _; rw [hp1]; rfl
  rw [hb]
  dsimp only
  have hz : (pendingOf (setArr st' a2)).size = 1 := by show (pendingOf st').size = 1; rw [hp1]; rfl
  refine wpS_bind (wpS_mono (wpS_forRange (I := fun x c st'' => st'' = setArr st' a2 ∧ c = (none, ())) (Q := fun c st'' => st'' = setArr st' a2 ∧ c = (none, ())) ?_ (fun _ _ z => z) ⟨rfl, rfl⟩) ?_)
  · rintro x c st'' _ _ ⟨rfl, rfl⟩
    refine wpS_bind (wpS_get ?_)
    rw [if_neg (by rw [hz]; (first | lia | omega))]
    exact wpS_pure ⟨rfl, rfl⟩
  · rintro c st'' ⟨rfl, rfl⟩
    dsimp only
    refine wpS_bind (wpS_modify (wpS_bind (wpS_modify (wpS_pure (.inr (.inr ⟨by (first | lia | omega), by rw [show n1 + (a₀.size - n1) = a₀.size by (first | lia | omega)], .inr ⟨n1, a₀.size - n1, ?_⟩⟩))))))
    refine { pm := sg3.pm.trans r0.pm, kind := r0.kind, failed := r0.failed, pend := ⟨power' a₀.size (2 * 0 + n1) (2 * 0 + n1 + n1 + (a₀.size - n1)) a₀.size, ?_⟩, ri1 := rr, ri2 := ri2, sum := by (first | lia | omega), p1 := q1, p2 := by (first | lia | omega) }
    show ((pendingOf st').modify ((pendingOf st').size - 1) _).push _ = _
    rw [hp1]
    rfl))
theorem wpS_runs2 {st : SortSt} {Q : Unit → SortSt → Prop} (kd : Kd a₀) (hB : R0 a₀ st) (hp : pendingOf st = #[]) (h64 : 64 ≤ a₀.size) (h128 : a₀.size < 128)
    (h : ∀ st', R0 a₀ st' → Srt (arrOf st').toList → Q () st') : wpS (model prog w) A E s sortRuns' Q st := by
  rw [sortRuns'_eq]
  refine wpS_bind (wpS_get ?_)
  dsimp only
  rw [hB.size, minRun_two h64 h128]
  generalize hmr : a₀.size / 2 + a₀.size % 2 = mr
  refine wpS_bind (wpS_mono (wpS_forRange
    (I := fun x c st' => (x = 0 ∧ c = (none, 0) ∧ R0 a₀ st' ∧ pendingOf st' = #[]) ∨ (x = 1 ∧ ∃ n1, c = (none, n1) ∧ R1 a₀ n1 st' ∧ mr ≤ n1 ∧ n1 < a₀.size) ∨ (1 ≤ x ∧ c = (none, a₀.size) ∧ (R1 a₀ a₀.size st' ∨ ∃ n1 n2, R2 a₀ n1 n2 st')))
    (Q := fun c st' => c = (none, a₀.size) ∧ (R1 a₀ a₀.size st' ∨ ∃ n1 n2, R2 a₀ n1 n2 st')) ?st1 ?fi1 (.inl ⟨rfl, rfl, hB, hp⟩)) ?po1)
  case fi1 =>
    rintro c st' (⟨hx, _⟩ | ⟨hx, _⟩ | ⟨_, hc, hd⟩)
    · (first | lia | omega)
    · (first | lia | omega)
    · exact ⟨hc, hd⟩
  case st1 =>
    rintro x c st' _ hx (⟨rfl, rfl, r0, hp'⟩ | ⟨rfl, n1, rfl, r1, g1, g2⟩ | ⟨hx1, rfl, hd⟩)
    · dsimp only
      rw [if_neg (by (first | lia | omega))]
      simp only [Nat.sub_zero, Nat.zero_add]
      have kd' := kd.perm r0.pm
      have fin : ∀ (n : Nat) (a' : Array Keyed) (g : Nat), a'.Perm a₀ → Ri a' 0 n → mr ≤ n → n ≤ a₀.size → (True ∧ ∃ n1, ((none, n) : Option Unit × Nat) = (none, n1) ∧ R1 a₀ n1 (setPending (setArr st' a') (#[].push (0, n, 0))) ∧ mr ≤ n1 ∧ n1 < a₀.size) ∨ (1 ≤ 1 ∧ ((none, n) : Option Unit × Nat) = (none, a₀.size) ∧ (R1 a₀ a₀.size (setPending (setArr st' a') (#[].push (0, n, 0))) ∨ ∃ n1 n2, R2 a₀ n1 n2 (setPending (setArr st' a') (#[].push (0, n, 0))))) := fun n a' g pm ri h1 h2 => by
        have R : R1 a₀ n (setPending (setArr st' a') (#[].push (0, n, 0))) := { pm := pm, kind := r0.kind, failed := r0.failed, pend := rfl, ri := ri }
        by_cases e : n = a₀.size
        · subst e; exact .inr ⟨by (first | lia | omega), rfl, .inl R⟩
        · exact .inl ⟨trivial, n, rfl, R, h1, by (first | lia | omega)⟩
      refine wpS_bind (wpS_countG (lo := 0) (n := a₀.size) r0.kind kd' (by (first | lia | omega)) (by rw [r0.size]; (first | lia | omega)) fun m a' sg m1 m2 ri => ?_)
      dsimp only
      by_cases hlt : m < mr
      · rw [if_pos hlt]
        refine wpS_bind (wpS_lift (wpAny_rule ⟨rfl, ?_⟩))
        have em : min a₀.size mr = mr := by (first | lia | omega)
        simp only [em]
        refine wpS_bind (wpS_binG (st := setArr st' a') (lo := 0) (n := mr) r0.kind (kd'.perm sg.pm) m1 (by (first | lia | omega)) (by show 0 + mr ≤ a'.size; rw [sg.pm.size_eq, r0.size]; (first | lia | omega)) ri fun a2 sg2 ri2 => ?_)
        simp only [Bool.not_true, Bool.false_eq_true, if_false]
        refine wpS_bind (wpS_get ?_)
        have hb : (pendingOf (setArr (setArr st' a') a2)).back? = none := by show (pendingOf st').back? = none; rw [hp']; rfl
        rw [hb]
        dsimp only
        refine wpS_bind (wpS_modify (wpS_pure (.inr ?_)))
        have := fin mr a2 0 (sg2.pm.trans (sg.pm.trans r0.pm)) ri2 (Nat.le_refl _) (by (first | lia | omega))
        rw [← hp'] at this
        exact this
      · rw [if_neg hlt]
        refine wpS_bind (wpS_get ?_)
        have hb : (pendingOf (setArr st' a')).back? = none := by show (pendingOf st').back? = none; rw [hp']; rfl
        rw [hb]
        dsimp only
        refine wpS_bind (wpS_modify (wpS_pure (.inr ?_)))
        have := fin m a' 0 (sg.pm.trans r0.pm) ri (by (first | lia | omega)) m2
        rw [← hp'] at this
        exact this
    · dsimp only
      rw [if_neg (by (first | lia | omega))]
      have r0 := r1.toR0
      have kd' := kd.perm r0.pm
      have q1 : 1 ≤ n1 := by (first | lia | omega)
      have sz := r0.size
      have hp1 := r1.pend
      refine wpS_bind (wpS_countG (lo := n1) (n := a₀.size - n1) r0.kind kd' (by (first | lia | omega)) (by rw [sz]; (first | lia | omega)) fun m a' sg m1 m2 ri => ?_)
      dsimp only
      by_cases hlt : m < mr
      · rw [if_pos hlt]
        refine wpS_bind (wpS_lift (wpAny_rule ⟨rfl, ?_⟩))
        have em : min (a₀.size - n1) mr = a₀.size - n1 := by (first | lia | omega)
        simp only [em]
        refine wpS_bind (wpS_binG (st := setArr st' a') (lo := n1) (n := a₀.size - n1) r0.kind (kd'.perm sg.pm) m1 m2 (by show n1 + (a₀.size - n1) ≤ a'.size; rw [sg.pm.size_eq, sz]; (first | lia | omega)) ri fun a2 sg2 ri2 => ?_)
        simp only [Bool.not_true, Bool.false_eq_true, if_false]
        have sg3 : Sg n1 (a₀.size - n1) (arrOf st') a2 := sg.trans sg2
        have rr := sg_ri sg3 (Nat.le_refl _) r1.ri
        rw [show setArr (setArr st' a') a2 = setArr st' a2 from rfl]
        walk_at "runs_tail"
      · rw [if_neg hlt]
        obtain rfl : m = a₀.size - n1 := by (first | lia | omega)
        have rr := sg_ri sg (Nat.le_refl _) r1.ri
        have sg3 := sg
        have ri2 := ri
        generalize a' = a2 at sg3 ri2 rr ⊢
        walk_at "runs_tail"
    · dsimp only
      rw [if_pos (Nat.le_refl _)]
      exact wpS_pure ⟨rfl, hd⟩
  case po1 =>
    rintro c st' ⟨rfl, hd⟩
    dsimp only
    have hI : R3 a₀ st' ∨ (0 = 0 ∧ ∃ n1 n2, R2 a₀ n1 n2 st') := by
      rcases hd with r | r
      · refine .inl { toR0 := r.toR0, pend := by rw [r.pend]; rfl, srt := srt_of_kat fun i j hij hj => ?_ }
        have := r.ri i j hij (by rw [r.toR0.size] at hj; exact hj)
        simpa using this
      · exact .inr ⟨rfl, r⟩
    refine wpS_bind (wpS_mono (wpS_forRange (I := fun x c st'' => c = (none, ()) ∧ (R3 a₀ st'' ∨ (x = 0 ∧ ∃ n1 n2, R2 a₀ n1 n2 st''))) (Q := fun c st'' => c = (none, ()) ∧ R3 a₀ st'') ?st2 ?fi2 ⟨rfl, hI⟩) ?po2)
    case fi2 =>
      rintro c st'' ⟨rfl, (r | ⟨hx, _⟩)⟩
      · exact ⟨rfl, r⟩
      · (first | lia | omega)
    case po2 =>
      rintro c st'' ⟨rfl, r⟩
      exact wpS_pure (h st'' r.toR0 r.srt)
    case st2 =>
      rintro x c st'' _ hx ⟨rfl, (r | ⟨rfl, n1, n2, r⟩)⟩
      · refine wpS_bind (wpS_get ?_)
        rw [if_pos (by rw [r.pend]; exact Nat.le_refl _)]
        exact wpS_pure ⟨rfl, r⟩
      · obtain ⟨p, hp2⟩ := r.pend
        refine wpS_bind (wpS_get ?_)
        have hz : (pendingOf st'').size = 2 := by rw [hp2]; rfl
        rw [if_neg (by rw [hz]; (first | lia | omega))]
        simp only [hz, Nat.sub_self, Nat.lt_irrefl, if_false, gt_iff_lt, Option.any_none, Bool.false_eq_true]
        refine wpS_bind (wpS_mergeAt r.kind r.failed (kd.perm r.pm) hp2 r.p1 r.p2 (by rw [r.toR0.size]; exact r.sum) r.ri1 r.ri2 fun a' st3 k1 k2 k3 k4 k5 k6 => ?_)
        subst k2
        simp only [Bool.not_true, Bool.false_eq_true, if_false]
        exact wpS_pure ⟨rfl, .inl { pm := k3.trans r.pm, kind := k1, failed := k6, pend := by rw [k5]; rfl, srt := k4 }⟩
end
end SD

set_option Elab.async false
set_option linter.all false
set_option maxRecDepth 100000
/-! sorted of fewer than 128 ints, all unlike -/
namespace SD
open PySem PySem.Spec PyProof.Rows L2
theorem kd_pairs : ∀ {vs : List Value} {ns : List Int}, IntsAre vs ns → ns.Nodup → Kd (pairsOf vs) := fun {vs ns} hI nd => by
  refine Kd.of (fun p hp => ?_) ?_
  · exact hI.intKeys p hp
  · have e : (pairsOf vs).toList.map kv = ns := by
      rw [pairsOf_toList]
      have : (vs.zip vs).map kv = ((vs.zip vs).map Prod.fst).map numOf := by rw [List.map_map]; rfl
      rw [this, List.map_fst_zip (Nat.le_refl _), hI.nums]
    rw [e]; exact nd
theorem sortedTo_srt {xs : Array Keyed} {n : Nat} (h : Srt xs.toList) (hn : n = xs.size) : SortedTo xs n := fun i j hij hj => by
  rw [kat_K, kat_K]
  exact srt_kat_le h hij (by omega)
section
variable {prog : Program} {w : World} {A : Around} {E : Value → Shared → Prop} {s : Shared}
theorem lsort_many {a : Addr} {vs : List Value} {ns : List Int} {n : Nat} {P : PySem.Fin → Shared → Prop} (ho : s.heap.get? a = some (seqObj "list" vs.toArray n)) (hI : IntsAre vs ns) (nd : ns.Nodup) (h64 : 64 ≤ vs.length) (h128 : vs.length < 128)
    (h : ∀ (out : Array Value) (ns' : List Int), IntsAre out.toList ns' → ns'.Perm ns → ns'.Pairwise (· ≤ ·) → P (.done (.ret .none)) { s with heap := sortedHeap s.heap a vs out }) : wpAny (model prog w) A (Builtin.«list.sort» ⟨[.ref a], []⟩) P E s := by
  obtain ⟨e, ho1, ho6⟩ := srtE_at (vs := vs) ho
  rw [list_sort_plain]
  refine wpAny_bind (listItems_at ho rfl (wpAny_bind (listUpdate_at ho rfl ?_ (by rw [List.size_toArray, sizeLine_eq]; omega) (Nat.zero_le _))))
  refine wpAny_bind (seqEpoch_at ho1 rfl (wpAny_bind (wpAny_newTuple ?_ (by show vs.length ≤ _; rw [sizeLine_eq]; omega))))
  refine wpAny_bind (wpAny_newList (wpAny_holding ?_) (Nat.zero_le _))
  show wpAny (model prog w) A _ P E { s with heap := srtE s.heap a vs }
  dsimp only
  have hn : ¬ vs.toArray.size < 2 := by rw [List.size_toArray]; omega
  rw [if_neg hn, if_neg hn]
  have hkk : keyKind' vs.toArray = pure oneType' := by
    match vs, hI, h64 with
    | [], _, h => simp at h
    | [_], _, h => simp at h
    | v₁ :: v₂ :: rest, hI, _ => exact keyKind_ints hI
  rw [hkk]
  refine wpAny_bind (wpAny_pure ?_)
  have hz := pairsOf_size vs
  refine wpAny_bind (wpAny_mono (wpS_runs2 (a₀ := pairsOf vs) (st := SortSt.mk' oneType' (vs.toArray.zip vs.toArray) #[] 7 none) (Q := fun _ st' => R0 (pairsOf vs) st' ∧ Srt (arrOf st').toList) (kd_pairs hI nd) ⟨Array.Perm.refl _, rfl, rfl⟩ rfl (by omega) (by omega) fun st' r q => ⟨r, q⟩) ?_ fun _ _ x => x)
  rintro ⟨⟨⟩, st'⟩ s' ⟨rfl, r, q⟩
  dsimp only
  obtain ⟨ns', n1, n2, n3⟩ := sorted_out hI r.pm (sortedTo_srt q (by rw [r.size]))
  have hzz : ((arrOf st').map (·.2)).size = vs.length := by rw [Array.size_map, r.size, hz]
  refine wpAny_bind (seqEpoch_at ho6 rfl (wpAny_bind (listUpdate_at ho6 rfl ?_ (Nat.zero_le _) (by rw [hzz, sizeLine_eq]; omega))))
  rw [r.failed]
  simp only [bne_self_eq_false, Bool.false_eq_true, if_false]
  exact wpAny_pure (h _ ns' n1 n2 n3)
theorem sorted_many {l : Addr} {vs : List Value} {ns : List Int} {Q : Value → Shared → Prop} (hl : s.heap.IsList l vs.toArray) (hI : IntsAre vs ns) (nd : ns.Nodup) (h128 : vs.length < 128)
    (h : ∀ (out : Array Value) (ns' : List Int), IntsAre out.toList ns' → ns'.Perm ns → ns'.Pairwise (· ≤ ·) → Q (.ref (s.heap.objs.size + 1)) { s with heap := sortedAll s.heap vs out }) : wpAny (model prog w) A (call (.builtin "sorted") [.ref l]) Q E s := by
  by_cases h64 : vs.length < 64
  · exact sorted_ints hl hI h64 h
  refine Calls.call_function_entry kind_sorted plain_sorted entry_sorted (args_sorted1 _) ?_
  unfold Builtin.«sorted»
  refine wpAny_bind (m := checkCount "sorted" 1 1 _) (wpAny_pure (wpAny_bind (collect_list hl ?_ (by rw [sizeLine_eq]; omega))))
  refine wpAny_bind (wpAny_newList ?_ (by rw [sizeLine_eq]; omega))
  generalize e1 : ((s.heap.push (seqObj "list" #[] 0)).update s.heap.objs.size (Obj.mapSeq (· ++ vs.toArray))) = h1
  have z1 : h1.objs.size = s.heap.objs.size + 1 := by rw [← e1, Heap.size_update, size_push']
  have at1 : (h1.push (seqObj "list" vs.toArray 0)).get? (s.heap.objs.size + 1) = some (seqObj "list" vs.toArray 0) := by rw [← z1]; exact Heap.get?_push_size _ rfl
  show wpAny _ _ _ _ _ { s with heap := h1.push (seqObj "list" vs.toArray 0) }
  rw [z1]
  refine wpAny_bind (wpAny_holding (wpAny_call_entry slot_list_sort ⟨_, at1, rfl⟩ entry_list_sort (lsort_many (s := { s with heap := h1.push (seqObj "list" vs.toArray 0) }) at1 hI nd (by omega) h128 fun out ns' a1 a2 a3 => ⟨_, rfl, wpAny_pure ⟨_, rfl, ?_⟩⟩) (args_list_sort _)))
  have := h out ns' a1 a2 a3
  unfold sortedAll at this
  rw [e1] at this
  exact this
end
section
variable {X : Cx}
theorem vals_ints : ∀ {vs : List Value} {ns : List Int}, IntsAre vs ns → Vals (ns.map V.int) vs
  | _, _, .nil => .nil
  | _, _, .cons n t h => .cons ⟨t, rfl⟩ (vals_ints h)
theorem call_sortI : CallR X (.builtin "sorted") (fun vs H Q => ∃ (p : Addr) (ns : List Int), vs = [.ref p] ∧ SqL X.K H p (ns.map V.int) ∧ ns.Nodup ∧ ns.length < 128 ∧ ∀ (l : Addr) (ns' : List Int), H l = none → ns'.Perm ns → ns'.Pairwise (· ≤ ·) → Q (.ref l) (upd H l (.lst (ns'.map V.int)))) := by
  intro pins s σ H vs us' Q I r ⟨l, ns, ev, hl, nd, hn, q⟩
  subst ev
  obtain ⟨u, rfl, ru⟩ := vals1 r
  cases ru
  obtain ⟨its, r1, p1, hz⟩ := I.list hl
  have hlen : its.length = ns.length := by rw [← r1.length, List.length_map]
  refine sorted_many p1.isList (intsAre_of r1) nd (by omega) fun out ns' a1 a2 a3 => ?_
  obtain ⟨e, he⟩ := sortedAll_at s.heap its out
  refine ⟨.ref (s.heap.objs.size + 1), _, I.laid (t' := s.toks) (fun b o q => sortedAll_old q) (Nat.le_succ _) (show ObjOk X.prog X.w _ _ _ (.lst _) from ⟨?_, _, e, vals_ints a1, by rw [Array.toArray_toList]; exact he⟩), rfl, q _ ns' (I.hok.fresh (Nat.le_succ _)) a2 a3⟩
  rw [List.length_map, a2.length_eq]
  have : 128 ≤ sizeLine := Nat.le_of_ble_eq_true rfl
  omega
noncomputable def rSortI : RC := fun ds M Q => match ds with
  | [.ref l] => ∃ ns : List Int, M l = some (.lst (ns.map D.int)) ∧ ns.Nodup ∧ ns.length < 128 ∧ ∀ (z : Addr) (ns' : List Int), M z = none → ns'.Perm ns → ns'.Pairwise (· ≤ ·) → Q (.ref z) (updM M z (.lst (ns'.map D.int)))
  | _ => False
theorem cd_sortI : CallD X (.builtin "sorted") rSortI := call_imp call_sortI fun vs H Q ⟨ds, M, R, rs, a, q, fin⟩ => by
  unfold rSortI at q
  split at q
  · obtain ⟨ns, e, nd, hn, q⟩ := q
    obtain ⟨v, rfl, r⟩ := reps1 rs
    rw [Rep] at r; subst r
    obtain ⟨xs, hx, rx⟩ := a _ _ e
    rw [ints_of rx] at hx
    exact ⟨_, ns, rfl, SqL.of hx, nd, hn, fun z ns' hz pm up => fin (.ref z) _ _ _ (.new hz) (by rw [Rep]) (a.newL hz (reps_ints ns')) (q z ns' (a.fresh hz) pm up)⟩
  · exact q.elim
end
end SD

set_option Elab.async false
set_option linter.all false
set_option maxRecDepth 100000
local macro_rules | `(tactic| walk_at "rd") => `(tactic| repeat (first | refine ⟨_, rfl, ?_⟩ | refine ⟨trivial, ?_⟩ | refine ⟨_, _, rfl, ?_⟩ | refine ⟨rfl, ?_⟩ | refine ⟨Nat.le_of_ble_eq_true rfl, ?_⟩))
local macro_rules | `(tactic| walk_at "un") => `(tactic| try dsimp only [SD.tSeqD, SD.tAsgD, SD.gNameD, SD.tIfSD, SD.tRetD, SD.tNextD, SD.tDropD, SD.tBD, SD.tNotD])
local macro_rules | `(tactic| walk_at "nx") => `(tactic| try dsimp only [SD.gNameD])

namespace Q_k17_what_comes_behind_a_face
open PySem PySem.Spec PyProof.Rows L2 SD
noncomputable def top (i : Nat) : Stmt := PySem.Challenge.pw_spotlook_k17_what_comes_behind_a_face.main.body.getD i (.Pass ⟨0, 0, 0, 0⟩)
noncomputable abbrev s_law_cell_at : Stmt := top 11
noncomputable abbrev s_law_take : Stmt := top 12
noncomputable abbrev s_law_scale : Stmt := top 14
noncomputable abbrev s_law_turn : Stmt := top 17
noncomputable abbrev s_law_on : Stmt := top 18
noncomputable abbrev s_law_fair : Stmt := top 19
noncomputable abbrev s_law_shuts_here : Stmt := top 20
noncomputable abbrev s_law_squares : Stmt := top 26
noncomputable abbrev s_law_low : Stmt := top 13
noncomputable abbrev s_law_spot : Stmt := top 15
noncomputable abbrev s_law_made : Stmt := top 16
noncomputable abbrev s_face_ends : Stmt := top 5
noncomputable abbrev s_gap : Stmt := top 1
noncomputable abbrev s_lean : Stmt := top 2
noncomputable abbrev s_side_of : Stmt := top 3
noncomputable abbrev s_is_met_sooner : Stmt := top 7
noncomputable abbrev s_face_behind : Stmt := top 8
noncomputable abbrev s_faces_by_start : Stmt := top 6
noncomputable abbrev s_behind : Stmt := top 9
noncomputable abbrev s_law_ends : Stmt := top 21
noncomputable abbrev s_law_sooner : Stmt := top 22
noncomputable abbrev s_law_behind : Stmt := top 23
noncomputable abbrev s_law : Stmt := top 27
structure Tx (K : PySem.W.Frag) (mg : Str → Option Value) : Prop where
  f_law_cell_at : Txt K mg "_law_cell_at" s_law_cell_at
  f_law_take : Txt K mg "_law_take" s_law_take
  f_law_scale : Txt K mg "_law_scale" s_law_scale
  f_law_turn : Txt K mg "_law_turn" s_law_turn
  f_law_on : Txt K mg "_law_on" s_law_on
  f_law_fair : Txt K mg "_law_fair" s_law_fair
  f_law_shuts_here : Txt K mg "_law_shuts_here" s_law_shuts_here
  f_law_squares : Txt K mg "_law_squares" s_law_squares
  f_law_low : Txt K mg "_law_low" s_law_low
  f_law_spot : Txt K mg "_law_spot" s_law_spot
  f_law_made : Txt K mg "_law_made" s_law_made
  f_face_ends : Txt K mg "face_ends" s_face_ends
  f_gap : Txt K mg "gap" s_gap
  f_lean : Txt K mg "lean" s_lean
  f_side_of : Txt K mg "side_of" s_side_of
  f_is_met_sooner : Txt K mg "is_met_sooner" s_is_met_sooner
  f_face_behind : Txt K mg "face_behind" s_face_behind
  f_faces_by_start : Txt K mg "faces_by_start" s_faces_by_start
  f_behind : Txt K mg "behind" s_behind
  f_law_ends : Txt K mg "_law_ends" s_law_ends
  f_law_sooner : Txt K mg "_law_sooner" s_law_sooner
  f_law_behind : Txt K mg "_law_behind" s_law_behind
  f_law : Txt K mg "law" s_law
  b_abs : mg "abs" = none
  b_all : mg "all" = none
  b_bool : mg "bool" = none
  b_int : mg "int" = none
  b_isinstance : mg "isinstance" = none
  b_len : mg "len" = none
  b_list : mg "list" = none
  b_max : mg "max" = none
  b_min : mg "min" = none
  b_range : mg "range" = none
  b_sorted : mg "sorted" = none
  b_tuple : mg "tuple" = none
/-! ### _law_cell_at, level 1 -/
theorem sc_law_cell_at : FnScope ["_law_script", "_law_k"] ["_law_script", "_law_k"] (defScope s_law_cell_at) := ⟨rfl, rfl, rfl, by decide +kernel, rfl, by decide +kernel, by decide +kernel⟩
noncomputable def sp_law_cell_at : SpD := fun ds M Q => match ds with
  | [x, y] => ∃ ns k, x = .rol (List.map D.int ns) ∧ y = .int k ∧ 0 ≤ k ∧ ∀ z, Q (.int z) M
  | _ => False
theorem ln_law_cell_at : ∀ ds M Q, sp_law_cell_at ds M Q → ds.length = 2 := fun ds M Q h => by
  unfold sp_law_cell_at at h
  split at h
  · rfl
  · exact h.elim
set_option maxHeartbeats 4000000 in
theorem c_law_cell_at {P : Program} {w : World} {K : PySem.W.Frag} {mg : Str → Option Value} {base : Heap} (T : Tx K mg) : Cal P w K mg base 1 "_law_cell_at" sp_law_cell_at := by
  refine calD (k := 0) (N := ["_law_script", "_law_k"]) (ps := ["_law_script", "_law_k"]) T.f_law_cell_at sc_law_cell_at (fun _ _ _ _ _ _ us hl => match us, hl with | [_, _], _ => rfl) ln_law_cell_at fun f cdv A outer s H E hr => ⟨_, (dss_cons (ds_if (dt_cmp (od_ltX hr.units) (dv 1) (de_callB cd_len rfl T.b_len bt_len (da_cons (dv 0) da_nil))) (dss_one (ds_ret (de_ix (dv 0) (dv 1)))) dss_nil)
      (dss_one (ds_ret de_int))), fun ds M Q h => ?r⟩
  case r =>
    -- slots: 0 _law_script, 1 _law_k
    unfold sp_law_cell_at at h
    split at h
    case h_2 => exact h.elim
    obtain ⟨ns, k, rfl, rfl, hk, q⟩ := h
    walk_at "rd"
    refine ite2 (fun hl => ?_) (fun _ => ?_)
    · have hl' : k < (ns.length : Int) := by simpa using hl
      obtain ⟨j, rfl⟩ : ∃ j : Nat, k = (j : Int) := ⟨k.toNat, by omega⟩
      have hj : j < ns.length := by omega
      refine ⟨_, rfl, _, rfl, .int ns[j], atI_nat (by simp [hj]), rtn (q _)⟩
    · exact rtn (q 0)
/-! ### _law_take, level 1 -/
theorem sc_law_take : FnScope ["_law_row", "_law_base", "_law_rest", "_law_number"] ["_law_row", "_law_base"] (defScope s_law_take) := ⟨rfl, rfl, rfl, by decide +kernel, rfl, by decide +kernel, by decide +kernel⟩
noncomputable def sp_law_take : SpD := fun ds M Q => match ds with
  | [y, z] => ∃ r b x c, y = .ref r ∧ z = .int b ∧ M r = some (.lst [.int x, .int c]) ∧ 0 ≤ c ∧ c < 1000000 ∧ 0 < b ∧ Bd 8000 b ∧ ∀ x' v, 0 ≤ v → v < b → Q (.int v) (updM M r (.lst [.int x', .int (c + 1)]))
  | _ => False
theorem ln_law_take : ∀ ds M Q, sp_law_take ds M Q → ds.length = 2 := fun ds M Q h => by
  unfold sp_law_take at h
  split at h
  · rfl
  · exact h.elim
set_option maxHeartbeats 4000000 in
theorem c_law_take {P : Program} {w : World} {K : PySem.W.Frag} {mg : Str → Option Value} {base : Heap} (T : Tx K mg) : Cal P w K mg base 1 "_law_take" sp_law_take := by
  refine calD (k := 0) (N := ["_law_row", "_law_base", "_law_rest", "_law_number"]) (ps := ["_law_row", "_law_base"]) T.f_law_take sc_law_take (fun _ _ _ _ _ _ us hl => match us, hl with | [_, _], _ => rfl) ln_law_take fun f cdv A outer s H E hr => ⟨_, (dss_cons (ds_asg (de_op od_add (de_ix (dv 0) de_int) de_int) (dg_sub (dv 0) de_int))
      (dss_cons (ds_if (dt_cmp (od_geX hr.units) (de_ix (dv 0) de_int) (de_op od_pow de_int de_int)) (dss_cons (ds_set 2 sc_law_take.nd (de_op od_sub (de_ix (dv 0) de_int) (de_op od_pow de_int de_int)))
      (dss_cons (ds_asg (de_op od_add (de_op od_pow de_int de_int) (de_op od_fd (dv 2) (dv 1))) (dg_sub (dv 0) de_int))
      (dss_one (ds_ret (de_op od_mod (dv 2) (dv 1)))))) dss_nil)
      (dss_cons (ds_set 3 sc_law_take.nd (de_op od_mod (de_op od_add (de_op od_add (de_op od_add (de_op od_mul (de_ix (dv 0) de_int) de_int) (de_op od_mul (de_op od_mul de_int (de_ix (dv 0) de_int)) (de_ix (dv 0) de_int))) (de_op od_mul de_int (de_ix (dv 0) de_int))) de_int) de_int))
      (dss_cons (ds_set 3 sc_law_take.nd (de_op od_mod (de_op od_add (de_op od_add (de_op od_mul (dv 3) (dv 3)) (de_op od_mul de_int (dv 3))) (de_ix (dv 0) de_int)) de_int))
      (dss_one (ds_ret (de_op od_mod (de_op od_fd (dv 3) de_int) (dv 1)))))))), fun ds M Q h => ?r⟩
  case r =>
    -- slots: 0 _law_row, 1 _law_base, 2 _law_rest, 3 _law_number
    unfold sp_law_take at h
    split at h
    case h_2 => exact h.elim
    obtain ⟨r, b, x, c, rfl, rfl, hM, hc0, hc1, hb, hbd, q⟩ := h
    have hc64 : Bd 64 (c + 1) := by show (c + 1).natAbs < 2 ^ 64; omega
    have hb0 : b ≠ 0 := by omega
    have hm : ∀ n : Int, 0 ≤ n.fmod b ∧ n.fmod b < b := fun n => ⟨Int.fmod_nonneg_of_pos _ hb, Int.fmod_lt_of_pos _ hb⟩
    refine ⟨_, rfl, _, _, hM, rfl, ?_⟩
    refine ⟨_, rfl, _, _, hM, rfl, ?_⟩
    refine ⟨_, rfl, _, _, updM_same, rfl, ⟨by decide, by decide, by decide⟩, trivial, _, rfl, ?_⟩
    refine ite2 (fun h => ?_) (fun h => ?_)
    · refine ⟨_, rfl, _, _, updM_same, rfl, ⟨by decide, by decide, by decide⟩, trivial, ?_⟩
      refine ⟨⟨by decide, by decide, by decide⟩, _, rfl, _, rfl, ⟨hb0, hbd⟩, _, rfl, _, _, updM_same, rfl, ?_⟩
      refine ⟨_, rfl, _, rfl, hb0, ?_⟩
      rw [updM_updM]
      exact rtn (q _ _ (hm _).1 (hm _).2)
    · refine ⟨_, rfl, _, _, updM_same, rfl, mulOk_r (by decide), ?_⟩
      refine ⟨_, rfl, _, _, updM_same, rfl, mulOk_l (by decide), ?_⟩
      refine ⟨_, rfl, _, _, updM_same, rfl, mulOk_r hc64, ?_⟩
      refine ⟨_, rfl, _, _, updM_same, rfl, mulOk_l (by decide), (show (2147483399 : Int) ≠ 0 by decide), ?_⟩
      have hn : ∀ n : Int, Bd 64 (n.fmod 2147483399) := fun n => by
        have h1 := Int.fmod_nonneg_of_pos n (show (0 : Int) < 2147483399 by decide)
        have h2 := Int.fmod_lt_of_pos n (show (0 : Int) < 2147483399 by decide)
        show (n.fmod 2147483399).natAbs < 2 ^ 64
        omega
      refine ⟨_, rfl, _, rfl, mulOk_l (hn _), _, rfl, mulOk_l (by decide), _, rfl, _, _, updM_same, rfl, (show (2147483647 : Int) ≠ 0 by decide), ?_⟩
      refine ⟨_, rfl, ⟨by decide, bd64 (by decide)⟩, _, rfl, hb0, ?_⟩
      exact rtn (q _ _ (hm _).1 (hm _).2)
/-! ### _law_scale, level 2 -/
theorem sc_law_scale : FnScope ["_law_row", "_law_top", "_law_bottom", "_law_far"] ["_law_row"] (defScope s_law_scale) := ⟨rfl, rfl, rfl, by decide +kernel, rfl, by decide +kernel, by decide +kernel⟩
noncomputable def sp_law_scale : SpD := fun ds M Q => match ds with
  | [u] => ∃ (r : Addr) (x c : Int), u = .ref r ∧ M r = some (.lst [.int x, .int c]) ∧ 0 ≤ c ∧ c < 900000 ∧ ∀ x' c' t b p q, Scl t b p q → 0 ≤ c' → c' ≤ c + 10 → Q (scl t b p q) (updM M r (.lst [.int x', .int c']))
  | _ => False
theorem ln_law_scale : ∀ ds M Q, sp_law_scale ds M Q → ds.length = 1 := fun ds M Q h => by
  unfold sp_law_scale at h
  split at h
  · rfl
  · exact h.elim
set_option maxHeartbeats 4000000 in
theorem c_law_scale {P : Program} {w : World} {K : PySem.W.Frag} {mg : Str → Option Value} {base : Heap} (T : Tx K mg) : Cal P w K mg base 2 "_law_scale" sp_law_scale := by
  refine calD (k := 1) (N := ["_law_row", "_law_top", "_law_bottom", "_law_far"]) (ps := ["_law_row"]) T.f_law_scale sc_law_scale (fun _ _ _ _ _ _ us hl => match us, hl with | [_], _ => rfl) ln_law_scale fun f cdv A outer s H E hr => ⟨_, (dss_cons (ds_par 1 2 rfl sc_law_scale.nd (da_cons (de_op od_add de_int (de_call ((c_law_take T).mono (by decide)) hr (da_cons (dv 0) (da_cons de_int da_nil)))) (da_cons (de_op od_add de_int (de_call ((c_law_take T).mono (by decide)) hr (da_cons (dv 0) (da_cons de_int da_nil)))) da_nil)))
      (dss_cons (ds_if (dt_cmp (od_eq hr.units) (de_call ((c_law_take T).mono (by decide)) hr (da_cons (dv 0) (da_cons de_int da_nil))) de_int) (dss_one (ds_par 1 2 rfl sc_law_scale.nd (da_cons (de_op od_add de_int (de_call ((c_law_take T).mono (by decide)) hr (da_cons (dv 0) (da_cons (de_op od_pow de_int de_int) da_nil)))) (da_cons (de_op od_add de_int (de_call ((c_law_take T).mono (by decide)) hr (da_cons (dv 0) (da_cons (de_op od_pow de_int de_int) da_nil)))) da_nil)))) dss_nil)
      (dss_cons (ds_set 3 sc_law_scale.nd (de_ix (de_lst (da_cons de_int (da_cons (de_op od_pow de_int de_int) da_nil))) (de_callTy cd_int rfl T.b_int bt_int (da_cons (de_cmp (od_eq hr.units) (de_call ((c_law_take T).mono (by decide)) hr (da_cons (dv 0) (da_cons de_int da_nil))) de_int) da_nil))))
      (dss_one (ds_ret (de_tup (da_cons (dv 1) (da_cons (dv 2) (da_cons (de_op od_mul (dv 3) (de_op od_sub (de_call ((c_law_take T).mono (by decide)) hr (da_cons (dv 0) (da_cons de_int da_nil))) de_int)) (da_cons (de_op od_mul (dv 3) (de_op od_sub (de_call ((c_law_take T).mono (by decide)) hr (da_cons (dv 0) (da_cons de_int da_nil))) de_int)) da_nil)))))))))), fun ds M Q h => ?r⟩
  case r =>
    -- slots: 0 _law_row, 1 _law_top, 2 _law_bottom, 3 _law_far
    unfold sp_law_scale at h
    split at h
    case h_2 => exact h.elim
    obtain ⟨r, x, c, rfl, hM, hc0, hc1, k⟩ := h
    refine ⟨_, rfl, r, 6, x, c, rfl, rfl, hM, hc0, by omega, by decide, bd64 (by decide), fun x1 v1 h10 h11 => ?_⟩
    refine ⟨_, rfl, r, 6, x1, c + 1, rfl, rfl, updM_same, by omega, by omega, by decide, bd64 (by decide), fun x2 v2 h20 h21 => ?_⟩
    refine ⟨_, _, rfl, ?_⟩
    walk_at "nx"
    refine seq_cut (fun δ M' => ∃ x c' t b o3, 0 ≤ c' ∧ c' ≤ c + 5 ∧ (0 < t ∧ t ≤ 10 ^ 9 ∧ 0 < b ∧ b ≤ 10 ^ 9) ∧ M' = updM M r (.lst [.int x, .int c']) ∧ δ = [some (.ref r), some (.int t), some (.int b), o3]) ?_ (fun hu => ?_)
    rotate_left
    · refine ⟨_, rfl, r, 4, x2, c + 1 + 1, rfl, rfl, updM_same, by omega, by omega, by decide, bd64 (by decide), fun x3 v3 h30 h31 => ⟨_, rfl, ?_⟩⟩
      refine ite2 (fun _ => ?_) (fun _ => ?_)
      · refine ⟨_, rfl, ⟨by decide, by decide, by decide⟩, r, 10 ^ 9, x3, c + 1 + 1 + 1, rfl, rfl, updM_same, by omega, by omega, by decide, bd64 (by decide), fun x4 v4 h40 h41 => ?_⟩
        refine ⟨_, rfl, ⟨by decide, by decide, by decide⟩, r, 10 ^ 9, x4, c + 1 + 1 + 1 + 1, rfl, rfl, updM_same, by omega, by omega, by decide, bd64 (by decide), fun x5 v5 h50 h51 => ?_⟩
        refine ⟨_, _, rfl, hu _ _ ⟨x5, c + 1 + 1 + 1 + 1 + 1, 1 + v4, 1 + v5, none, by omega, by omega, by omega, ?_, rfl⟩⟩
        simp only [updM_updM]
      · refine hu _ _ ⟨x3, c + 1 + 1 + 1, 1 + v1, 1 + v2, none, by omega, by omega, by omega, ?_, rfl⟩
        simp only [updM_updM]
    rintro δ M' ⟨x, c', t, b, o3, hc0', hc1', hb, rfl, rfl⟩
    refine ⟨⟨by decide, by decide, by decide⟩, Nat.le_of_ble_eq_true rfl, fun p hp => ?_⟩
    have npr : r ≠ p := ne_fresh updM_same hp
    refine ⟨_, rfl, r, 6, x, c', rfl, rfl, (by rw [updM_ne npr, updM_same]), by omega, by omega, by decide, bd64 (by decide), fun x6 v6 h60 h61 => ?_⟩
    have hf : ∃ f : Int, atI [D.int 1, D.int (10 ^ 15)] (if decide (v6 = 0) = true then 1 else 0) = some (.int f) ∧ 1 ≤ f ∧ f ≤ 10 ^ 15 := by
      by_cases z : v6 = 0
      · exact ⟨10 ^ 15, by rw [if_pos (by simpa using z)]; rfl, by decide, by decide⟩
      · exact ⟨1, by rw [if_neg (by simpa using z)]; rfl, by decide, by decide⟩
    obtain ⟨f, ef, hf0, hf1⟩ := hf
    refine ⟨_, _, (by rw [updM_ne npr.symm, updM_same]; rfl), ef, ?_⟩
    have bf : Bd 64 f := by show f.natAbs < 2 ^ 64; omega
    refine ⟨_, rfl, _, rfl, _, rfl, _, rfl, r, 41, x6, c' + 1, rfl, rfl, updM_same, by omega, by omega, by decide, bd64 (by decide), fun x7 v7 h70 h71 => ⟨trivial, mulOk_l bf, ?_⟩⟩
    refine ⟨_, rfl, _, rfl, r, 41, x7, c' + 1 + 1, rfl, rfl, updM_same, by omega, by omega, by decide, bd64 (by decide), fun x8 v8 h80 h81 => ⟨trivial, mulOk_l bf, Nat.le_of_ble_eq_true rfl, ?_⟩⟩
    have bnd : ∀ v : Int, 0 ≤ v → v < 41 → -(10 ^ 17) ≤ f * (v - 20) ∧ f * (v - 20) ≤ 10 ^ 17 := fun v a b => by
      have h1 : f * (v - 20) ≤ f * 20 := Int.mul_le_mul_of_nonneg_left (by omega) (by omega)
      have h2 : f * (-20) ≤ f * (v - 20) := Int.mul_le_mul_of_nonneg_left (by omega) (by omega)
      omega
    have q7 := bnd v7 h70 h71
    have q8 := bnd v8 h80 h81
    refine ⟨updM M r (.lst [.int x8, .int (c' + 1 + 1 + 1)]), ?_, k _ _ _ _ _ _ ⟨hb.1, hb.2.1, hb.2.2.1, hb.2.2.2, q7.1, q7.2, q8.1, q8.2⟩ (by omega) (by omega)⟩
    simp only [updM_updM]
    refine .updR ?_
    intro a o ne e
    have : a ≠ p := fun z => by subst z; rw [updM_ne ne] at hp; rw [hp] at e; cases e
    rw [updM_ne this, updM_ne ne]
    exact e
/-! ### _law_turn, level 1 -/
theorem sc_law_turn : FnScope ["_law_one", "_law_two", "_law_three", "_law_far", "_law_beside", "_law_found"] ["_law_one", "_law_two", "_law_three"] (defScope s_law_turn) := ⟨rfl, rfl, rfl, by decide +kernel, rfl, by decide +kernel, by decide +kernel⟩
noncomputable def sp_law_turn : SpD := fun ds M Q => match ds with
  | [u, v, w] => ∃ a b c d e f : Int, u = .tup [.int a, .int b] ∧ v = .tup [.int c, .int d] ∧ w = .tup [.int e, .int f] ∧ Bd 6 a ∧ Bd 6 b ∧ Bd 6 c ∧ Bd 6 d ∧ Q (.int (Int.sign (crs (c - a) (d - b) (e - a) (f - b)))) M
  | _ => False
theorem ln_law_turn : ∀ ds M Q, sp_law_turn ds M Q → ds.length = 3 := fun ds M Q h => by
  unfold sp_law_turn at h
  split at h
  · rfl
  · exact h.elim
set_option maxHeartbeats 4000000 in
theorem c_law_turn {P : Program} {w : World} {K : PySem.W.Frag} {mg : Str → Option Value} {base : Heap} (T : Tx K mg) : Cal P w K mg base 1 "_law_turn" sp_law_turn := by
  refine calD (k := 0) (N := ["_law_one", "_law_two", "_law_three", "_law_far", "_law_beside", "_law_found"]) (ps := ["_law_one", "_law_two", "_law_three"]) T.f_law_turn sc_law_turn (fun _ _ _ _ _ _ us hl => match us, hl with | [_, _, _], _ => rfl) ln_law_turn fun f cdv A outer s H E hr => ⟨_, (dss_cons (ds_set 3 sc_law_turn.nd (de_tup (da_cons (de_op od_sub (de_ix (dv 1) de_int) (de_ix (dv 0) de_int)) (da_cons (de_op od_sub (de_ix (dv 1) de_int) (de_ix (dv 0) de_int)) da_nil))))
      (dss_cons (ds_set 4 sc_law_turn.nd (de_tup (da_cons (de_op od_sub (de_ix (dv 2) de_int) (de_ix (dv 0) de_int)) (da_cons (de_op od_sub (de_ix (dv 2) de_int) (de_ix (dv 0) de_int)) da_nil))))
      (dss_cons (ds_set 5 sc_law_turn.nd (de_op od_sub (de_op od_mul (de_ix (dv 3) de_int) (de_ix (dv 4) de_int)) (de_op od_mul (de_ix (dv 3) de_int) (de_ix (dv 4) de_int))))
      (dss_one (ds_ret (de_op od_sub (de_callTy cd_int rfl T.b_int bt_int (da_cons (de_cmp (od_gtX hr.units) (dv 5) de_int) da_nil)) (de_callTy cd_int rfl T.b_int bt_int (da_cons (de_cmp (od_ltX hr.units) (dv 5) de_int) da_nil)))))))), fun ds M Q h => ?r⟩
  case r =>
    -- slots: 0 _law_one, 1 _law_two, 2 _law_three, 3 _law_far, 4 _law_beside, 5 _law_found
    unfold sp_law_turn at h
    split at h
    case h_2 => exact h.elim
    obtain ⟨a, b, c, d, e, f, rfl, rfl, rfl, ha, hb, hc, hd, k⟩ := h
    refine ⟨_, rfl, _, rfl, _, rfl, _, rfl, trivial, _, rfl, _, rfl, _, rfl, _, rfl, trivial, Nat.le_of_ble_eq_true rfl, ?_⟩
    refine ⟨_, rfl, _, rfl, _, rfl, _, rfl, trivial, _, rfl, _, rfl, _, rfl, _, rfl, trivial, Nat.le_of_ble_eq_true rfl, ?_⟩
    refine ⟨_, rfl, _, rfl, _, rfl, _, rfl, mulOk_l ((hc.sub ha).mono (by decide)), _, rfl, _, rfl, _, rfl, _, rfl, mulOk_l ((hd.sub hb).mono (by decide)), trivial, ?_⟩
    refine ⟨_, rfl, trivial, _, rfl, trivial, trivial, ?_⟩
    have e1 : (if decide (0 < (c - a) * (f - b) - (d - b) * (e - a)) = true then (1 : Int) else 0) - (if decide ((c - a) * (f - b) - (d - b) * (e - a) < 0) = true then (1 : Int) else 0) = Int.sign (crs (c - a) (d - b) (e - a) (f - b)) := by
      unfold crs
      generalize (c - a) * (f - b) - (d - b) * (e - a) = z
      rcases Int.lt_trichotomy z 0 with h | h | h
      · rw [Int.sign_eq_neg_one_of_neg h, if_neg (by simp; omega), if_pos (by simpa using h)]; rfl
      · subst h; rfl
      · rw [Int.sign_eq_one_of_pos h, if_pos (by simpa using h), if_neg (by simp; omega)]; rfl
    dsimp only
    rw [e1]
    exact rtn k
/-! ### _law_on, level 2 -/
theorem sc_law_on : FnScope ["_law_shut", "_law_spot_here"] ["_law_shut", "_law_spot_here"] (defScope s_law_on) := ⟨rfl, rfl, rfl, by decide +kernel, rfl, by decide +kernel, by decide +kernel⟩
noncomputable def sp_law_on : SpD := fun ds M Q => match ds with
  | [u, v] => ∃ (w : Wl) (x y : Int), u = uw w ∧ v = .tup [.int x, .int y] ∧ Un5 w ∧ (0 ≤ x ∧ x ≤ 20) ∧ (0 ≤ y ∧ y ≤ 20) ∧ Q (.bl (decide (l1 w ≤ la x y) && decide (la x y ≤ l2 w) && decide (sd w x y = 0))) M
  | _ => False
theorem ln_law_on : ∀ ds M Q, sp_law_on ds M Q → ds.length = 2 := fun ds M Q h => by
  unfold sp_law_on at h
  split at h
  · rfl
  · exact h.elim
set_option maxHeartbeats 4000000 in
theorem c_law_on {P : Program} {w : World} {K : PySem.W.Frag} {mg : Str → Option Value} {base : Heap} (T : Tx K mg) : Cal P w K mg base 2 "_law_on" sp_law_on := by
  refine calD (k := 1) (N := ["_law_shut", "_law_spot_here"]) (ps := ["_law_shut", "_law_spot_here"]) T.f_law_on sc_law_on (fun _ _ _ _ _ _ us hl => match us, hl with | [_, _], _ => rfl) ln_law_on fun f cdv A outer s H E hr => ⟨_, (dss_one (ds_ret (de_and (de_chain (od_leX hr.units) (od_leX hr.units) (de_ix (dv 0) de_int) (dv 1) (de_ix (dv 0) de_int)) (de_one (de_cmp (od_eq hr.units) (de_call ((c_law_turn T).mono (by decide)) hr (da_cons (de_ix (dv 0) de_int) (da_cons (de_ix (dv 0) de_int) (da_cons (dv 1) da_nil)))) de_int))))), fun ds M Q h => ?r⟩
  case r =>
    -- slots: 0 _law_shut, 1 _law_spot_here
    unfold sp_law_on at h
    split at h
    case h_2 => exact h.elim
    obtain ⟨w, x, y, rfl, rfl, W, hx, hy, k⟩ := h
    walk_at "un"
    refine andV (decide (l1 w ≤ la x y) && decide (la x y ≤ l2 w)) (decide (sd w x y = 0)) (fun K hK => ?_) (fun _ K hK => ?_) (rtn k)
    · refine ⟨_, rfl, _, rfl, _, rfl, [w.1, w.2.1], [x, y], rfl, rfl, _, rfl, ?_⟩
      rw [le_la W.b hy]
      refine ite2 (fun h => ?_) (fun h => ?_)
      · refine ⟨_, rfl, _, rfl, [x, y], [w.2.2.1, w.2.2.2], rfl, rfl, ?_⟩
        rw [le_la hy W.d]
        have h' : decide (l1 w ≤ la x y) = true := h
        rw [h', Bool.true_and] at hK
        exact hK
      · have h' : decide (l1 w ≤ la x y) = false := eq_false_of_ne_true h
        rw [h', Bool.false_and] at hK
        exact hK
    · refine ⟨_, rfl, _, rfl, _, rfl, _, rfl, _, rfl, w.1, w.2.1, w.2.2.1, w.2.2.2, x, y, rfl, rfl, rfl, bd20 W.a, bd20 W.b, bd20 W.c, bd20 W.d, ?_⟩
      have e : decide (Int.sign (crs (w.2.2.1 - w.1) (w.2.2.2 - w.2.1) (x - w.1) (y - w.2.1)) = 0) = decide (sd w x y = 0) := by
        rw [decide_eq_decide]; exact Int.sign_eq_zero_iff_zero
      dsimp only
      show K (.bl (decide _)) _
      rw [e]
      exact hK
/-! ### _law_fair, level 3 -/
theorem sc_law_fair : FnScope ["_law_one", "_law_other", "_law_shut", "_law_beside", "_law_spot_here", "_law_sides", "_law_others"] ["_law_one", "_law_other"] (defScope s_law_fair) := ⟨rfl, rfl, rfl, by decide +kernel, rfl, by decide +kernel, by decide +kernel⟩
noncomputable def sp_law_fair : SpD := fun ds M Q => match ds with
  | [u, v] => ∃ (U V : Wl), u = uw U ∧ v = uw V ∧ Un5 U ∧ Un5 V ∧ ∀ b : Bool, (b = true → Fair U V) → Q (.bl b) M
  | _ => False
theorem ln_law_fair : ∀ ds M Q, sp_law_fair ds M Q → ds.length = 2 := fun ds M Q h => by
  unfold sp_law_fair at h
  split at h
  · rfl
  · exact h.elim
set_option maxHeartbeats 4000000 in
theorem c_law_fair {P : Program} {w : World} {K : PySem.W.Frag} {mg : Str → Option Value} {base : Heap} (T : Tx K mg) : Cal P w K mg base 3 "_law_fair" sp_law_fair := by
  refine calD (k := 2) (N := ["_law_one", "_law_other", "_law_shut", "_law_beside", "_law_spot_here", "_law_sides", "_law_others"]) (ps := ["_law_one", "_law_other"]) T.f_law_fair sc_law_fair (fun _ _ _ _ _ _ us hl => match us, hl with | [_, _], _ => rfl) ln_law_fair fun f cdv A outer s H E hr => ⟨_, (dss_cons (ds_if (dt_cmp (od_eq hr.units) (dv 0) (dv 1)) (dss_one (ds_ret de_bl)) dss_nil)
      (dss_cons (ds_for PassesOwn.never rfl (di_seq (de_tup (da_cons (de_tup (da_cons (dv 0) (da_cons (dv 1) da_nil))) (da_cons (de_tup (da_cons (dv 1) (da_cons (dv 0) da_nil))) da_nil)))) (dg_tup rfl (dgs_cons (dg_name 2 sc_law_fair.nd) (dgs_cons (dg_name 3 sc_law_fair.nd) dgs_nil))) (dss_one (ds_for PassesOwn.never rfl (di_seq (dv 3)) (dg_name 4 sc_law_fair.nd) (dss_one (ds_if (dt_w (dw_and (dt_cmp (od_notin (ru66 hr)) (dv 4) (dv 2) (by with_unfolding_all rfl)) (dw_and1 (dt_val (de_call ((c_law_on T).mono (by decide)) hr (da_cons (dv 2) (da_cons (dv 4) da_nil))))))) (dss_one (ds_ret de_bl)) dss_nil)))))
      (dss_cons (ds_comp1 5 sc_law_fair.nd (CScope.of (xs := ["_law_spot_here"]) (js := [0]) rfl) rfl (di_seq (dv 1)) (fun _ _ _ _ => dts_nil) (fun _ _ _ _ => (de_call ((c_law_turn T).mono (by decide)) hr (da_cons (de_ix (dv 1) de_int) (da_cons (de_ix (dv 1) de_int) (da_cons (dv 0) da_nil))))))
      (dss_cons (ds_comp1 6 sc_law_fair.nd (CScope.of (xs := ["_law_spot_here"]) (js := [1]) rfl) rfl (di_seq (dv 0)) (fun _ _ _ _ => dts_nil) (fun _ _ _ _ => (de_call ((c_law_turn T).mono (by decide)) hr (da_cons (de_ix (dv 1) de_int) (da_cons (de_ix (dv 1) de_int) (da_cons (dv 0) da_nil))))))
      (dss_one (ds_ret (de_or (de_cmp (od_geX hr.units) (de_op od_mul (de_ix (dv 5) de_int) (de_ix (dv 5) de_int)) de_int) (de_one (de_cmp (od_geX hr.units) (de_op od_mul (de_ix (dv 6) de_int) (de_ix (dv 6) de_int)) de_int))))))))), fun ds M Q h => ?r⟩
  case r =>
    -- slots: 0 _law_one, 1 _law_other, 2 _law_shut, 3 _law_beside, 4 _law_spot_here, 5 _law_sides, 6 _law_others
    unfold sp_law_fair at h
    split at h
    case h_2 => exact h.elim
    obtain ⟨U, V, rfl, rfl, HU, HV, k⟩ := h
    refine ⟨_, rfl, _, rfl, _, _, Pd.of rfl, Pd.of rfl, rfl, rfl, _, rfl, ?_⟩
    refine ite2 (fun h => rtn (k false (fun z => absurd z Bool.false_ne_true))) (fun h => ?_)
    have hne : ¬ (l1 U = l1 V ∧ l2 U = l2 V) := fun ⟨z1, z2⟩ => by
      apply h
      obtain ⟨a1, a2⟩ := la_inj HU.b HV.b z1
      obtain ⟨a3, a4⟩ := la_inj HU.d HV.d z2
      simp only [PyData.eqv, PyData.eqvAll, beq_dec, a1, a2, a3, a4]
      simp
    dsimp only [SD.tNextD]
    refine seq_cut (fun δ M' => M' = M ∧ (∃ o2 o3 o4, δ = [some (uw U), some (uw V), o2, o3, o4, none, none]) ∧ (EndOk U (l1 V) (sd1 U V) ∧ EndOk U (l2 V) (sd2 U V)) ∧ (EndOk V (l1 U) (sd1 V U) ∧ EndOk V (l2 U) (sd2 V U))) ?_ (fun hu => ?_)
    rotate_left
    · refine ⟨_, rfl, _, rfl, Nat.le_of_ble_eq_true rfl, _, rfl, _, rfl, Nat.le_of_ble_eq_true rfl, Nat.le_of_ble_eq_true rfl, [.tup [uw U, uw V], .tup [uw V, uw U]], rfl, ?_⟩
      refine ⟨fun i δ M' => M' = M ∧ (∃ o2 o3 o4, δ = [some (uw U), some (uw V), o2, o3, o4, none, none]) ∧ (0 < i → EndOk U (l1 V) (sd1 U V) ∧ EndOk U (l2 V) (sd2 U V)) ∧ (1 < i → EndOk V (l1 U) (sd1 V U) ∧ EndOk V (l2 U) (sd2 V U)), ⟨rfl, ⟨_, _, _, rfl⟩, fun z => absurd z (by decide), fun z => absurd z (by decide)⟩, fun _ _ _ _ _ => rfl, ?_, ?_⟩
      · rintro i d δ M' hi hd ⟨rfl, ⟨o2, o3, o4, rfl⟩, p1, p2⟩
        have hi : i < 2 := hi
        have hd : [D.tup [uw U, uw V], .tup [uw V, uw U]][i]? = some d := hd
        have pick : ∃ A B, d = .tup [uw A, uw B] ∧ Un5 A ∧ Un5 B ∧ ((EndOk A (l1 B) (sd1 A B) ∧ EndOk A (l2 B) (sd2 A B)) → (0 < i + 1 → EndOk U (l1 V) (sd1 U V) ∧ EndOk U (l2 V) (sd2 U V)) ∧ (1 < i + 1 → EndOk V (l1 U) (sd1 V U) ∧ EndOk V (l2 U) (sd2 V U))) := by
          rcases (show i = 0 ∨ i = 1 by omega) with rfl | rfl
          · cases hd
            exact ⟨U, V, rfl, HU, HV, fun z => ⟨fun _ => z, fun y => absurd y (by decide)⟩⟩
          · cases hd
            exact ⟨V, U, rfl, HV, HU, fun z => ⟨fun _ => p1 (by decide), fun _ => z⟩⟩
        obtain ⟨A, B, rfl, HA, HB, nxt⟩ := pick
        refine ⟨_, rfl, rfl, _, _, rfl, _, _, rfl, rfl, ?_⟩
        refine ⟨_, rfl, [.tup [.int B.1, .int B.2.1], .tup [.int B.2.2.1, .int B.2.2.2]], rfl, ?_⟩
        refine ⟨fun j δ M'' => M'' = M' ∧ (∃ o4, δ = [some (uw U), some (uw V), some (uw A), some (uw B), o4, none, none]) ∧ (0 < j → EndOk A (l1 B) (sd1 A B)) ∧ (1 < j → EndOk A (l2 B) (sd2 A B)), ⟨rfl, ⟨_, rfl⟩, fun z => absurd z (by decide), fun z => absurd z (by decide)⟩, fun _ _ _ _ _ => rfl, ?_, ?_⟩
        · rintro j d δ M'' hj hd ⟨rfl, ⟨o4, rfl⟩, q1, q2⟩
          have hj : j < 2 := hj
          have hd : [D.tup [.int B.1, .int B.2.1], .tup [.int B.2.2.1, .int B.2.2.2]][j]? = some d := hd
          have pk : ∃ x y, d = .tup [.int x, .int y] ∧ (0 ≤ x ∧ x ≤ 20) ∧ (0 ≤ y ∧ y ≤ 20) ∧ (EndOk A (la x y) (sd A x y) → (0 < j + 1 → EndOk A (l1 B) (sd1 A B)) ∧ (1 < j + 1 → EndOk A (l2 B) (sd2 A B))) := by
            rcases (show j = 0 ∨ j = 1 by omega) with rfl | rfl
            · cases hd
              exact ⟨_, _, rfl, HB.a, HB.b, fun z => ⟨fun _ => z, fun y => absurd y (by decide)⟩⟩
            · cases hd
              exact ⟨_, _, rfl, HB.c, HB.d, fun z => ⟨fun _ => q1 (by decide), fun _ => z⟩⟩
          obtain ⟨x, y, rfl, hx, hy, nx2⟩ := pk
          walk_at "un"
          refine andT (!(decide (A.1 = x ∧ A.2.1 = y) || decide (A.2.2.1 = x ∧ A.2.2.2 = y))) (decide (l1 A ≤ la x y) && decide (la x y ≤ l2 A) && decide (sd A x y = 0)) (fun K hK => ⟨_, rfl, _, rfl, in_two _ A x y _ _ ⟨_, rfl, hK⟩⟩) (fun _ K hK => ⟨_, rfl, _, rfl, A, x, y, rfl, rfl, HA, hx, hy, _, rfl, hK⟩) ?_
          refine ite2 (fun _ => rtn (k false (fun z => absurd z Bool.false_ne_true))) (fun h => ?_)
          exact ⟨rfl, ⟨_, rfl⟩, nx2 (endOk_of HA hy (eq_false_of_ne_true h))⟩
        · rintro δ M'' ⟨rfl, ⟨o4, rfl⟩, q1, q2⟩
          exact ⟨rfl, ⟨_, _, _, rfl⟩, nxt ⟨q1 (show 0 < 2 by decide), q2 (show 1 < 2 by decide)⟩⟩
      · rintro δ M' ⟨rfl, ⟨o2, o3, o4, rfl⟩, p1, p2⟩
        exact hu _ _ ⟨rfl, ⟨_, _, _, rfl⟩, p1 (show 0 < 2 by decide), p2 (show 1 < 2 by decide)⟩
    rintro δ M' ⟨rfl, ⟨o2, o3, o4, rfl⟩, ⟨e1, e2⟩, ⟨e3, e4⟩⟩
    refine ⟨_, rfl, [.tup [.int V.1, .int V.2.1], .tup [.int V.2.2.1, .int V.2.2.2]], rfl, comp_map (fun j => if j = 0 then .int (Int.sign (sd1 U V)) else .int (Int.sign (sd2 U V))) (Nat.le_of_ble_eq_true rfl) (fun _ _ _ => rfl) ?_ (fun p hp => ?_)⟩
    · intro j e' M2 hj he' _
      have hj : j < 2 := hj
      have he' : [D.tup [.int V.1, .int V.2.1], .tup [.int V.2.2.1, .int V.2.2.2]][j]? = some e' := he'
      rcases (show j = 0 ∨ j = 1 by omega) with rfl | rfl
      · cases he'
        exact ⟨_, rfl, fun K2 hK2 => ⟨_, rfl, _, rfl, _, rfl, _, rfl, _, rfl, U.1, U.2.1, U.2.2.1, U.2.2.2, _, _, rfl, rfl, rfl, bd20 HU.a, bd20 HU.b, bd20 HU.c, bd20 HU.d, hK2 _ .refl⟩⟩
      · cases he'
        exact ⟨_, rfl, fun K2 hK2 => ⟨_, rfl, _, rfl, _, rfl, _, rfl, _, rfl, U.1, U.2.1, U.2.2.1, U.2.2.2, _, _, rfl, rfl, rfl, bd20 HU.a, bd20 HU.b, bd20 HU.c, bd20 HU.d, hK2 _ .refl⟩⟩
    refine ⟨_, rfl, [.tup [.int U.1, .int U.2.1], .tup [.int U.2.2.1, .int U.2.2.2]], rfl, comp_map (fun j => if j = 0 then .int (Int.sign (sd1 V U)) else .int (Int.sign (sd2 V U))) (Nat.le_of_ble_eq_true rfl) (fun _ _ _ => rfl) ?_ (fun p2 hp2 => ?_)⟩
    · intro j e' M2 hj he' _
      have hj : j < 2 := hj
      have he' : [D.tup [.int U.1, .int U.2.1], .tup [.int U.2.2.1, .int U.2.2.2]][j]? = some e' := he'
      rcases (show j = 0 ∨ j = 1 by omega) with rfl | rfl
      · cases he'
        exact ⟨_, rfl, fun K2 hK2 => ⟨_, rfl, _, rfl, _, rfl, _, rfl, _, rfl, V.1, V.2.1, V.2.2.1, V.2.2.2, _, _, rfl, rfl, rfl, bd20 HV.a, bd20 HV.b, bd20 HV.c, bd20 HV.d, hK2 _ .refl⟩⟩
      · cases he'
        exact ⟨_, rfl, fun K2 hK2 => ⟨_, rfl, _, rfl, _, rfl, _, rfl, _, rfl, V.1, V.2.1, V.2.2.1, V.2.2.2, _, _, rfl, rfl, rfl, bd20 HV.a, bd20 HV.b, bd20 HV.c, bd20 HV.d, hK2 _ .refl⟩⟩
    have n12 : p ≠ p2 := ne_fresh updM_same hp2
    have c1 : (updM (updM M' p (.lst [.int (Int.sign (sd1 U V)), .int (Int.sign (sd2 U V))])) p2 (.lst [.int (Int.sign (sd1 V U)), .int (Int.sign (sd2 V U))])) p = some (.lst [.int (Int.sign (sd1 U V)), .int (Int.sign (sd2 U V))]) := by rw [updM_ne n12, updM_same]
    walk_at "un"
    refine orV (decide (0 ≤ Int.sign (sd1 U V) * Int.sign (sd2 U V))) (decide (0 ≤ Int.sign (sd1 V U) * Int.sign (sd2 V U))) (fun K hK => ⟨_, rfl, _, _, c1, rfl, _, rfl, _, _, c1, rfl, mulOk_l (sg_bd _), trivial, hK⟩) (fun _ K hK => ⟨_, rfl, _, _, updM_same, rfl, _, rfl, _, _, updM_same, rfl, mulOk_l (sg_bd _), trivial, hK⟩) ?_
    refine ⟨M', .new hp2 (.new hp .refl), k _ fun z => ⟨hne, e1, e2, e3, e4, ?_⟩⟩
    rw [Bool.or_eq_true, decide_eq_true_eq, decide_eq_true_eq] at z
    exact z
/-! ### _law_shuts_here, level 4 -/
theorem sc_law_shuts_here : FnScope ["_law_row", "_law_most", "_law_size", "_law_shuts", "_law_turn_here", "_law_one", "_law_other", "_law_shut"] ["_law_row", "_law_most", "_law_size"] (defScope s_law_shuts_here) := ⟨rfl, rfl, rfl, by decide +kernel, rfl, by decide +kernel, by decide +kernel⟩
noncomputable def sp_law_shuts_here : SpD := fun ds M Q => match ds with
  | [u, m, n] => ∃ (r : Addr) (x c m' : Int), u = .ref r ∧ m = .int m' ∧ (0 ≤ m' ∧ m' ≤ 12) ∧ n = .int 5 ∧ M r = some (.lst [.int x, .int c]) ∧ 0 ≤ c ∧ c < 1000 ∧
      ∀ (M'' : MH) (x' c' : Int) (l : Addr) (ws : List Wl), r ≠ l → M'' r = some (.lst [.int x', .int c']) → M'' l = some (.lst (ws.map uw)) → 0 ≤ c' → c' ≤ c + 140 → ws.length ≤ 12 → (∀ w ∈ ws, Un5 w) → PF ws → Q (.ref l) M''
  | _ => False
theorem ln_law_shuts_here : ∀ ds M Q, sp_law_shuts_here ds M Q → ds.length = 3 := fun ds M Q h => by
  unfold sp_law_shuts_here at h
  split at h
  · rfl
  · exact h.elim
set_option maxHeartbeats 4000000 in
theorem c_law_shuts_here {P : Program} {w : World} {K : PySem.W.Frag} {mg : Str → Option Value} {base : Heap} (T : Tx K mg) : Cal P w K mg base 4 "_law_shuts_here" sp_law_shuts_here := by
  refine calD (k := 3) (N := ["_law_row", "_law_most", "_law_size", "_law_shuts", "_law_turn_here", "_law_one", "_law_other", "_law_shut"]) (ps := ["_law_row", "_law_most", "_law_size"]) T.f_law_shuts_here sc_law_shuts_here (fun _ _ _ _ _ _ us hl => match us, hl with | [_, _, _], _ => rfl) ln_law_shuts_here fun f cdv A outer s H E hr => ⟨_, (dss_cons (ds_set 3 sc_law_shuts_here.nd (de_lst da_nil))
      (dss_cons (ds_forR PassesOwn.never rfl rfl T.b_range (da_cons (de_call ((c_law_take T).mono (by decide)) hr (da_cons (dv 0) (da_cons (de_op od_add (dv 1) de_int) da_nil))) da_nil) (dg_name 4 sc_law_shuts_here.nd) (dss_cons (ds_set 5 sc_law_shuts_here.nd (de_tup (da_cons (de_call ((c_law_take T).mono (by decide)) hr (da_cons (dv 0) (da_cons (dv 2) da_nil))) (da_cons (de_call ((c_law_take T).mono (by decide)) hr (da_cons (dv 0) (da_cons (dv 2) da_nil))) da_nil))))
      (dss_cons (ds_set 6 sc_law_shuts_here.nd (de_tup (da_cons (de_call ((c_law_take T).mono (by decide)) hr (da_cons (dv 0) (da_cons (dv 2) da_nil))) (da_cons (de_call ((c_law_take T).mono (by decide)) hr (da_cons (dv 0) (da_cons (dv 2) da_nil))) da_nil))))
      (dss_cons (ds_if (dt_w (dw_and (dt_cmp (od_ne hr.units) (dv 3) (de_lst da_nil)) (dw_and1 (dt_cmp (od_gtX hr.units) (de_call ((c_law_take T).mono (by decide)) hr (da_cons (dv 0) (da_cons de_int da_nil))) de_int)))) (dss_one (ds_set 5 sc_law_shuts_here.nd (de_ix (de_ix (dv 3) (de_call ((c_law_take T).mono (by decide)) hr (da_cons (dv 0) (da_cons (de_callB cd_len rfl T.b_len bt_len (da_cons (dv 3) da_nil)) da_nil)))) (de_call ((c_law_take T).mono (by decide)) hr (da_cons (dv 0) (da_cons de_int da_nil)))))) dss_nil)
      (dss_cons (ds_set 7 sc_law_shuts_here.nd (de_tup (da_cons (de_callB (cd_minX rfl hr.units) rfl T.b_min bt_min (da_cons (dv 5) (da_cons (dv 6) da_nil))) (da_cons (de_callB (cd_maxX rfl hr.units) rfl T.b_max bt_max (da_cons (dv 5) (da_cons (dv 6) da_nil))) da_nil))))
      (dss_one (ds_if (dt_w (dw_and (dt_cmp (od_ne hr.units) (dv 5) (dv 6)) (dw_and1 (dt_val (de_callB (cd_all rfl) rfl T.b_all bt_all (da_cons (de_comp1 (CScope.of (xs := ["_law_beside"]) (js := [7]) rfl) rfl (di_seq (dv 3)) (fun _ _ _ _ => dts_nil) (fun _ _ _ _ => (de_call ((c_law_fair T).mono (by decide)) hr (da_cons (dv 1) (da_cons (dv 0) da_nil))))) da_nil)))))) (dss_one (ds_expr (de_m_append (dv 3) (da_cons (dv 7) da_nil)))) dss_nil)))))))
      (dss_one (ds_ret (dv 3))))), fun ds M Q h => ?r⟩
  case r =>
    -- slots: 0 _law_row, 1 _law_most, 2 _law_size, 3 _law_shuts, 4 _law_turn_here, 5 _law_one, 6 _law_other, 7 _law_shut
    unfold sp_law_shuts_here at h
    split at h
    case h_2 => exact h.elim
    obtain ⟨r, x0, c0, m, rfl, rfl, hm, rfl, hM, hc0, hc1, k⟩ := h
    refine ⟨Nat.le_of_ble_eq_true rfl, fun l hl => ?_⟩
    have nrl : r ≠ l := ne_fresh hM hl
    refine ⟨_, rfl, _, rfl, r, m + 1, x0, c0, rfl, rfl, (by rw [updM_ne nrl]; exact hM), hc0, by omega, by omega, bd64 (by omega), fun x1 v h0 h1 => ?_⟩
    refine ⟨v.toNat, ?_, by omega, fun i δ M' => ∃ (x c : Int) (ws : List Wl) (o4 o5 o6 o7 : Option D), δ = [some (.ref r), some (.int m), some (.int 5), some (.ref l), o4, o5, o6, o7] ∧ M' r = some (.lst [.int x, .int c]) ∧ M' l = some (.lst (ws.map uw)) ∧ 0 ≤ c ∧ c ≤ c0 + 1 + 10 * i ∧ ws.length ≤ i ∧ (∀ w ∈ ws, Un5 w) ∧ PF ws, ?_, ?_, ?_⟩
    · rw [Int.toNat_of_nonneg h0]
    · refine ⟨x1, c0 + 1, [], _, _, _, _, rfl, updM_same, (by rw [updM_ne nrl.symm, updM_same]; rfl), by omega, by omega, by decide, fun w hw => absurd hw (by simp), pf_nil⟩
    rotate_left
    · rintro δ M' ⟨x, c, ws, o4, o5, o6, o7, rfl, hr', hl', g0, g1, g2, g3, g4⟩
      exact ⟨_, rfl, rtn (k M' x c l ws nrl hr' hl' g0 (by omega) (by omega) g3 g4)⟩
    rintro i δ M' hi ⟨x, c, ws, o4, o5, o6, o7, rfl, hr', hl', g0, g1, g2, g3, g4⟩
    have hi8 : i ≤ 12 := by omega
    refine ⟨_, rfl, _, rfl, r, 5, x, c, rfl, rfl, hr', g0, by omega, by decide, bd64 (by decide), fun x1 p hp0 hp1 => ?_⟩
    refine ⟨_, rfl, _, rfl, r, 5, x1, c + 1, rfl, rfl, updM_same, by omega, by omega, by decide, bd64 (by decide), fun x2 q hq0 hq1 => ⟨Nat.le_of_ble_eq_true rfl, ?_⟩⟩
    refine ⟨_, rfl, _, rfl, r, 5, x2, c + 1 + 1, rfl, rfl, updM_same, by omega, by omega, by decide, bd64 (by decide), fun x3 e he0 he1 => ?_⟩
    refine ⟨_, rfl, _, rfl, r, 5, x3, c + 1 + 1 + 1, rfl, rfl, updM_same, by omega, by omega, by decide, bd64 (by decide), fun x4 f hf0 hf1 => ⟨Nat.le_of_ble_eq_true rfl, ?_⟩⟩
    simp only [updM_updM]
    have hl4 : (updM M' r (.lst [.int x4, .int (c + 1 + 1 + 1 + 1)])) l = some (.lst (ws.map uw)) := by rw [updM_ne nrl.symm]; exact hl'
    have hr4 : (updM M' r (.lst [.int x4, .int (c + 1 + 1 + 1 + 1)])) r = some (.lst [.int x4, .int (c + 1 + 1 + 1 + 1)]) := updM_same
    generalize updM M' r (.lst [.int x4, .int (c + 1 + 1 + 1 + 1)]) = M4 at hl4 hr4 ⊢
    walk_at "nx"
    refine seq_cut (fun δ M' => ∃ (x c' p q : Int) (o7 : Option D), δ = [some (.ref r), some (.int m), some (.int 5), some (.ref l), some (.int (i : Int)), some (.tup [.int p, .int q]), some (.tup [.int e, .int f]), o7] ∧ M' r = some (.lst [.int x, .int c']) ∧ M' l = some (.lst (ws.map uw)) ∧ 0 ≤ c' ∧ c' ≤ c + 10 ∧ (0 ≤ p ∧ p ≤ 20) ∧ (0 ≤ q ∧ q ≤ 20)) ?_ (fun hu => ?_)
    rotate_left
    · refine ⟨_, rfl, Nat.le_of_ble_eq_true rfl, fun z hz => ?_⟩
      have nrz : r ≠ z := ne_fresh hr4 hz
      have nlz : l ≠ z := ne_fresh hl4 hz
      have hl5 : (updM M4 z (.lst [])) l = some (.lst (ws.map uw)) := by rw [updM_ne nlz]; exact hl4
      have hr5 : (updM M4 z (.lst [])) r = some (.lst [.int x4, .int (c + 1 + 1 + 1 + 1)]) := by rw [updM_ne nrz]; exact hr4
      refine ⟨_, _, .lst hl5 (pds_ws ws), .lst updM_same .nil, shaped_ws ws, rfl, _, rfl, ?_⟩
      rw [eqv_ws_nil]
      refine ite2 (fun hne => ?_) (fun hnil => ?_)
      · have hpos : 0 < ws.length := by
          cases ws with
          | nil => simp at hne
          | cons w ws => simp
        refine ⟨_, rfl, r, 3, x4, c + 1 + 1 + 1 + 1, rfl, rfl, hr5, by omega, by omega, by decide, bd64 (by decide), fun x5 v5 h50 h51 => ⟨trivial, _, rfl, ?_⟩⟩
        have hl6 : (updM (updM M4 z (.lst [])) r (.lst [.int x5, .int (c + 1 + 1 + 1 + 1 + 1)])) l = some (.lst (ws.map uw)) := by rw [updM_ne nrl.symm]; exact hl5
        refine ite2 (fun _ => ?_) (fun _ => ?_)
        · refine ⟨_, rfl, _, rfl, _, rfl, _, hl6, r, ((ws.map uw).length : Int), x5, c + 1 + 1 + 1 + 1 + 1, rfl, rfl, updM_same, by omega, by omega, by simpa using hpos, bd64 (by simp; omega), fun x6 v6 h60 h61 => ?_⟩
          obtain ⟨w, hw, ew⟩ := ws_pick (ws := ws) h60 (by simpa using h61)
          have hw5 := g3 w hw
          refine ⟨_, _, (by rw [updM_ne nrl.symm]; exact hl6), ew, ?_⟩
          refine ⟨_, rfl, r, 2, x6, c + 1 + 1 + 1 + 1 + 1 + 1, rfl, rfl, updM_same, by omega, by omega, by decide, bd64 (by decide), fun x7 v7 h70 h71 => ?_⟩
          obtain ⟨a, b, ea, ha, hb⟩ := end_pick hw5 h70 h71
          refine ⟨_, ea, hu _ _ ⟨x7, _, a, b, _, rfl, updM_same, (by rw [updM_ne nrl.symm, updM_ne nrl.symm]; exact hl6), by omega, by omega, ha, hb⟩⟩
        · exact hu _ _ ⟨x5, _, p, q, _, rfl, updM_same, hl6, by omega, by omega, by omega, by omega⟩
      · refine iteB rfl ?_
        exact hu _ _ ⟨x4, _, p, q, _, rfl, hr5, hl5, by omega, by omega, by omega, by omega⟩
    rintro δ M5 ⟨x5, c5, p, q, o7, rfl, hr5, hl5, k0, k1, hp, hq⟩
    have he : 0 ≤ e ∧ e ≤ 20 := by omega
    have hf : 0 ≤ f ∧ f ≤ 20 := by omega
    refine ⟨_, rfl, _, rfl, [p, q], [e, f], rfl, rfl, ?_⟩
    refine ⟨_, rfl, _, rfl, [p, q], [e, f], rfl, rfl, Nat.le_of_ble_eq_true rfl, ?_⟩
    refine ⟨_, rfl, _, rfl, _, _, Pd.of rfl, Pd.of rfl, rfl, rfl, _, rfl, ?_⟩
    rw [eqv_two]
    refine ite2 (fun hne => ?_) (fun _ => ?_)
    rotate_left
    · refine iteB rfl ?_
      exact ⟨x5, c5, ws, _, _, _, _, rfl, hr5, hl5, k0, by omega, by omega, g3, g4⟩
    obtain ⟨w, e1, e2, hw⟩ := order_two hp hq he hf (fun ⟨a, b⟩ => by simp [a, b] at hne)
    rw [e1, e2]
    refine ⟨_, rfl, ws.map uw, hl5, ?_⟩
    refine ⟨by simp; omega, fun z hz => ?_⟩
    have nrz : r ≠ z := ne_fresh hr5 hz
    have nlz : l ≠ z := ne_fresh hl5 hz
    refine ⟨fun j ys M' => ∃ bs : List Bool, ys = bs.map D.bl ∧ bs.length = j ∧ (∀ (t : Nat) (v : Wl), bs[t]? = some true → ws[t]? = some v → Fair w v) ∧ M' = updM M5 z (.lst ys), ⟨[], rfl, rfl, fun t v h => by simp at h, rfl⟩, ?_, ?_, ?_⟩
    · rintro j ys M' _ ⟨bs, _, _, _, rfl⟩
      show (updM M5 z _) l = _
      rw [updM_ne nlz]; exact hl5
    · rintro j ys d M' hj hd ⟨bs, rfl, hlen, hf, rfl⟩
      have hd : (ws.map uw)[j]? = some d := hd
      rw [List.getElem?_map] at hd
      cases ev : ws[j]? with
      | none => rw [ev] at hd; cases hd
      | some v =>
        rw [ev] at hd
        cases hd
        refine ⟨_, rfl, ?_⟩
        dsimp only [SD.tTrueD]
        refine iteT ?_
        refine ⟨_, rfl, _, rfl, w, v, rfl, rfl, hw, g3 v (List.mem_of_getElem? ev), fun b hb => ?_⟩
        refine ⟨_, .refl, updM_same, bs ++ [b], by simp, by simp [hlen], fun t v' ht hv' => ?_, by rw [updM_updM]⟩
        rcases Nat.lt_trichotomy t bs.length with y | y | y
        · rw [List.getElem?_append_left y] at ht
          exact hf t v' ht hv'
        · subst y
          rw [List.getElem?_append_right (Nat.le_refl _)] at ht
          have hb' : b = true := by simpa using ht
          rw [hlen, ev] at hv'
          cases hv'
          exact hb hb'
        · rw [List.getElem?_eq_none (by simp; omega)] at ht; cases ht
    rintro ys M' ⟨bs, rfl, hlen, hf, rfl⟩
    have hlen' : bs.length = ws.length := by rw [hlen]; simp
    have hl6 : (updM M5 z (.lst (bs.map D.bl))) l = some (.lst (ws.map uw)) := by rw [updM_ne nlz]; exact hl5
    have hr6 : (updM M5 z (.lst (bs.map D.bl))) r = some (.lst [.int x5, .int c5]) := by rw [updM_ne nrz]; exact hr5
    refine ⟨bs, updM_same, _, rfl, ?_⟩
    refine ite2 (fun hall => ?_) (fun _ => ?_)
    · refine ⟨_, rfl, l, _, rfl, hl6, _, rfl, ws.map uw, _, rfl, hl6, by simp; omega, ?_⟩
      refine ⟨x5, c5, ws ++ [w], _, _, _, _, rfl, by rw [updM_ne nrl]; exact hr6, by rw [updM_same, List.map_append]; rfl, k0, by omega, by simp; omega, fun v hv => ?_, pf_append g4 fun t v hv => hf t v ?_ hv⟩
      · rcases List.mem_append.mp hv with y | y
        · exact g3 v y
        · rw [List.mem_singleton.mp y]; exact hw
      · have ht : t < bs.length := by
          rw [hlen']
          exact (List.getElem?_eq_some_iff.mp hv).1
        rw [List.getElem?_eq_getElem ht]
        have := List.all_eq_true.mp hall _ (List.getElem_mem ht)
        exact congrArg some this
    · exact ⟨x5, c5, ws, _, _, _, _, rfl, hr6, hl6, k0, by omega, by omega, g3, g4⟩
/-! ### _law_squares, level 2 -/
theorem sc_law_squares : FnScope ["_law_row", "_law_many", "_law_shuts", "_law_k", "_law_found", "_law_number"] ["_law_row"] (defScope s_law_squares) := ⟨rfl, rfl, rfl, by decide +kernel, rfl, by decide +kernel, by decide +kernel⟩
noncomputable def sp_law_squares : SpD := fun ds M Q => match ds with
  | [u] => ∃ (r : Addr) (x c : Int), u = .ref r ∧ M r = some (.lst [.int x, .int c]) ∧ 0 ≤ c ∧ c < 1000 ∧
      ∀ (M'' : MH) (x' c' : Int) (l : Addr) (ws : List Wl), r ≠ l → M'' r = some (.lst [.int x', .int c']) → M'' l = some (.lst (ws.map uw)) → 0 ≤ c' → c' ≤ c + 41 → PF ws → (∀ w ∈ ws, Un5 w) → ws.length ≤ 40 → Q (.ref l) M''
  | _ => False
theorem ln_law_squares : ∀ ds M Q, sp_law_squares ds M Q → ds.length = 1 := fun ds M Q h => by
  unfold sp_law_squares at h
  split at h
  · rfl
  · exact h.elim
set_option maxHeartbeats 4000000 in
theorem c_law_squares {P : Program} {w : World} {K : PySem.W.Frag} {mg : Str → Option Value} {base : Heap} (T : Tx K mg) : Cal P w K mg base 2 "_law_squares" sp_law_squares := by
  refine calD (k := 1) (N := ["_law_row", "_law_many", "_law_shuts", "_law_k", "_law_found", "_law_number"]) (ps := ["_law_row"]) T.f_law_squares sc_law_squares (fun _ _ _ _ _ _ us hl => match us, hl with | [_], _ => rfl) ln_law_squares fun f cdv A outer s H E hr => ⟨_, (dss_cons (ds_set 1 sc_law_squares.nd (de_op od_add de_int (de_call ((c_law_take T).mono (by decide)) hr (da_cons (dv 0) (da_cons de_int da_nil)))))
      (dss_cons (ds_set 2 sc_law_squares.nd (de_lst (da_cons (de_tup (da_cons (de_tup (da_cons (dv 1) (da_cons de_int da_nil))) (da_cons (de_tup (da_cons (dv 1) (da_cons de_int da_nil))) da_nil))) da_nil)))
      (dss_cons (ds_forR PassesOwn.never rfl rfl T.b_range (da_cons (dv 1) da_nil) (dg_name 3 sc_law_squares.nd) (dss_one (ds_set 2 sc_law_squares.nd (de_op od_add (dv 2) (de_lst (da_cons (de_tup (da_cons (de_tup (da_cons (dv 3) (da_cons de_int da_nil))) (da_cons (de_tup (da_cons (de_op od_add (dv 3) de_int) (da_cons de_int da_nil))) da_nil))) (da_cons (de_tup (da_cons (de_tup (da_cons (dv 3) (da_cons de_int da_nil))) (da_cons (de_tup (da_cons (de_op od_add (dv 3) de_int) (da_cons de_int da_nil))) da_nil))) (da_cons (de_tup (da_cons (de_tup (da_cons (dv 3) (da_cons de_int da_nil))) (da_cons (de_tup (da_cons (dv 3) (da_cons de_int da_nil))) da_nil))) da_nil))))))))
      (dss_cons (ds_set 4 sc_law_squares.nd (de_lst da_nil))
      (dss_cons (ds_forR PassesOwn.never rfl rfl T.b_range (da_cons (de_callB cd_len rfl T.b_len bt_len (da_cons (dv 2) da_nil)) da_nil) (dg_name 5 sc_law_squares.nd) (dss_one (ds_expr (de_m_insert (dv 4) (da_cons (de_call ((c_law_take T).mono (by decide)) hr (da_cons (dv 0) (da_cons (de_op od_add (dv 5) de_int) da_nil))) (da_cons (de_ix (dv 2) (dv 5)) da_nil))))))
      (dss_one (ds_ret (dv 4)))))))), fun ds M Q h => ?r⟩
  case r =>
    -- slots: 0 _law_row, 1 _law_many, 2 _law_shuts, 3 _law_k, 4 _law_found, 5 _law_number
    unfold sp_law_squares at h
    split at h
    case h_2 => exact h.elim
    obtain ⟨r, x, c, rfl, hM, hc0, hc1, k⟩ := h
    refine ⟨_, rfl, r, 8, x, c, rfl, rfl, hM, hc0, by omega, by decide, bd64 (by decide), fun x1 v h0 h1 => ?_⟩
    obtain ⟨n, rfl⟩ : ∃ n : Nat, v = (n : Int) := ⟨v.toNat, by omega⟩
    refine ⟨_, rfl, Nat.le_of_ble_eq_true rfl, _, rfl, Nat.le_of_ble_eq_true rfl, Nat.le_of_ble_eq_true rfl, Nat.le_of_ble_eq_true rfl, fun l0 hl0 => ?_⟩
    have nr0 : r ≠ l0 := ne_fresh updM_same hl0
    have hr1 : (updM (updM M r (.lst [.int x1, .int (c + 1)])) l0 (.lst [.tup [.tup [.int (6 + (n : Int)), .int 0], .tup [.int (6 + (n : Int)), .int 1]]])) r = some (.lst [.int x1, .int (c + 1)]) := by rw [updM_ne nr0, updM_same]
    have hl1 : (updM (updM M r (.lst [.int x1, .int (c + 1)])) l0 (.lst [.tup [.tup [.int (6 + (n : Int)), .int 0], .tup [.int (6 + (n : Int)), .int 1]]])) l0 = some (.lst ((sqL ((6 + n : Nat) : Int) 0).map uw)) := by rw [updM_same]; simp [sqL, sqV, uw]
    generalize updM (updM M r (.lst [.int x1, .int (c + 1)])) l0 _ = M1 at hr1 hl1 ⊢
    walk_at "nx"
    refine seq_cut (fun δ M' => ∃ (l2 : Addr) (o3 o4 o5 : Option D), δ = [some (.ref r), some (.int ((6 + n : Nat) : Int)), some (.ref l2), o3, o4, o5] ∧ M' r = some (.lst [.int x1, .int (c + 1)]) ∧ M' l2 = some (.lst ((sqL ((6 + n : Nat) : Int) (6 + n)).map uw)) ∧ r ≠ l2) ?_ (fun hu => ?_)
    rotate_left
    · refine ⟨_, rfl, 6 + n, by simp, by omega, fun i δ M' => ∃ (l2 : Addr) (o3 o4 o5 : Option D), δ = [some (.ref r), some (.int ((6 + n : Nat) : Int)), some (.ref l2), o3, o4, o5] ∧ M' r = some (.lst [.int x1, .int (c + 1)]) ∧ M' l2 = some (.lst ((sqL ((6 + n : Nat) : Int) i).map uw)) ∧ r ≠ l2, ⟨l0, _, _, _, by simp; rfl, hr1, hl1, nr0⟩, ?_, fun δ M' h => hu _ _ h⟩
      rintro i δ M2 hi ⟨l2, o3, o4, o5, rfl, hr2, hl2, nr2⟩
      have sz : 1000000 ≤ sizeLine := Nat.le_of_ble_eq_true rfl
      have hlen := sqL_len ((6 + n : Nat) : Int) i
      refine ⟨_, rfl, ?_⟩
      refine ⟨_, rfl, Nat.le_of_ble_eq_true rfl, _, rfl, Nat.le_of_ble_eq_true rfl, Nat.le_of_ble_eq_true rfl, ?_⟩
      refine ⟨_, rfl, Nat.le_of_ble_eq_true rfl, _, rfl, Nat.le_of_ble_eq_true rfl, Nat.le_of_ble_eq_true rfl, ?_⟩
      refine ⟨_, rfl, Nat.le_of_ble_eq_true rfl, _, rfl, Nat.le_of_ble_eq_true rfl, Nat.le_of_ble_eq_true rfl, Nat.le_of_ble_eq_true rfl, fun l3 hl3 => ?_⟩
      have n23 : l2 ≠ l3 := ne_fresh hl2 hl3
      have nr3 : r ≠ l3 := ne_fresh hr2 hl3
      refine ⟨_, _, (by rw [updM_ne n23]; exact hl2), updM_same, (by rw [List.length_map, hlen]; show 1 + 3 * i + 3 ≤ sizeLine; omega), fun l4 hl4 => ?_⟩
      have hr3 : (updM M2 l3 (.lst [.tup [.tup [.int (i : Int), .int 0], .tup [.int ((i : Int) + 1), .int 0]], .tup [.tup [.int (i : Int), .int 1], .tup [.int ((i : Int) + 1), .int 1]], .tup [.tup [.int (i : Int), .int 0], .tup [.int (i : Int), .int 1]]])) r = some (.lst [.int x1, .int (c + 1)]) := by rw [updM_ne nr3]; exact hr2
      have nr4 : r ≠ l4 := ne_fresh hr3 hl4
      exact ⟨l4, _, _, _, rfl, by rw [updM_ne nr4]; exact hr3, by rw [updM_same, sqL, List.map_append]; rfl, nr4⟩
    rintro δ M2 ⟨l2, o3, o4, o5, rfl, hr2, hl2, nr2⟩
    have hlen := sqL_len ((6 + n : Nat) : Int) (6 + n)
    refine ⟨Nat.le_of_ble_eq_true rfl, fun l4 hl4 => ?_⟩
    have nr4 : r ≠ l4 := ne_fresh hr2 hl4
    have n24 : l2 ≠ l4 := ne_fresh hl2 hl4
    have hr3 : (updM M2 l4 (.lst [])) r = some (.lst [.int x1, .int (c + 1)]) := by rw [updM_ne nr4]; exact hr2
    have hl3 : (updM M2 l4 (.lst [])) l2 = some (.lst ((sqL ((6 + n : Nat) : Int) (6 + n)).map uw)) := by rw [updM_ne n24]; exact hl2
    have hf3 : (updM M2 l4 (.lst [])) l4 = some (.lst (([] : List Wl).map uw)) := updM_same
    generalize updM M2 l4 (.lst []) = M3 at hr3 hl3 hf3 ⊢
    refine ⟨_, rfl, _, hl3, 1 + 3 * (6 + n), by rw [List.length_map, hlen], by omega, fun i δ M' => ∃ (x' : Int) (ws : List Wl) (o5 : Option D), δ = [some (.ref r), some (.int ((6 + n : Nat) : Int)), some (.ref l2), o3, some (.ref l4), o5] ∧ M' r = some (.lst [.int x', .int (c + 1 + i)]) ∧ M' l2 = some (.lst ((sqL ((6 + n : Nat) : Int) (6 + n)).map uw)) ∧ M' l4 = some (.lst (ws.map uw)) ∧ ws.Perm ((sqL ((6 + n : Nat) : Int) (6 + n)).take i), ⟨x1, [], _, rfl, by simpa using hr3, hl3, hf3, by simp⟩, ?_, ?_⟩
    rotate_left
    · rintro δ M' ⟨x', ws, o5, rfl, hr', hl', hf', pm⟩
      rw [List.take_of_length_le (by omega)] at pm
      obtain ⟨q1, q2, q3⟩ := sq_pf (m := 6 + n) (by omega) pm
      exact ⟨_, rfl, rtn (k M' x' _ l4 ws nr4 hr' hf' (by omega) (by omega) q1 q2 q3)⟩
    rintro i δ M4 hi ⟨x', ws, o5, rfl, hr', hl', hf', pm⟩
    have hwlen : ws.length = i := by rw [pm.length_eq, List.length_take, hlen]; omega
    have hil : i < (sqL ((6 + n : Nat) : Int) (6 + n)).length := by omega
    refine ⟨_, rfl, l4, _, rfl, hf', ?_⟩
    refine ⟨_, rfl, _, rfl, r, (i : Int) + 1, x', c + 1 + i, rfl, rfl, hr', by omega, by omega, by omega, bd64 (by omega), fun x2 v2 h20 h21 => ?_⟩
    obtain ⟨j, rfl⟩ : ∃ j : Nat, v2 = (j : Int) := ⟨v2.toNat, by omega⟩
    refine ⟨_, rfl, _, rfl, _, _, (by rw [updM_ne nr2.symm]; exact hl'), atI_nat (v := uw (sqL ((6 + n : Nat) : Int) (6 + n))[i]) (by rw [List.getElem?_map, List.getElem?_eq_getElem hil]; rfl), ?_⟩
    refine ⟨_, _, j, rfl, (by rw [updM_ne nr4.symm]; exact hf'), by simp; omega, by simp; omega, ?_⟩
    refine ⟨x2, insD ws j (sqL ((6 + n : Nat) : Int) (6 + n))[i], _, rfl, (by rw [updM_ne nr4, updM_same, show c + 1 + ((i + 1 : Nat) : Int) = c + 1 + (i : Int) + 1 by omega]), (by rw [updM_ne n24, updM_ne nr2.symm]; exact hl'), (by rw [updM_same, insD_map]), ?_⟩
    rw [List.take_succ, List.getElem?_eq_getElem hil]
    exact (insD_perm ws j _).trans ((List.Perm.cons _ pm).trans (by simpa using (List.perm_append_comm (l₁ := [(sqL ((6 + n : Nat) : Int) (6 + n))[i]]) (l₂ := (sqL ((6 + n : Nat) : Int) (6 + n)).take i))))
/-! ### _law_low, level 1 -/
theorem sc_law_low : FnScope ["_law_top", "_law_bottom", "_law_one", "_law_other"] ["_law_top", "_law_bottom"] (defScope s_law_low) := ⟨rfl, rfl, rfl, by decide +kernel, rfl, by decide +kernel, by decide +kernel⟩
noncomputable def sp_law_low : SpD := fun ds M Q => match ds with
  | [x, y] => ∃ t b, x = .int t ∧ y = .int b ∧ b ≠ 0 ∧ Bd 8000 t ∧ Bd 8000 b ∧ Q (Ma.fr (Rat.divInt t b)) M
  | _ => False
theorem ln_law_low : ∀ ds M Q, sp_law_low ds M Q → ds.length = 2 := fun ds M Q h => by
  unfold sp_law_low at h
  split at h
  · rfl
  · exact h.elim
set_option maxHeartbeats 4000000 in
theorem c_law_low {P : Program} {w : World} {K : PySem.W.Frag} {mg : Str → Option Value} {base : Heap} (T : Tx K mg) : Cal P w K mg base 1 "_law_low" sp_law_low := by
  refine calD (k := 0) (N := ["_law_top", "_law_bottom", "_law_one", "_law_other"]) (ps := ["_law_top", "_law_bottom"]) T.f_law_low sc_law_low (fun _ _ _ _ _ _ us hl => match us, hl with | [_, _], _ => rfl) ln_law_low fun f cdv A outer s H E hr => ⟨_, (dss_cons (ds_set 2 sc_law_low.nd (de_callB cd_abs rfl T.b_abs bt_abs (da_cons (dv 0) da_nil)))
      (dss_cons (ds_set 3 sc_law_low.nd (de_callB cd_abs rfl T.b_abs bt_abs (da_cons (dv 1) da_nil)))
      (dss_cons (ds_while PassesOwn.never (dt_cmp (od_ne hr.units) (dv 3) de_int) (dss_one (ds_par 2 3 rfl sc_law_low.nd (da_cons (dv 3) (da_cons (de_op od_mod (dv 2) (dv 3)) da_nil)))))
      (dss_cons (ds_if (dt_cmp (od_ltX hr.units) (dv 1) de_int) (dss_one (ds_set 2 sc_law_low.nd (de_un un_negD (dv 2)))) dss_nil)
      (dss_one (ds_ret (de_tup (da_cons (de_op od_fd (dv 0) (dv 2)) (da_cons (de_op od_fd (dv 1) (dv 2)) da_nil))))))))), fun ds M Q h => ?r⟩
  case r =>
    -- slots: 0 _law_top, 1 _law_bottom, 2 _law_one, 3 _law_other
    unfold sp_law_low at h
    split at h
    case h_2 => exact h.elim
    obtain ⟨t, b, rfl, rfl, hb, ht, hbb, q⟩ := h
    refine ⟨_, rfl, _, rfl, ?_⟩
    have hg := Ma.g_pos (t := t) hb
    have hgd : Bd 8000 ((Nat.gcd t.natAbs b.natAbs : Nat) : Int) := hbb.of_le (by simpa using Nat.gcd_le_right t.natAbs (show 0 < b.natAbs by omega))
    refine ⟨fun m δ M' => M' = M ∧ ∃ x y : Nat, δ = [some (.int t), some (.int b), some (.int x), some (.int y)] ∧ Nat.gcd x y = Nat.gcd t.natAbs b.natAbs ∧ m = y, ⟨_, rfl, _, _, rfl, rfl, rfl⟩, ?_⟩
    rintro m δ M' ⟨rfl, x, y, rfl, hxy, hm⟩
    refine ⟨_, rfl, _, rfl, ?_⟩
    refine ite2 (fun h => ?_) (fun h => ?_)
    · have hy : (y : Int) ≠ 0 := by simpa using h
      refine ⟨_, rfl, _, rfl, _, rfl, hy, _, _, rfl, ?_⟩
      have hy' : 0 < y := by omega
      refine ⟨x % y, by rw [hm]; exact Nat.mod_lt _ hy', rfl, y, x % y, ?_, ?_, rfl⟩
      · rw [← Ma.mod_nat]
        rfl
      · rw [← hxy, Nat.gcd_comm x y, Nat.gcd_rec y x, Nat.gcd_comm]
    · have hy : y = 0 := by simpa using h
      subst hy
      rw [Nat.gcd_zero_right] at hxy
      subst hxy
      walk_at "rd"
      refine ite2 (fun h => ?_) (fun h => ?_)
      · have hneg : b < 0 := by simpa using h
        obtain ⟨e1, e2⟩ := Ma.low_neg (t := t) hneg
        refine ⟨_, rfl, _, rfl, _, rfl, ⟨by omega, hgd.neg⟩, _, rfl, _, rfl, ⟨by omega, hgd.neg⟩, Nat.le_of_ble_eq_true rfl, ?_⟩
        dsimp only
        rw [e1, e2]
        exact rtn q
      · have hpos : 0 < b := by
          have : ¬ b < 0 := by simpa using h
          omega
        obtain ⟨e1, e2⟩ := Ma.low_pos (t := t) hpos
        refine ⟨_, rfl, _, rfl, ⟨by omega, hgd⟩, _, rfl, _, rfl, ⟨by omega, hgd⟩, Nat.le_of_ble_eq_true rfl, ?_⟩
        dsimp only
        rw [e1, e2]
        exact rtn q
/-! ### _law_spot, level 2 -/
theorem sc_law_spot : FnScope ["_law_scale_here", "_law_unit", "_law_top", "_law_bottom", "_law_x", "_law_y"] ["_law_scale_here", "_law_unit"] (defScope s_law_spot) := ⟨rfl, rfl, rfl, by decide +kernel, rfl, by decide +kernel, by decide +kernel⟩
noncomputable def sp_law_spot : SpD := fun ds M Q => match ds with
  | [s, v] => ∃ t b x y p q : Int, s = scl t b x y ∧ v = .tup [.int p, .int q] ∧ Scl t b x y ∧ (-(10 ^ 6) ≤ p ∧ p ≤ 10 ^ 6) ∧ (-(10 ^ 6) ≤ q ∧ q ≤ 10 ^ 6) ∧ Q (Ma.spt (Ma.ut t b x 1 p) (Ma.ut t b y 1 q)) M
  | _ => False
theorem ln_law_spot : ∀ ds M Q, sp_law_spot ds M Q → ds.length = 2 := fun ds M Q h => by
  unfold sp_law_spot at h
  split at h
  · rfl
  · exact h.elim
set_option maxHeartbeats 4000000 in
theorem c_law_spot {P : Program} {w : World} {K : PySem.W.Frag} {mg : Str → Option Value} {base : Heap} (T : Tx K mg) : Cal P w K mg base 2 "_law_spot" sp_law_spot := by
  refine calD (k := 1) (N := ["_law_scale_here", "_law_unit", "_law_top", "_law_bottom", "_law_x", "_law_y"]) (ps := ["_law_scale_here", "_law_unit"]) T.f_law_spot sc_law_spot (fun _ _ _ _ _ _ us hl => match us, hl with | [_, _], _ => rfl) ln_law_spot fun f cdv A outer s H E hr => ⟨_, (dss_cons (ds_asg (dv 0) (dg_tup rfl (dgs_cons (dg_name 2 sc_law_spot.nd) (dgs_cons (dg_name 3 sc_law_spot.nd) (dgs_cons (dg_name 4 sc_law_spot.nd) (dgs_cons (dg_name 5 sc_law_spot.nd) dgs_nil))))))
      (dss_one (ds_ret (de_tup (da_cons (de_call ((c_law_low T).mono (by decide)) hr (da_cons (de_op od_add (de_op od_mul (de_ix (dv 1) de_int) (dv 2)) (dv 4)) (da_cons (dv 3) da_nil))) (da_cons (de_call ((c_law_low T).mono (by decide)) hr (da_cons (de_op od_add (de_op od_mul (de_ix (dv 1) de_int) (dv 2)) (dv 5)) (da_cons (dv 3) da_nil))) da_nil)))))), fun ds M Q h => ?r⟩
  case r =>
    -- slots: 0 _law_scale_here, 1 _law_unit, 2 _law_top, 3 _law_bottom, 4 _law_x, 5 _law_y
    unfold sp_law_spot at h
    split at h
    case h_2 => exact h.elim
    obtain ⟨t, b, x, y, p, q, rfl, rfl, S, hp, hq, k⟩ := h
    have bt : Bd 64 t := by have := S.t0; have := S.t1; show t.natAbs < 2 ^ 64; omega
    have bp : ∀ {z : Int}, (-(10 ^ 6) ≤ z ∧ z ≤ 10 ^ 6) → Bd 64 z := fun {z} h => by show z.natAbs < 2 ^ 64; omega
    have bb : Bd 8000 b := by have := S.b0; have := S.b1; exact bd64 (by omega)
    have big : ∀ {z w : Int}, (-(10 ^ 6) ≤ z ∧ z ≤ 10 ^ 6) → (-(10 ^ 17) ≤ w ∧ w ≤ 10 ^ 17) → Bd 8000 (z * t + w) := fun {z w} h1 h2 => by
      have e1 : Bd 128 (z * t) := (bp h1).mul bt
      have e2 : Bd 128 w := bd64 (by omega)
      exact (e1.add e2).mono (by decide)
    have hb0 : b ≠ 0 := by have := S.b0; omega
    refine ⟨_, rfl, _, rfl, rfl, _, _, rfl, _, _, rfl, _, _, rfl, _, _, rfl, rfl, ?_⟩
    refine ⟨_, rfl, _, rfl, _, rfl, mulOk_r bt, _, rfl, _, rfl, p * t + x, b, rfl, rfl, hb0, big hp ⟨S.x0, S.x1⟩, bb, ?_⟩
    refine ⟨_, rfl, _, rfl, _, rfl, mulOk_r bt, _, rfl, _, rfl, q * t + y, b, rfl, rfl, hb0, big hq ⟨S.y0, S.y1⟩, bb, Nat.le_of_ble_eq_true rfl, ?_⟩
    rw [Ma.ut_one, Ma.ut_one]
    exact rtn k
/-! ### _law_made, level 3 -/
theorem sc_law_made : FnScope ["_law_scale_here", "_law_shuts"] ["_law_scale_here", "_law_shuts"] (defScope s_law_made) := ⟨rfl, rfl, rfl, by decide +kernel, rfl, by decide +kernel, by decide +kernel⟩
noncomputable def sp_law_made : SpD := fun ds M Q => match ds with
  | [s, v] => ∃ (t b x y : Int) (l : Addr) (ws : List (Int × Int × Int × Int)), s = scl t b x y ∧ v = .ref l ∧ M l = some (.lst (ws.map uw)) ∧ Scl t b x y ∧ ws.length ≤ 1000 ∧ (∀ w ∈ ws, Uok (10 ^ 6) w) ∧ Q (.tup (ws.map (rwl t b x y))) M
  | _ => False
theorem ln_law_made : ∀ ds M Q, sp_law_made ds M Q → ds.length = 2 := fun ds M Q h => by
  unfold sp_law_made at h
  split at h
  · rfl
  · exact h.elim
set_option maxHeartbeats 4000000 in
theorem c_law_made {P : Program} {w : World} {K : PySem.W.Frag} {mg : Str → Option Value} {base : Heap} (T : Tx K mg) : Cal P w K mg base 3 "_law_made" sp_law_made := by
  refine calD (k := 2) (N := ["_law_scale_here", "_law_shuts"]) (ps := ["_law_scale_here", "_law_shuts"]) T.f_law_made sc_law_made (fun _ _ _ _ _ _ us hl => match us, hl with | [_, _], _ => rfl) ln_law_made fun f cdv A outer s H E hr => ⟨_, (dss_one (ds_ret (de_callTy cd_tuple rfl T.b_tuple bt_tuple (da_cons (de_comp2 (CScope.of (xs := ["_law_first", "_law_second"]) (js := [0]) rfl) rfl (di_seq (dv 1)) (fun _ _ _ _ => dts_nil) (fun _ _ _ _ => (de_tup (da_cons (de_call ((c_law_spot T).mono (by decide)) hr (da_cons (dv 2) (da_cons (dv 0) da_nil))) (da_cons (de_call ((c_law_spot T).mono (by decide)) hr (da_cons (dv 2) (da_cons (dv 1) da_nil))) da_nil))))) da_nil)))), fun ds M Q h => ?r⟩
  case r =>
    -- slots: 0 _law_scale_here, 1 _law_shuts
    unfold sp_law_made at h
    split at h
    case h_2 => exact h.elim
    obtain ⟨t, b, x, y, l, ws, rfl, rfl, hM, S, hl, hw, k⟩ := h
    refine ⟨_, rfl, ws.map uw, hM, comp_map (fun i => ((ws.map (rwl t b x y))[i]?).getD .non) (by simp; omega) (fun p ys hp => ?_) ?_ (fun p hp => ⟨_, updM_same, ?_⟩)⟩
    · show (updM M p _) l = _
      rw [updM_ne (ne_fresh hM hp)]; exact hM
    · intro i e M' hi he _
      have he : (ws.map uw)[i]? = some e := he
      rw [List.getElem?_map] at he
      cases ew : ws[i]? with
      | none => rw [ew] at he; cases he
      | some w =>
        rw [ew] at he
        cases he
        obtain ⟨u1, u2, u3, u4⟩ := hw w (List.mem_of_getElem? ew)
        refine ⟨_, ⟨_, rfl, rfl, rfl⟩, fun K hK => ?_⟩
        have hK' := hK M' .refl
        rw [getD_map ew] at hK'
        refine ⟨_, rfl, _, rfl, t, b, x, y, w.1, w.2.1, rfl, rfl, S, u1, u2, ?_⟩
        exact ⟨_, rfl, _, rfl, t, b, x, y, w.2.2.1, w.2.2.2, rfl, rfl, S, u3, u4, Nat.le_of_ble_eq_true rfl, hK'⟩
    · refine ⟨_, .new hp .refl, ?_⟩
      have e : (List.range (ws.map uw).length).map (fun i => ((ws.map (rwl t b x y))[i]?).getD .non) = ws.map (rwl t b x y) := by
        have := SD.range_getD (ws.map (rwl t b x y))
        rw [List.length_map] at this ⊢
        exact this
      dsimp only
      rw [e]
      exact k
/-! ### face_ends, level 1 -/
theorem sc_face_ends : FnScope ["plot", "face", "first", "second"] ["plot", "face"] (defScope s_face_ends) := ⟨rfl, rfl, rfl, by decide +kernel, rfl, by decide +kernel, by decide +kernel⟩
noncomputable def sp_face_ends : SpD := fun ds M Q => match ds with
  | [u, v] => ∃ (t b X Y : Int) (ws : List Wl) (f : Nat), u = .tup (ws.map (rwl t b X Y)) ∧ v = .int (f : Int) ∧ f < 2 * ws.length ∧ ws.length ≤ 1000 ∧ Q (rwl t b X Y (fw ws f)) M
  | _ => False
theorem ln_face_ends : ∀ ds M Q, sp_face_ends ds M Q → ds.length = 2 := fun ds M Q h => by
  unfold sp_face_ends at h
  split at h
  · rfl
  · exact h.elim
set_option maxHeartbeats 4000000 in
theorem c_face_ends {P : Program} {w : World} {K : PySem.W.Frag} {mg : Str → Option Value} {base : Heap} (T : Tx K mg) : Cal P w K mg base 1 "face_ends" sp_face_ends := by
  refine calD (k := 0) (N := ["plot", "face", "first", "second"]) (ps := ["plot", "face"]) T.f_face_ends sc_face_ends (fun _ _ _ _ _ _ us hl => match us, hl with | [_, _], _ => rfl) ln_face_ends fun f cdv A outer s H E hr => ⟨_, (dss_cons (ds_asg (de_ix (dv 0) (de_op od_fd (dv 1) de_int)) (dg_tup rfl (dgs_cons (dg_name 2 sc_face_ends.nd) (dgs_cons (dg_name 3 sc_face_ends.nd) dgs_nil))))
      (dss_one (ds_ret (de_ife (dt_cmp (od_eq hr.units) (de_op od_mod (dv 1) de_int) de_int) (de_tup (da_cons (dv 2) (da_cons (dv 3) da_nil))) (de_tup (da_cons (dv 3) (da_cons (dv 2) da_nil))))))), fun ds M Q h => ?r⟩
  case r =>
    -- slots: 0 plot, 1 face, 2 first, 3 second
    unfold sp_face_ends at h
    split at h
    case h_2 => exact h.elim
    obtain ⟨t, b, X, Y, ws, f, rfl, rfl, hf, hlen, k⟩ := h
    obtain ⟨w1, w2, w3⟩ := wAt_get (ws := ws) (k := ((f / 2 : Nat) : Int)) (by omega) (by omega)
    have ed : (f : Int).fdiv 2 = ((f / 2 : Nat) : Int) := by rw [Int.fdiv_eq_ediv_of_nonneg _ (by decide)]; omega
    have em : (f : Int).fmod 2 = ((f % 2 : Nat) : Int) := by rw [Int.fmod_eq_emod_of_nonneg _ (by decide)]; omega
    have at1 : atI (ws.map (rwl t b X Y)) ((f : Int).fdiv 2) = some (rwl t b X Y (wAt ws ((f / 2 : Nat) : Int))) := by
      rw [ed]
      refine atI_nat ?_
      rw [Int.toNat_natCast] at w1
      rw [List.getElem?_map, w1]; rfl
    refine ⟨_, rfl, _, rfl, ⟨by decide, bd64 (by decide)⟩, _, at1, ?_⟩
    refine ⟨_, rfl, rfl, _, _, rfl, _, _, rfl, rfl, ?_⟩
    refine ⟨_, rfl, (show (2 : Int) ≠ 0 by decide), _, rfl, ?_⟩
    dsimp only
    rw [em]
    refine ite2 (fun h => ?_) (fun h => ?_)
    · have h : f % 2 = 0 := by have : ((f % 2 : Nat) : Int) = 0 := by simpa using h
                               omega
      refine ⟨_, rfl, _, rfl, Nat.le_of_ble_eq_true rfl, rtn ?_⟩
      unfold fw at k
      rw [if_pos h] at k
      exact k
    · have h : ¬ f % 2 = 0 := fun z => by rw [z] at h; simp at h
      refine ⟨_, rfl, _, rfl, Nat.le_of_ble_eq_true rfl, rtn ?_⟩
      unfold fw at k
      rw [if_neg h] at k
      exact k
/-! ### gap, level 1 -/
theorem sc_gap : FnScope ["one", "other"] ["one", "other"] (defScope s_gap) := ⟨rfl, rfl, rfl, by decide +kernel, rfl, by decide +kernel, by decide +kernel⟩
noncomputable def sp_gap : SpD := fun ds M Q => match ds with
  | [x, y] => ∃ t1 b1 t2 b2 : Int, x = .tup [.int t1, .int b1] ∧ y = .tup [.int t2, .int b2] ∧ Bd 1000000 t1 ∧ Bd 1000000 b1 ∧ Bd 1000000 t2 ∧ Bd 1000000 b2 ∧ Q (.tup [.int (t1 * b2 - t2 * b1), .int (b1 * b2)]) M
  | _ => False
theorem ln_gap : ∀ ds M Q, sp_gap ds M Q → ds.length = 2 := fun ds M Q h => by
  unfold sp_gap at h
  split at h
  · rfl
  · exact h.elim
set_option maxHeartbeats 4000000 in
theorem c_gap {P : Program} {w : World} {K : PySem.W.Frag} {mg : Str → Option Value} {base : Heap} (T : Tx K mg) : Cal P w K mg base 1 "gap" sp_gap := by
  refine calD (k := 0) (N := ["one", "other"]) (ps := ["one", "other"]) T.f_gap sc_gap (fun _ _ _ _ _ _ us hl => match us, hl with | [_, _], _ => rfl) ln_gap fun f cdv A outer s H E hr => ⟨_, (dss_one (ds_ret (de_tup (da_cons (de_op od_sub (de_op od_mul (de_ix (dv 0) de_int) (de_ix (dv 1) de_int)) (de_op od_mul (de_ix (dv 1) de_int) (de_ix (dv 0) de_int))) (da_cons (de_op od_mul (de_ix (dv 0) de_int) (de_ix (dv 1) de_int)) da_nil))))), fun ds M Q h => ?r⟩
  case r =>
    -- slots: 0 one, 1 other
    unfold sp_gap at h
    split at h
    case h_2 => exact h.elim
    obtain ⟨t1, b1, t2, b2, rfl, rfl, h1, h2, h3, h4, k⟩ := h
    refine ⟨_, rfl, _, rfl, _, rfl, _, rfl, mulOk h1 h4, _, rfl, _, rfl, _, rfl, _, rfl, mulOk h3 h2, trivial, ?_⟩
    exact ⟨_, rfl, _, rfl, _, rfl, _, rfl, mulOk h2 h4, Nat.le_of_ble_eq_true rfl, rtn k⟩
/-! ### lean, level 2 -/
theorem sc_lean : FnScope ["wall", "spot", "a", "b", "c", "d", "x", "y", "across", "up", "along", "high"] ["wall", "spot"] (defScope s_lean) := ⟨rfl, rfl, rfl, by decide +kernel, rfl, by decide +kernel, by decide +kernel⟩
noncomputable def sp_lean : SpD := fun ds M Q => match ds with
  | [u, v] => ∃ (n : Nat) (a b c d x y : Rat), u = Ma.wll a b c d ∧ v = Ma.spt x y ∧ Ma.Bq n a ∧ Ma.Bq n b ∧ Ma.Bq n c ∧ Ma.Bq n d ∧ Ma.Bq n x ∧ Ma.Bq n y ∧ n ≤ 20000 ∧
      ∀ t e : Int, 0 < e → Rat.divInt t e = Ma.cr a b c d x y → Bd (8 * n + 3) t → Bd (8 * n + 3) e → Q (.tup [.int t, .int e]) M
  | _ => False
theorem ln_lean : ∀ ds M Q, sp_lean ds M Q → ds.length = 2 := fun ds M Q h => by
  unfold sp_lean at h
  split at h
  · rfl
  · exact h.elim
set_option maxHeartbeats 4000000 in
theorem c_lean {P : Program} {w : World} {K : PySem.W.Frag} {mg : Str → Option Value} {base : Heap} (T : Tx K mg) : Cal P w K mg base 2 "lean" sp_lean := by
  refine calD (k := 1) (N := ["wall", "spot", "a", "b", "c", "d", "x", "y", "across", "up", "along", "high"]) (ps := ["wall", "spot"]) T.f_lean sc_lean (fun _ _ _ _ _ _ us hl => match us, hl with | [_, _], _ => rfl) ln_lean fun f cdv A outer s H E hr => ⟨_, (dss_cons (ds_asg (dv 0) (dg_tup rfl (dgs_cons (dg_tup rfl (dgs_cons (dg_name 2 sc_lean.nd) (dgs_cons (dg_name 3 sc_lean.nd) dgs_nil))) (dgs_cons (dg_tup rfl (dgs_cons (dg_name 4 sc_lean.nd) (dgs_cons (dg_name 5 sc_lean.nd) dgs_nil))) dgs_nil))))
      (dss_cons (ds_asg (dv 1) (dg_tup rfl (dgs_cons (dg_name 6 sc_lean.nd) (dgs_cons (dg_name 7 sc_lean.nd) dgs_nil))))
      (dss_cons (ds_par 8 9 rfl sc_lean.nd (da_cons (de_call ((c_gap T).mono (by decide)) hr (da_cons (dv 4) (da_cons (dv 2) da_nil))) (da_cons (de_call ((c_gap T).mono (by decide)) hr (da_cons (dv 5) (da_cons (dv 3) da_nil))) da_nil)))
      (dss_cons (ds_par 10 11 rfl sc_lean.nd (da_cons (de_call ((c_gap T).mono (by decide)) hr (da_cons (dv 6) (da_cons (dv 2) da_nil))) (da_cons (de_call ((c_gap T).mono (by decide)) hr (da_cons (dv 7) (da_cons (dv 3) da_nil))) da_nil)))
      (dss_one (ds_ret (de_call ((c_gap T).mono (by decide)) hr (da_cons (de_tup (da_cons (de_op od_mul (de_ix (dv 8) de_int) (de_ix (dv 11) de_int)) (da_cons (de_op od_mul (de_ix (dv 8) de_int) (de_ix (dv 11) de_int)) da_nil))) (da_cons (de_tup (da_cons (de_op od_mul (de_ix (dv 9) de_int) (de_ix (dv 10) de_int)) (da_cons (de_op od_mul (de_ix (dv 9) de_int) (de_ix (dv 10) de_int)) da_nil))) da_nil))))))))), fun ds M Q h => ?r⟩
  case r =>
    -- slots: 0 wall, 1 spot, 2 a, 3 b, 4 c, 5 d, 6 x, 7 y, 8 across, 9 up, 10 along, 11 high
    unfold sp_lean at h
    split at h
    case h_2 => exact h.elim
    obtain ⟨n, a, b, c, d, x, y, rfl, rfl, ha, hb, hc, hd, hx, hy, hn, k⟩ := h
    have mo : ∀ {m : Nat} {i : Int}, Bd m i → m ≤ 1000000 → Bd 1000000 i := fun z l => z.mono l
    have q1 := hc.t_sub ha
    have q2 := hd.t_sub hb
    have q3 := hx.t_sub ha
    have q4 := hy.t_sub hb
    have e1 := hc.2.mul ha.2
    have e2 := hd.2.mul hb.2
    have e3 := hx.2.mul ha.2
    have e4 := hy.2.mul hb.2
    refine ⟨_, rfl, _, rfl, rfl, _, _, rfl, ⟨_, rfl, rfl, _, _, rfl, _, _, rfl, rfl, ?_⟩⟩
    refine ⟨_, _, rfl, ⟨_, rfl, rfl, _, _, rfl, _, _, rfl, rfl, ?_⟩⟩
    refine ⟨rfl, _, rfl, _, rfl, rfl, _, _, rfl, _, _, rfl, rfl, ?_⟩
    refine ⟨_, rfl, _, rfl, _, _, _, _, rfl, rfl, mo hc.1 (by omega), mo hc.2 (by omega), mo ha.1 (by omega), mo ha.2 (by omega), ?_⟩
    refine ⟨_, rfl, _, rfl, _, _, _, _, rfl, rfl, mo hd.1 (by omega), mo hd.2 (by omega), mo hb.1 (by omega), mo hb.2 (by omega), ?_⟩
    refine ⟨_, _, rfl, ?_⟩
    refine ⟨_, rfl, _, rfl, _, _, _, _, rfl, rfl, mo hx.1 (by omega), mo hx.2 (by omega), mo ha.1 (by omega), mo ha.2 (by omega), ?_⟩
    refine ⟨_, rfl, _, rfl, _, _, _, _, rfl, rfl, mo hy.1 (by omega), mo hy.2 (by omega), mo hb.1 (by omega), mo hb.2 (by omega), ?_⟩
    refine ⟨_, _, rfl, ?_⟩
    refine ⟨_, rfl, _, rfl, _, rfl, _, rfl, mulOk (mo q1 (by omega)) (mo q4 (by omega)), ?_⟩
    refine ⟨_, rfl, _, rfl, _, rfl, _, rfl, mulOk (mo e1 (by omega)) (mo e4 (by omega)), Nat.le_of_ble_eq_true rfl, ?_⟩
    refine ⟨_, rfl, _, rfl, _, rfl, _, rfl, mulOk (mo q2 (by omega)) (mo q3 (by omega)), ?_⟩
    refine ⟨_, rfl, _, rfl, _, rfl, _, rfl, mulOk (mo e2 (by omega)) (mo e3 (by omega)), Nat.le_of_ble_eq_true rfl, ?_⟩
    refine ⟨_, _, _, _, rfl, rfl, mo (q1.mul q4) (by omega), mo (e1.mul e4) (by omega), mo (q2.mul q3) (by omega), mo (e2.mul e3) (by omega), ?_⟩
    have pe : ∀ q r : Rat, 0 < (q.den : Int) * (r.den : Int) := fun q r => Int.mul_pos (Ma.den_pos q) (Ma.den_pos r)
    refine rtn (k _ _ (Int.mul_pos (Int.mul_pos (pe c a) (pe y b)) (Int.mul_pos (pe d b) (pe x a))) (Ma.lean_eq a b c d x y) ?_ ?_)
    · exact ((((q1.mul q4).mul (e2.mul e3)).mono (show _ ≤ 8 * n + 2 by omega)).sub (((q2.mul q3).mul (e1.mul e4)).mono (show _ ≤ 8 * n + 2 by omega)))
    · exact ((e1.mul e4).mul (e2.mul e3)).mono (by omega)
/-! ### side_of, level 3 -/
theorem sc_side_of : FnScope ["wall", "spot", "top"] ["wall", "spot"] (defScope s_side_of) := ⟨rfl, rfl, rfl, by decide +kernel, rfl, by decide +kernel, by decide +kernel⟩
noncomputable def sp_side_of : SpD := fun ds M Q => match ds with
  | [u, v] => ∃ (n : Nat) (a b c d x y : Rat), u = Ma.wll a b c d ∧ v = Ma.spt x y ∧ Ma.Bq n a ∧ Ma.Bq n b ∧ Ma.Bq n c ∧ Ma.Bq n d ∧ Ma.Bq n x ∧ Ma.Bq n y ∧ n ≤ 1900 ∧ Q (.int (Ma.sgn (Ma.cr a b c d x y))) M
  | _ => False
theorem ln_side_of : ∀ ds M Q, sp_side_of ds M Q → ds.length = 2 := fun ds M Q h => by
  unfold sp_side_of at h
  split at h
  · rfl
  · exact h.elim
set_option maxHeartbeats 4000000 in
theorem c_side_of {P : Program} {w : World} {K : PySem.W.Frag} {mg : Str → Option Value} {base : Heap} (T : Tx K mg) : Cal P w K mg base 3 "side_of" sp_side_of := by
  refine calD (k := 2) (N := ["wall", "spot", "top"]) (ps := ["wall", "spot"]) T.f_side_of sc_side_of (fun _ _ _ _ _ _ us hl => match us, hl with | [_, _], _ => rfl) ln_side_of fun f cdv A outer s H E hr => ⟨_, (dss_cons (ds_set 2 sc_side_of.nd (de_ix (de_call ((c_lean T).mono (by decide)) hr (da_cons (dv 0) (da_cons (dv 1) da_nil))) de_int))
      (dss_cons (ds_if (dt_cmp (od_gtX hr.units) (dv 2) de_int) (dss_one (ds_ret de_int)) dss_nil)
      (dss_cons (ds_if (dt_cmp (od_ltX hr.units) (dv 2) de_int) (dss_one (ds_ret (de_un un_negD de_int))) dss_nil)
      (dss_one (ds_ret de_int))))), fun ds M Q h => ?r⟩
  case r =>
    -- slots: 0 wall, 1 spot, 2 top
    unfold sp_side_of at h
    split at h
    case h_2 => exact h.elim
    obtain ⟨n, a, b, c, d, x, y, rfl, rfl, ha, hb, hc, hd, hx, hy, hn, k⟩ := h
    refine ⟨_, rfl, _, rfl, n, a, b, c, d, x, y, rfl, rfl, ha, hb, hc, hd, hx, hy, by omega, fun t e he hte _ _ => ⟨_, rfl, ?_⟩⟩
    rw [← hte, Ma.sgn_top he] at k
    refine ⟨_, rfl, trivial, _, rfl, ?_⟩
    refine ite2 (fun h => ?_) (fun h => ?_)
    · rw [if_pos (by simpa using h)] at k
      exact rtn k
    rw [if_neg (by simpa using h)] at k
    refine ⟨_, rfl, trivial, _, rfl, ?_⟩
    refine ite2 (fun h => ?_) (fun h => ?_)
    · rw [if_pos (by simpa using h)] at k
      exact rtn k
    · rw [if_neg (by simpa using h)] at k
      exact rtn k

/-! ### is_met_sooner, level 4 -/
theorem sc_is_met_sooner : FnScope ["corner", "came_from", "one", "other", "turn", "other_turn"] ["corner", "came_from", "one", "other"] (defScope s_is_met_sooner) := ⟨rfl, rfl, rfl, by decide +kernel, rfl, by decide +kernel, by decide +kernel⟩
noncomputable def sp_is_met_sooner : SpD := fun ds M Q => match ds with
  | [u, v, x, y] => ∃ (t b X Y : Int) (c p q r : Vc), u = Ma.spt (Ma.ut t b X 1 c.1) (Ma.ut t b Y 1 c.2) ∧ v = Ma.spt (Ma.ut t b X 1 p.1) (Ma.ut t b Y 1 p.2) ∧ x = Ma.spt (Ma.ut t b X 1 q.1) (Ma.ut t b Y 1 q.2) ∧ y = Ma.spt (Ma.ut t b X 1 r.1) (Ma.ut t b Y 1 r.2) ∧ Scl t b X Y ∧
      (0 ≤ c.1 ∧ c.1 ≤ 20) ∧ (0 ≤ c.2 ∧ c.2 ≤ 20) ∧ (0 ≤ p.1 ∧ p.1 ≤ 20) ∧ (0 ≤ p.2 ∧ p.2 ≤ 20) ∧ (0 ≤ q.1 ∧ q.1 ≤ 20) ∧ (0 ≤ q.2 ∧ q.2 ≤ 20) ∧ (0 ≤ r.1 ∧ r.1 ≤ 20) ∧ (0 ≤ r.2 ∧ r.2 ≤ 20) ∧
      Q (.bl (snr (p.1 - c.1, p.2 - c.2) (q.1 - c.1, q.2 - c.2) (r.1 - c.1, r.2 - c.2))) M
  | _ => False
theorem ln_is_met_sooner : ∀ ds M Q, sp_is_met_sooner ds M Q → ds.length = 4 := fun ds M Q h => by
  unfold sp_is_met_sooner at h
  split at h
  · rfl
  · exact h.elim
set_option maxHeartbeats 4000000 in
theorem c_is_met_sooner {P : Program} {w : World} {K : PySem.W.Frag} {mg : Str → Option Value} {base : Heap} (T : Tx K mg) : Cal P w K mg base 4 "is_met_sooner" sp_is_met_sooner := by
  refine calD (k := 3) (N := ["corner", "came_from", "one", "other", "turn", "other_turn"]) (ps := ["corner", "came_from", "one", "other"]) T.f_is_met_sooner sc_is_met_sooner (fun _ _ _ _ _ _ us hl => match us, hl with | [_, _, _, _], _ => rfl) ln_is_met_sooner fun f cdv A outer s H E hr => ⟨_, (dss_cons (ds_set 4 sc_is_met_sooner.nd (de_call ((c_side_of T).mono (by decide)) hr (da_cons (de_tup (da_cons (dv 0) (da_cons (dv 1) da_nil))) (da_cons (dv 2) da_nil))))
      (dss_cons (ds_set 5 sc_is_met_sooner.nd (de_call ((c_side_of T).mono (by decide)) hr (da_cons (de_tup (da_cons (dv 0) (da_cons (dv 1) da_nil))) (da_cons (dv 3) da_nil))))
      (dss_cons (ds_if (dt_cmp (od_ne hr.units) (dv 4) (dv 5)) (dss_one (ds_ret (de_cmp (od_ltX hr.units) (dv 4) (dv 5)))) dss_nil)
      (dss_one (ds_ret (de_cmp (od_eq hr.units) (de_call ((c_side_of T).mono (by decide)) hr (da_cons (de_tup (da_cons (dv 0) (da_cons (dv 2) da_nil))) (da_cons (dv 3) da_nil))) (de_un un_negD de_int))))))), fun ds M Q h => ?r⟩
  case r =>
    -- slots: 0 corner, 1 came_from, 2 one, 3 other, 4 turn, 5 other_turn
    unfold sp_is_met_sooner at h
    split at h
    case h_2 => exact h.elim
    obtain ⟨t, b, X, Y, c, p, q, r, rfl, rfl, rfl, rfl, S, c1, c2, p1, p2, q1, q2, r1, r2, k⟩ := h
    have one : (0 : Int) < 1 ∧ (1 : Int) ≤ 10 ^ 6 := by decide
    have W6 : ∀ {z : Int}, (0 ≤ z ∧ z ≤ 20) → (-(10 ^ 6) ≤ z ∧ z ≤ 10 ^ 6) := fun {z} h => by omega
    have bx : ∀ {z : Int}, (0 ≤ z ∧ z ≤ 20) → Ma.Bq 200 (Ma.ut t b X 1 z) := fun {z} h => S.bx one (W6 h)
    have by' : ∀ {z : Int}, (0 ≤ z ∧ z ≤ 20) → Ma.Bq 200 (Ma.ut t b Y 1 z) := fun {z} h => S.by' one (W6 h)
    have e1 := sgn_sd (X := X) (Y := Y) S.t0 S.b0 (c.1, c.2, p.1, p.2) q.1 q.2
    have e2 := sgn_sd (X := X) (Y := Y) S.t0 S.b0 (c.1, c.2, p.1, p.2) r.1 r.2
    have e3 := sgn_sd (X := X) (Y := Y) S.t0 S.b0 (c.1, c.2, q.1, q.2) r.1 r.2
    have f1 : sd (c.1, c.2, p.1, p.2) q.1 q.2 = vc (p.1 - c.1, p.2 - c.2) (q.1 - c.1, q.2 - c.2) := rfl
    have f2 : sd (c.1, c.2, p.1, p.2) r.1 r.2 = vc (p.1 - c.1, p.2 - c.2) (r.1 - c.1, r.2 - c.2) := rfl
    have f3 : sd (c.1, c.2, q.1, q.2) r.1 r.2 = vc (q.1 - c.1, q.2 - c.2) (r.1 - c.1, r.2 - c.2) := rfl
    rw [f1] at e1
    rw [f2] at e2
    rw [f3] at e3
    dsimp only at e1 e2 e3
    refine ⟨_, rfl, _, rfl, Nat.le_of_ble_eq_true rfl, _, rfl, 200, _, _, _, _, _, _, rfl, rfl, bx c1, by' c2, bx p1, by' p2, bx q1, by' q2, by decide, ?_⟩
    rw [e1]
    refine ⟨_, rfl, _, rfl, Nat.le_of_ble_eq_true rfl, _, rfl, 200, _, _, _, _, _, _, rfl, rfl, bx c1, by' c2, bx p1, by' p2, bx r1, by' r2, by decide, ?_⟩
    rw [e2]
    refine ⟨_, rfl, _, rfl, _, rfl, ?_⟩
    unfold snr at k
    refine ite2 (fun h => ?_) (fun h => ?_)
    · have ne : ¬ Int.sign (vc (p.1 - c.1, p.2 - c.2) (q.1 - c.1, q.2 - c.2)) = Int.sign (vc (p.1 - c.1, p.2 - c.2) (r.1 - c.1, r.2 - c.2)) := fun z => by rw [z] at h; simp at h
      rw [if_neg ne] at k
      exact ⟨_, rfl, _, rfl, trivial, rtn k⟩
    · have eq : Int.sign (vc (p.1 - c.1, p.2 - c.2) (q.1 - c.1, q.2 - c.2)) = Int.sign (vc (p.1 - c.1, p.2 - c.2) (r.1 - c.1, r.2 - c.2)) := by simpa using h
      rw [if_pos eq] at k
      refine ⟨_, rfl, _, rfl, Nat.le_of_ble_eq_true rfl, _, rfl, 200, _, _, _, _, _, _, rfl, rfl, bx c1, by' c2, bx q1, by' q2, bx r1, by' r2, by decide, ?_⟩
      rw [e3]
      have e : decide (vc (q.1 - c.1, q.2 - c.2) (r.1 - c.1, r.2 - c.2) < 0) = decide (Int.sign (vc (q.1 - c.1, q.2 - c.2) (r.1 - c.1, r.2 - c.2)) = -1) := by
        rw [decide_eq_decide]
        rcases sgn3 (vc (q.1 - c.1, q.2 - c.2) (r.1 - c.1, r.2 - c.2)) with z | z | z <;> omega
      rw [e] at k
      exact rtn k
/-! ### face_behind, level 5 -/
theorem sc_face_behind : FnScope ["plot", "leaving", "face", "came_from", "corner", "back", "best", "rival"] ["plot", "leaving", "face"] (defScope s_face_behind) := ⟨rfl, rfl, rfl, by decide +kernel, rfl, by decide +kernel, by decide +kernel⟩
noncomputable def spk (t b X Y : Int) (p : Vc) : SpK := ((Ma.ut t b X 1 p.1).num, ((Ma.ut t b X 1 p.1).den : Int), (Ma.ut t b Y 1 p.2).num, ((Ma.ut t b Y 1 p.2).den : Int))
theorem spk_inj {t b X Y : Int} (ht : 0 < t) (hb : 0 < b) {p q : Vc} (h : spk t b X Y p = spk t b X Y q) : p = q := by
  unfold spk at h
  injection h with h1 h
  injection h with h2 h
  injection h with h3 h4
  have e1 : Ma.ut t b X 1 p.1 = Ma.ut t b X 1 q.1 := Rat.ext h1 (by exact_mod_cast h2)
  have e2 : Ma.ut t b Y 1 p.2 = Ma.ut t b Y 1 q.2 := Rat.ext h3 (by exact_mod_cast h4)
  have f1 := (Ma.ut_eq ht hb (by decide) (by decide)).mp e1
  have f2 := (Ma.ut_eq ht hb (by decide) (by decide)).mp e2
  exact Prod.ext (by omega) (by omega)
noncomputable def lvs (ws : List Wl) (i : Nat) (p : Vc) : List Int := ((List.range i).filter fun g => decide (fa ws g = p)).map fun g : Nat => (g : Int)
theorem lvs_succ (ws : List Wl) (i : Nat) (p : Vc) : lvs ws (i + 1) p = lvs ws i p ++ (if fa ws i = p then [(i : Int)] else []) := by
  unfold lvs
  rw [List.range_succ, List.filter_append, List.map_append]
  by_cases h : fa ws i = p
  · simp [h]
  · simp [h]
theorem lvs_len (ws : List Wl) (i : Nat) (p : Vc) : (lvs ws i p).length ≤ i := by
  unfold lvs
  rw [List.length_map]
  have := List.length_filter_le (fun g => decide (fa ws g = p)) (List.range i)
  simpa using this
theorem valD_new {kvs : SpT} {k : SpK} (d : D) (h : valD kvs k = none) (j : SpK) : valD (putD kvs k d) j = if j = k then some d else valD kvs j := by
  have ha : (kvs.any fun x => decide (x.1 = k)) = false := by
    unfold valD at h
    rw [Option.map_eq_none_iff, List.find?_eq_none] at h
    rw [List.any_eq_false]
    exact h
  unfold putD
  rw [if_neg (by rw [ha]; decide)]
  unfold valD at *
  rw [List.find?_append]
  by_cases e : j = k
  · subst e
    rw [if_pos rfl]
    rw [Option.map_eq_none_iff] at h
    rw [h]
    simp
  · rw [if_neg e]
    have : ¬ k = j := fun z => e z.symm
    cases kvs.find? fun x => decide (x.1 = j) <;> simp [this]
/-- the faces that leave each spot, as far as i -/
structure Lvn (t b X Y : Int) (ws : List Wl) (i : Nat) (M M' : MH) (ld : Addr) (kvs : SpT) (L : Vc → Addr) : Prop where
  d : M' ld = some (dsM kvs)
  some : ∀ p, lvs ws i p ≠ [] → valD kvs (spk t b X Y p) = .some (.ref (L p)) ∧ M' (L p) = .some (.lst ((lvs ws i p).map D.int)) ∧ L p ≠ ld ∧ M (L p) = none
  none : ∀ p, lvs ws i p = [] → valD kvs (spk t b X Y p) = .none
  inj : ∀ p q, lvs ws i p ≠ [] → lvs ws i q ≠ [] → L p = L q → p = q
noncomputable def goneTo (ws : List Wl) (f j : Nat) : Option Nat := ((((List.range (2 * ws.length)).filter fun g => decide (fa ws g = fb ws f)).take j).filter fun g => decide (g ≠ fx f)).foldl (fstep (snF ws f)) none
theorem fold_mem2 (R : Nat → Nat → Bool) : ∀ (l : List Nat) (o : Option Nat) {h : Nat}, l.foldl (fstep R) o = some h → h ∈ l ∨ o = some h
  | [], o, h, e => .inr e
  | g :: l, o, h, e => by
    rw [List.foldl_cons] at e
    rcases fold_mem2 R l _ e with z | z
    · exact .inl (by simp [z])
    · cases o with
      | none => cases z; exact .inl (by simp)
      | some k =>
        unfold fstep at z
        dsimp only at z
        by_cases r : R g k = true
        · rw [if_pos r] at z; cases z; exact .inl (by simp)
        · rw [if_neg r] at z; exact .inr z
theorem goneTo_all (ws : List Wl) (f j : Nat) (h : ((List.range (2 * ws.length)).filter fun g => decide (fa ws g = fb ws f)).length ≤ j) : goneTo ws f j = (cand ws f).foldl (fstep (snF ws f)) none := by
  unfold goneTo cand candB
  rw [List.take_of_length_le h, List.filter_filter]
  congr 1
  apply List.filter_congr
  intro x _
  rw [Bool.and_comm]
theorem goneTo_mem {ws : List Wl} {f j h : Nat} (e : goneTo ws f j = some h) : h ∈ cand ws f := by
  unfold goneTo at e
  rcases fold_mem2 _ _ _ e with z | z
  · have z' := List.mem_filter.mp z
    have z2 := List.mem_filter.mp (List.mem_of_mem_take z'.1)
    exact cand_mem.mpr ⟨by simpa using z2.1, by simpa using z2.2, by simpa using z'.2⟩
  · cases z
noncomputable def sp_face_behind : SpD := fun ds M Q => match ds with
  | [u, v, w] => ∃ (t b X Y : Int) (ws : List Wl) (M0 : MH) (ld : Addr) (kvs : SpT) (L : Vc → Addr) (f : Nat), u = .tup (ws.map (rwl t b X Y)) ∧ v = .ref ld ∧ w = .int (f : Int) ∧ Scl t b X Y ∧ ws.length ≤ 40 ∧ (∀ w ∈ ws, Un5 w) ∧ f < 2 * ws.length ∧ Lvn t b X Y ws (2 * ws.length) M0 M ld kvs L ∧ Q (.int (bh ws f : Int)) M
  | _ => False
theorem ln_face_behind : ∀ ds M Q, sp_face_behind ds M Q → ds.length = 3 := fun ds M Q h => by
  unfold sp_face_behind at h
  split at h
  · rfl
  · exact h.elim
set_option maxHeartbeats 4000000 in
theorem c_face_behind {P : Program} {w : World} {K : PySem.W.Frag} {mg : Str → Option Value} {base : Heap} (T : Tx K mg) : Cal P w K mg base 5 "face_behind" sp_face_behind := by
  refine calD (k := 4) (N := ["plot", "leaving", "face", "came_from", "corner", "back", "best", "rival"]) (ps := ["plot", "leaving", "face"]) T.f_face_behind sc_face_behind (fun _ _ _ _ _ _ us hl => match us, hl with | [_, _, _], _ => rfl) ln_face_behind fun f cdv A outer s H E hr => ⟨_, (dss_cons (ds_asg (de_call ((c_face_ends T).mono (by decide)) hr (da_cons (dv 0) (da_cons (dv 2) da_nil))) (dg_tup rfl (dgs_cons (dg_name 3 sc_face_behind.nd) (dgs_cons (dg_name 4 sc_face_behind.nd) dgs_nil))))
      (dss_cons (ds_set 5 sc_face_behind.nd (de_op od_xor (dv 2) de_int))
      (dss_cons (ds_set 6 sc_face_behind.nd (dv 5))
      (dss_cons (ds_for PassesOwn.never rfl (di_seq (de_dsget (ru66 hr) (dv 1) (dv 4) (by intro _ _; with_unfolding_all rfl))) (dg_name 7 sc_face_behind.nd) (dss_one (ds_if (dt_w (dw_and (dt_cmp (od_ne hr.units) (dv 7) (dv 5)) (dw_and1 (dt_w (dw_or (dt_cmp (od_eq hr.units) (dv 6) (dv 5)) (dw_or1 (dt_val (de_call ((c_is_met_sooner T).mono (by decide)) hr (da_cons (dv 4) (da_cons (dv 3) (da_cons (de_ix (de_call ((c_face_ends T).mono (by decide)) hr (da_cons (dv 0) (da_cons (dv 7) da_nil))) de_int) (da_cons (de_ix (de_call ((c_face_ends T).mono (by decide)) hr (da_cons (dv 0) (da_cons (dv 6) da_nil))) de_int) da_nil)))))))))))) (dss_one (ds_set 6 sc_face_behind.nd (dv 7))) dss_nil)))
      (dss_one (ds_ret (dv 6))))))), fun ds M Q h => ?r⟩
  case r =>
    -- slots: 0 plot, 1 leaving, 2 face, 3 came_from, 4 corner, 5 back, 6 best, 7 rival
    unfold sp_face_behind at h
    split at h
    case h_2 => exact h.elim
    obtain ⟨t, b, X, Y, ws, M0, ld, kvs, L, f, rfl, rfl, rfl, S, hlen, hU, hf, V, k⟩ := h
    have exf : Builtin.bitXor (f : Int) 1 = ((fx f : Nat) : Int) := xor_fx f (by omega)
    have rg : ∀ g : Nat, g < 2 * ws.length → ((0 ≤ (fa ws g).1 ∧ (fa ws g).1 ≤ 20) ∧ (0 ≤ (fa ws g).2 ∧ (fa ws g).2 ≤ 20)) ∧ ((0 ≤ (fb ws g).1 ∧ (fb ws g).1 ≤ 20) ∧ (0 ≤ (fb ws g).2 ∧ (fb ws g).2 ≤ 20)) := fun g hg => by
      obtain ⟨_, _, w3⟩ := wAt_get (ws := ws) (k := ((g / 2 : Nat) : Int)) (by omega) (by omega)
      have W := hU _ w3
      unfold fa fb fw
      by_cases h : g % 2 = 0
      · rw [if_pos h]; exact ⟨⟨W.a, W.b⟩, W.c, W.d⟩
      · rw [if_neg h]; exact ⟨⟨W.c, W.d⟩, W.a, W.b⟩
    have ne : lvs ws (2 * ws.length) (fb ws f) ≠ [] := by
      unfold lvs
      have : fx f ∈ (List.range (2 * ws.length)).filter fun g => decide (fa ws g = fb ws f) := List.mem_filter.mpr ⟨List.mem_range.mpr (fx_lt hf), by simpa using fa_fx ws f⟩
      intro z
      rw [List.map_eq_nil_iff] at z
      rw [z] at this
      cases this
    obtain ⟨v1, v2, v3, v4⟩ := V.some _ ne
    refine ⟨_, rfl, _, rfl, t, b, X, Y, ws, f, rfl, rfl, hf, by omega, ?_⟩
    refine ⟨_, rfl, rfl, _, _, rfl, _, _, rfl, rfl, ?_⟩
    refine ⟨_, rfl, trivial, ?_⟩
    dsimp only
    rw [exf]
    refine ⟨_, rfl, ?_⟩
    refine ⟨_, rfl, _, rfl, ld, kvs, spk t b X Y (fb ws f), _, rfl, rfl, V.d, v1, (lvs ws (2 * ws.length) (fb ws f)).map D.int, v2, ?_⟩
    refine ⟨fun j δ M' => M' = M ∧ ∃ o7, δ = [some (.tup (ws.map (rwl t b X Y))), some (.ref ld), some (.int (f : Int)), some (Ma.spt (Ma.ut t b X 1 (fw ws f).1) (Ma.ut t b Y 1 (fw ws f).2.1)), some (Ma.spt (Ma.ut t b X 1 (fw ws f).2.2.1) (Ma.ut t b Y 1 (fw ws f).2.2.2)), some (.int ((fx f : Nat) : Int)), some (.int (((goneTo ws f j).getD (fx f) : Nat) : Int)), o7], ⟨rfl, _, rfl⟩, fun j δ M' _ z => by obtain ⟨rfl, _⟩ := z; exact v2, ?_, ?_⟩
    · rintro j d δ M' hj hd ⟨rfl, o7, rfl⟩
      have hd : ((((List.range (2 * ws.length)).filter fun g => decide (fa ws g = fb ws f)).map fun g : Nat => (g : Int)).map D.int)[j]? = some d := hd
      rw [List.getElem?_map, List.getElem?_map] at hd
      cases eg : ((List.range (2 * ws.length)).filter fun g => decide (fa ws g = fb ws f))[j]? with
      | none => rw [eg] at hd; cases hd
      | some g =>
        rw [eg] at hd
        cases hd
        have hgm := List.mem_filter.mp (List.mem_of_getElem? eg)
        have hg : g < 2 * ws.length := by simpa using hgm.1
        have hga : fa ws g = fb ws f := by simpa using hgm.2
        have nx : goneTo ws f (j + 1) = if g = fx f then goneTo ws f j else fstep (snF ws f) (goneTo ws f j) g := by
          unfold goneTo
          rw [List.take_succ, eg, Option.toList_some, List.filter_append, List.foldl_append]
          by_cases z : g = fx f
          · simp [z]
          · simp [z]
        have hmem : ∀ h, goneTo ws f j = some h → h ∈ cand ws f := fun h e => goneTo_mem e
        generalize goneTo ws f j = o at nx hmem ⊢
        by_cases z : g = fx f
        · walk_at "un"
          refine andT false false (fun K hK => ⟨_, rfl, _, rfl, _, rfl, ?_⟩) (fun q => absurd q (by decide)) (iteB rfl ⟨rfl, some (.int (g : Int)), ?_⟩)
          · rw [show (!decide ((g : Int) = ((fx f : Nat) : Int))) = false by rw [z]; simp]; exact hK
          · rw [nx, if_pos z]; rfl
        · rw [if_neg z] at nx
          have zz : (!decide ((g : Int) = ((fx f : Nat) : Int))) = true := by
            have : ¬ ((g : Int) = ((fx f : Nat) : Int)) := fun q => z (by omega)
            rw [decide_eq_false this]; rfl
          cases o with
          | none =>
            walk_at "un"
            refine andT true true (fun K hK => ⟨_, rfl, _, rfl, _, rfl, by rw [zz]; exact hK⟩) (fun _ K hK => orT true true (fun K' hK' => ⟨_, rfl, _, rfl, _, rfl, ?_⟩) (fun q => absurd q (by decide)) hK) (iteA rfl ⟨_, rfl, rfl, some (.int (g : Int)), ?_⟩)
            · rw [show decide ((((none : Option Nat).getD (fx f) : Nat) : Int) = ((fx f : Nat) : Int)) = true by simp]; exact hK'
            · rw [nx]; rfl
          | some h =>
            have hh := cand_mem.mp (hmem h rfl)
            have d1 : fd ws (fx f) = ((fa ws f).1 - (fb ws f).1, (fa ws f).2 - (fb ws f).2) := by unfold fd fa fb; rw [fw_fx]; rfl
            have d2 : ∀ g, fa ws g = fb ws f → fd ws g = ((fb ws g).1 - (fb ws f).1, (fb ws g).2 - (fb ws f).2) := fun g e => by rw [← e]; rfl
            have es : snF ws f g h = snr ((fa ws f).1 - (fb ws f).1, (fa ws f).2 - (fb ws f).2) ((fb ws g).1 - (fb ws f).1, (fb ws g).2 - (fb ws f).2) ((fb ws h).1 - (fb ws f).1, (fb ws h).2 - (fb ws f).2) := by
              unfold snF; rw [d1, d2 g hga, d2 h hh.2.1]
            have hne : decide ((((some h).getD (fx f) : Nat) : Int) = ((fx f : Nat) : Int)) = false := decide_eq_false (fun q => hh.2.2 (by have q' : ((h : Nat) : Int) = ((fx f : Nat) : Int) := q; omega))
            walk_at "un"
            refine andT true (false || snF ws f g h) (fun K hK => ⟨_, rfl, _, rfl, _, rfl, by rw [zz]; exact hK⟩) (fun _ K hK => orT false (snF ws f g h) (fun K' hK' => ⟨_, rfl, _, rfl, _, rfl, by rw [hne]; exact hK'⟩) (fun _ K' hK' => ?_) hK) ?_
            · refine ⟨_, rfl, _, rfl, _, rfl, _, rfl, t, b, X, Y, ws, g, rfl, rfl, hg, by omega, _, rfl, _, rfl, _, rfl, t, b, X, Y, ws, h, rfl, rfl, hh.1, by omega, _, rfl, t, b, X, Y, fb ws f, fa ws f, fb ws g, fb ws h, rfl, rfl, rfl, rfl, S, (rg f hf).2.1, (rg f hf).2.2, (rg f hf).1.1, (rg f hf).1.2, (rg g hg).2.1, (rg g hg).2.2, (rg h hh.1).2.1, (rg h hh.1).2.2, _, rfl, ?_⟩
              rw [← es]
              exact hK'
            · refine ite2 (fun q => ?_) (fun q => ?_)
              · refine ⟨_, rfl, rfl, some (.int (g : Int)), ?_⟩
                have q : snF ws f g h = true := by simpa using q
                have e : fstep (snF ws f) (some h) g = some g := by unfold fstep; simp [q]
                rw [nx, e]
                rfl
              · refine ⟨rfl, some (.int (g : Int)), ?_⟩
                have q : ¬ snF ws f g h = true := by simpa using q
                have e : fstep (snF ws f) (some h) g = some h := by unfold fstep; simp [q]
                rw [nx, e]
                rfl
    · rintro δ M' ⟨rfl, o7, rfl⟩
      have e := goneTo_all ws f ((lvs ws (2 * ws.length) (fb ws f)).map D.int).length (by simp [lvs])
      dsimp only
      rw [e]
      exact ⟨_, rfl, rtn k⟩
/-! ### faces_by_start, level 2 -/
theorem sc_faces_by_start : FnScope ["plot", "leaving", "face"] ["plot"] (defScope s_faces_by_start) := ⟨rfl, rfl, rfl, by decide +kernel, rfl, by decide +kernel, by decide +kernel⟩
noncomputable def sp_faces_by_start : SpD := fun ds M Q => match ds with
  | [u] => ∃ (t b X Y : Int) (ws : List Wl), u = .tup (ws.map (rwl t b X Y)) ∧ Scl t b X Y ∧ ws.length ≤ 40 ∧
      ∀ (M' : MH) (ld : Addr) (kvs : SpT) (L : Vc → Addr), SD.Sub M M' → Lvn t b X Y ws (2 * ws.length) M M' ld kvs L → Q (.ref ld) M'
  | _ => False
theorem ln_faces_by_start : ∀ ds M Q, sp_faces_by_start ds M Q → ds.length = 1 := fun ds M Q h => by
  unfold sp_faces_by_start at h
  split at h
  · rfl
  · exact h.elim
set_option maxHeartbeats 4000000 in
theorem c_faces_by_start {P : Program} {w : World} {K : PySem.W.Frag} {mg : Str → Option Value} {base : Heap} (T : Tx K mg) : Cal P w K mg base 2 "faces_by_start" sp_faces_by_start := by
  refine calD (k := 1) (N := ["plot", "leaving", "face"]) (ps := ["plot"]) T.f_faces_by_start sc_faces_by_start (fun _ _ _ _ _ _ us hl => match us, hl with | [_], _ => rfl) ln_faces_by_start fun f cdv A outer s H E hr => ⟨_, (dss_cons (ds_set 1 sc_faces_by_start.nd de_dsnew)
      (dss_cons (ds_forR PassesOwn.never rfl rfl T.b_range (da_cons (de_op od_mul de_int (de_callB cd_len rfl T.b_len bt_len (da_cons (dv 0) da_nil))) da_nil) (dg_name 2 sc_faces_by_start.nd) (dss_one (ds_expr (de_m_append (de_dssd (ru66 hr) (dv 1) (da_cons (de_ix (de_call ((c_face_ends T).mono (by decide)) hr (da_cons (dv 0) (da_cons (dv 2) da_nil))) de_int) (da_cons (de_lst da_nil) da_nil))) (da_cons (dv 2) da_nil)))))
      (dss_one (ds_ret (dv 1))))), fun ds M Q h => ?r⟩
  case r =>
    -- slots: 0 plot, 1 leaving, 2 face
    unfold sp_faces_by_start at h
    split at h
    case h_2 => exact h.elim
    obtain ⟨t, b, X, Y, ws, rfl, S, hlen, k⟩ := h
    have hwl : (ws.map (rwl t b X Y)).length = ws.length := by simp
    refine fun ld hld => ?_
    refine ⟨_, rfl, mulOk_l (bd64 (by decide)), 2 * ws.length, (by rw [hwl]; simp), by omega, ?_⟩
    refine ⟨fun i δ M' => ∃ (kvs : SpT) (L : Vc → Addr) (o2 : Option D), δ = [some (.tup (ws.map (rwl t b X Y))), some (.ref ld), o2] ∧ SD.Sub M M' ∧ kvs.length ≤ i ∧ Lvn t b X Y ws i M M' ld kvs L, ?_, ?_, ?_⟩
    · exact ⟨[], fun _ => 0, _, rfl, .new hld .refl, Nat.le_refl _, updM_same, fun p h => absurd rfl h, fun p _ => rfl, fun p q h => absurd rfl h⟩
    · rintro i δ M' hi ⟨kvs, L, o2, rfl, sb, hk, V⟩
      have hdq : ∀ {q : Addr} {o}, M' q = none → (updM M' q o) ld = some (dsM kvs) := fun hq => by rw [updM_ne (ne_fresh V.d hq)]; exact V.d
      have lone : ∀ p, fa ws i ≠ p → lvs ws (i + 1) p = lvs ws i p := fun p h => by rw [lvs_succ, if_neg h, List.append_nil]
      have lthe : lvs ws (i + 1) (fa ws i) = lvs ws i (fa ws i) ++ [(i : Int)] := by rw [lvs_succ, if_pos rfl]
      have ll := lvs_len ws i (fa ws i)
      refine ⟨_, rfl, ld, kvs, rfl, V.d, _, rfl, _, rfl, t, b, X, Y, ws, i, rfl, rfl, hi, by omega, _, rfl, Nat.le_of_ble_eq_true rfl, fun q hq => ?_⟩
      refine ⟨kvs, spk t b X Y (fa ws i), .ref q, rfl, hdq hq, by omega, fun d' hd => ?_, fun hn => ?_⟩
      · have ne : lvs ws i (fa ws i) ≠ [] := fun z => by rw [V.none _ z] at hd; cases hd
        obtain ⟨v1, v2, v3, v4⟩ := V.some _ ne
        rw [v1] at hd
        cases hd
        have c1 : ∀ {a o}, M' a = some o → (updM M' q (.lst [])) a = some o := fun h => by rw [updM_ne (ne_fresh h hq)]; exact h
        refine ⟨L (fa ws i), _, rfl, c1 v2, _, rfl, _, _, rfl, c1 v2, (by rw [List.length_map]; omega), ?_⟩
        have c2 : ∀ {a o G}, M' a = some o → a ≠ L (fa ws i) → (updM (updM M' q (.lst [])) (L (fa ws i)) G) a = some o := fun h n => by rw [updM_ne n]; exact c1 h
        refine ⟨kvs, L, _, rfl, fun a o h => c2 (sb _ _ h) (fun z => by subst z; rw [v4] at h; cases h), by omega, c2 V.d v3.symm, fun p h => ?_, fun p h => ?_, fun p p' h h' e => ?_⟩
        · by_cases z : fa ws i = p
          · subst z
            refine ⟨v1, ?_, v3, v4⟩
            rw [updM_same, lthe, List.map_append]; rfl
          · rw [lone p z] at h ⊢
            obtain ⟨u1, u2, u3, u4⟩ := V.some p h
            exact ⟨u1, c2 u2 (fun y => z (V.inj _ _ ne h y.symm)), u3, u4⟩
        · by_cases z : fa ws i = p
          · subst z; rw [lthe] at h; simp at h
          · rw [lone p z] at h; exact V.none p h
        · have g : ∀ p, lvs ws (i + 1) p ≠ [] → lvs ws i p ≠ [] := fun p h => by
            by_cases z : fa ws i = p
            · subst z; exact ne
            · rw [lone p z] at h; exact h
          exact V.inj p p' (g p h) (g p' h') e
      · have em : lvs ws i (fa ws i) = [] := by
          cases z : lvs ws i (fa ws i) with
          | nil => rfl
          | cons x xs =>
            have := (V.some _ (by rw [z]; simp)).1
            rw [hn] at this; cases this
        have nql : q ≠ ld := (ne_fresh V.d hq).symm
        have cq : (updM (updM M' q (.lst [])) ld (dsM (putD kvs (spk t b X Y (fa ws i)) (.ref q)))) q = some (.lst []) := by rw [updM_ne nql, updM_same]
        refine ⟨q, [], rfl, cq, _, rfl, _, _, rfl, cq, by decide, ?_⟩
        have c2 : ∀ {a o D' G}, M' a = some o → a ≠ ld → (updM (updM (updM M' q (.lst [])) ld D') q G) a = some o := fun h n => by rw [updM_ne (ne_fresh h hq), updM_ne n, updM_ne (ne_fresh h hq)]; exact h
        have mq : M q = none := by
          cases z : M q with
          | none => rfl
          | some o => rw [sb _ _ z] at hq; cases hq
        have vn := fun j => valD_new (.ref q) hn j
        refine ⟨putD kvs (spk t b X Y (fa ws i)) (.ref q), fun p => if fa ws i = p then q else L p, _, rfl, fun a o h => c2 (sb _ _ h) (fun z => by subst z; rw [hld] at h; cases h), ?_, (by rw [updM_ne nql.symm, updM_same]), fun p h => ?_, fun p h => ?_, fun p p' h h' e => ?_⟩
        · have : (putD kvs (spk t b X Y (fa ws i)) (.ref q)).length ≤ kvs.length + 1 := by
            unfold putD
            split
            · rw [List.length_map]; omega
            · simp
          omega
        · by_cases z : fa ws i = p
          · subst z
            refine ⟨by rw [vn, if_pos rfl, if_pos rfl], ?_, by rw [if_pos rfl]; exact nql, by rw [if_pos rfl]; exact mq⟩
            rw [if_pos rfl, updM_same, lthe, em]; rfl
          · rw [lone p z] at h ⊢
            obtain ⟨u1, u2, u3, u4⟩ := V.some p h
            rw [if_neg z]
            exact ⟨by rw [vn, if_neg (fun y => z (spk_inj S.t0 S.b0 y).symm)]; exact u1, c2 u2 u3, u3, u4⟩
        · by_cases z : fa ws i = p
          · subst z; rw [lthe] at h; simp at h
          · rw [lone p z] at h
            rw [vn, if_neg (fun y => z (spk_inj S.t0 S.b0 y).symm)]
            exact V.none p h
        · by_cases z : fa ws i = p <;> by_cases z' : fa ws i = p'
          · rw [← z, ← z']
          · rw [lone p' z'] at h'
            rw [if_pos z, if_neg z'] at e
            have := (V.some p' h').2.1
            rw [← e, hq] at this; cases this
          · rw [lone p z] at h
            rw [if_neg z, if_pos z'] at e
            have := (V.some p h).2.1
            rw [e, hq] at this; cases this
          · rw [lone p z] at h
            rw [lone p' z'] at h'
            rw [if_neg z, if_neg z'] at e
            exact V.inj p p' h h' e
    · rintro δ M' ⟨kvs, L, o2, rfl, sb, hk, V⟩
      exact ⟨_, rfl, ⟨M', .refl, k M' ld kvs L sb V⟩⟩
/-! ### behind, level 6 -/
theorem sc_behind : FnScope ["plot", "face"] ["plot", "face"] (defScope s_behind) := ⟨rfl, rfl, rfl, by decide +kernel, rfl, by decide +kernel, by decide +kernel⟩
noncomputable def sp_behind : SpD := fun ds M Q => match ds with
  | [u, w] => ∃ (t b X Y : Int) (ws : List Wl) (f : Nat), u = .tup (ws.map (rwl t b X Y)) ∧ w = .int (f : Int) ∧ Scl t b X Y ∧ ws.length ≤ 40 ∧ (∀ w ∈ ws, Un5 w) ∧ f < 2 * ws.length ∧ ∀ M', SD.Sub M M' → Q (.int (bh ws f : Int)) M'
  | _ => False
theorem ln_behind : ∀ ds M Q, sp_behind ds M Q → ds.length = 2 := fun ds M Q h => by
  unfold sp_behind at h
  split at h
  · rfl
  · exact h.elim
set_option maxHeartbeats 4000000 in
theorem c_behind {P : Program} {w : World} {K : PySem.W.Frag} {mg : Str → Option Value} {base : Heap} (T : Tx K mg) : Cal P w K mg base 6 "behind" sp_behind := by
  refine calD (k := 5) (N := ["plot", "face"]) (ps := ["plot", "face"]) T.f_behind sc_behind (fun _ _ _ _ _ _ us hl => match us, hl with | [_, _], _ => rfl) ln_behind fun f cdv A outer s H E hr => ⟨_, (dss_one (ds_ret (de_call ((c_face_behind T).mono (by decide)) hr (da_cons (dv 0) (da_cons (de_call ((c_faces_by_start T).mono (by decide)) hr (da_cons (dv 0) da_nil)) (da_cons (dv 1) da_nil)))))), fun ds M Q h => ?r⟩
  case r =>
    -- slots: 0 plot, 1 face
    unfold sp_behind at h
    split at h
    case h_2 => exact h.elim
    obtain ⟨t, b, X, Y, ws, f, rfl, rfl, S, hlen, hU, hf, k⟩ := h
    refine ⟨_, rfl, _, rfl, t, b, X, Y, ws, rfl, S, hlen, fun M' ld kvs L sb V => ?_⟩
    exact ⟨_, rfl, t, b, X, Y, ws, M, ld, kvs, L, f, rfl, rfl, rfl, S, hlen, hU, hf, V, M', .refl, k M' sb⟩
/-! ### _law_ends, level 1 -/
theorem sc_law_ends : FnScope ["_law_shuts", "_law_face"] ["_law_shuts", "_law_face"] (defScope s_law_ends) := ⟨rfl, rfl, rfl, by decide +kernel, rfl, by decide +kernel, by decide +kernel⟩
noncomputable def sp_law_ends : SpD := fun ds M Q => match ds with
  | [u, v] => ∃ (l : Addr) (ws : List Wl) (f : Nat), u = .ref l ∧ v = .int (f : Int) ∧ M l = some (.lst (ws.map uw)) ∧ f < 2 * ws.length ∧ ws.length ≤ 1000 ∧ Q (uw (fw ws f)) M
  | _ => False
theorem ln_law_ends : ∀ ds M Q, sp_law_ends ds M Q → ds.length = 2 := fun ds M Q h => by
  unfold sp_law_ends at h
  split at h
  · rfl
  · exact h.elim
set_option maxHeartbeats 4000000 in
theorem c_law_ends {P : Program} {w : World} {K : PySem.W.Frag} {mg : Str → Option Value} {base : Heap} (T : Tx K mg) : Cal P w K mg base 1 "_law_ends" sp_law_ends := by
  refine calD (k := 0) (N := ["_law_shuts", "_law_face"]) (ps := ["_law_shuts", "_law_face"]) T.f_law_ends sc_law_ends (fun _ _ _ _ _ _ us hl => match us, hl with | [_, _], _ => rfl) ln_law_ends fun f cdv A outer s H E hr => ⟨_, (dss_one (ds_ret (de_ix (de_lst (da_cons (de_ix (dv 0) (de_op od_fd (dv 1) de_int)) (da_cons (de_rev (de_ix (dv 0) (de_op od_fd (dv 1) de_int)) (de_un un_negD de_int)) da_nil))) (de_op od_mod (dv 1) de_int)))), fun ds M Q h => ?r⟩
  case r =>
    -- slots: 0 _law_shuts, 1 _law_face
    unfold sp_law_ends at h
    split at h
    case h_2 => exact h.elim
    obtain ⟨l, ws, f, rfl, rfl, hl, hf, hlen, k⟩ := h
    obtain ⟨w1, w2, w3⟩ := wAt_get (ws := ws) (k := ((f / 2 : Nat) : Int)) (by omega) (by omega)
    have ed : (f : Int).fdiv 2 = ((f / 2 : Nat) : Int) := by rw [Int.fdiv_eq_ediv_of_nonneg _ (by decide)]; omega
    have em : (f : Int).fmod 2 = ((f % 2 : Nat) : Int) := by rw [Int.fmod_eq_emod_of_nonneg _ (by decide)]; omega
    refine ⟨_, rfl, _, rfl, ⟨by decide, bd64 (by decide)⟩, _, _, hl, (by rw [ed]; exact w2), ?_⟩
    refine ⟨_, rfl, _, rfl, ⟨by decide, bd64 (by decide)⟩, _, _, hl, (by rw [ed]; exact w2), ?_⟩
    refine ⟨_, rfl, rfl, _, _, rfl, ?_⟩
    refine ⟨Nat.le_of_ble_eq_true rfl, fun p hp => ?_⟩
    refine ⟨_, rfl, (show (2 : Int) ≠ 0 by decide), _, _, updM_same, ?_, ⟨M, .new hp .refl, k⟩⟩
    rw [em]
    refine atI_nat ?_
    unfold fw
    by_cases h : f % 2 = 0
    · rw [h, if_pos rfl]; rfl
    · have h1 : f % 2 = 1 := by omega
      rw [h1, if_neg (by decide)]; rfl
/-! ### _law_sooner, level 2 -/
theorem sc_law_sooner : FnScope ["_law_back", "_law_one", "_law_other", "_law_spot_here", "_law_quarters"] ["_law_back", "_law_one", "_law_other"] (defScope s_law_sooner) := ⟨rfl, rfl, rfl, by decide +kernel, rfl, by decide +kernel, by decide +kernel⟩
noncomputable def sp_law_sooner : SpD := fun ds M Q => match ds with
  | [u, v, s] => ∃ (c b x y : Vc), u = .tup [.tup [.int c.1, .int c.2], .tup [.int b.1, .int b.2]] ∧ v = .tup [.int x.1, .int x.2] ∧ s = .tup [.int y.1, .int y.2] ∧ Bd 6 c.1 ∧ Bd 6 c.2 ∧ Bd 6 b.1 ∧ Bd 6 b.2 ∧ Bd 6 x.1 ∧ Bd 6 x.2 ∧ Bd 6 y.1 ∧ Bd 6 y.2 ∧ Q (.bl (snr (b.1 - c.1, b.2 - c.2) (x.1 - c.1, x.2 - c.2) (y.1 - c.1, y.2 - c.2))) M
  | _ => False
theorem ln_law_sooner : ∀ ds M Q, sp_law_sooner ds M Q → ds.length = 3 := fun ds M Q h => by
  unfold sp_law_sooner at h
  split at h
  · rfl
  · exact h.elim
set_option maxHeartbeats 4000000 in
theorem c_law_sooner {P : Program} {w : World} {K : PySem.W.Frag} {mg : Str → Option Value} {base : Heap} (T : Tx K mg) : Cal P w K mg base 2 "_law_sooner" sp_law_sooner := by
  refine calD (k := 1) (N := ["_law_back", "_law_one", "_law_other", "_law_spot_here", "_law_quarters"]) (ps := ["_law_back", "_law_one", "_law_other"]) T.f_law_sooner sc_law_sooner (fun _ _ _ _ _ _ us hl => match us, hl with | [_, _, _], _ => rfl) ln_law_sooner fun f cdv A outer s H E hr => ⟨_, (dss_cons (ds_set 3 sc_law_sooner.nd (de_ix (dv 0) de_int))
      (dss_cons (ds_comp1 4 sc_law_sooner.nd (CScope.of (xs := ["_law_way"]) (js := [3, 0]) rfl) rfl (di_seq (de_tup (da_cons (dv 1) (da_cons (dv 2) da_nil)))) (fun _ _ _ _ => dts_nil) (fun _ _ _ _ => (de_op od_add de_int (de_call ((c_law_turn T).mono (by decide)) hr (da_cons (dv 1) (da_cons (de_ix (dv 2) de_int) (da_cons (dv 0) da_nil)))))))
      (dss_cons (ds_if (dt_cmp (od_ne hr.units) (de_ix (dv 4) de_int) (de_ix (dv 4) de_int)) (dss_one (ds_ret (de_cmp (od_ltX hr.units) (de_ix (dv 4) de_int) (de_ix (dv 4) de_int)))) dss_nil)
      (dss_one (ds_ret (de_cmp (od_ltX hr.units) (de_call ((c_law_turn T).mono (by decide)) hr (da_cons (dv 3) (da_cons (dv 1) (da_cons (dv 2) da_nil)))) de_int)))))), fun ds M Q h => ?r⟩
  case r =>
    -- slots: 0 _law_back, 1 _law_one, 2 _law_other, 3 _law_spot_here, 4 _law_quarters
    unfold sp_law_sooner at h
    split at h
    case h_2 => exact h.elim
    obtain ⟨c, b, x, y, rfl, rfl, rfl, c1, c2, b1, b2, x1, x2, y1, y2, k⟩ := h
    unfold snr at k
    refine ⟨_, rfl, _, rfl, ?_⟩
    refine ⟨_, rfl, _, rfl, Nat.le_of_ble_eq_true rfl, [.tup [.int x.1, .int x.2], .tup [.int y.1, .int y.2]], rfl, comp_map (fun j => if j = 0 then .int (1 + Int.sign (vc (b.1 - c.1, b.2 - c.2) (x.1 - c.1, x.2 - c.2))) else .int (1 + Int.sign (vc (b.1 - c.1, b.2 - c.2) (y.1 - c.1, y.2 - c.2)))) (Nat.le_of_ble_eq_true rfl) (fun _ _ _ => rfl) ?_ (fun p hp => ?_)⟩
    · intro j e' M2 hj he' _
      have hj : j < 2 := hj
      have he' : [D.tup [.int x.1, .int x.2], .tup [.int y.1, .int y.2]][j]? = some e' := he'
      rcases (show j = 0 ∨ j = 1 by omega) with rfl | rfl
      · cases he'
        exact ⟨_, rfl, fun K2 hK2 => ⟨_, rfl, _, rfl, _, rfl, _, rfl, c.1, c.2, b.1, b.2, _, _, rfl, rfl, rfl, c1, c2, b1, b2, hK2 _ .refl⟩⟩
      · cases he'
        exact ⟨_, rfl, fun K2 hK2 => ⟨_, rfl, _, rfl, _, rfl, _, rfl, c.1, c.2, b.1, b.2, _, _, rfl, rfl, rfl, c1, c2, b1, b2, hK2 _ .refl⟩⟩
    generalize vc (b.1 - c.1, b.2 - c.2) (x.1 - c.1, x.2 - c.2) = z1 at k ⊢
    generalize vc (b.1 - c.1, b.2 - c.2) (y.1 - c.1, y.2 - c.2) = z2 at k ⊢
    refine ⟨_, rfl, _, _, updM_same, rfl, _, rfl, _, _, updM_same, rfl, ?_⟩
    refine ⟨_, rfl, ?_⟩
    refine ite2 (fun h => ?_) (fun h => ?_)
    · have ne : ¬ z1.sign = z2.sign := fun z => by rw [z] at h; simp at h
      rw [if_neg ne] at k
      have e : decide (z1.sign < z2.sign) = decide (1 + z1.sign < 1 + z2.sign) := by rw [decide_eq_decide]; omega
      rw [e] at k
      exact ⟨_, rfl, _, _, updM_same, rfl, _, rfl, _, _, updM_same, rfl, trivial, ⟨M, .new hp .refl, k⟩⟩
    · have eq : z1.sign = z2.sign := by
        simp at h; omega
      rw [if_pos eq] at k
      have e : decide (vc (x.1 - c.1, x.2 - c.2) (y.1 - c.1, y.2 - c.2) < 0) = decide (Int.sign (crs (x.1 - c.1) (x.2 - c.2) (y.1 - c.1) (y.2 - c.2)) < 0) := by
        unfold vc
        rw [decide_eq_decide]
        rcases sgn3 (crs (x.1 - c.1) (x.2 - c.2) (y.1 - c.1) (y.2 - c.2)) with q | q | q <;> dsimp only <;> omega
      rw [e] at k
      exact ⟨_, rfl, _, rfl, _, rfl, c.1, c.2, x.1, x.2, y.1, y.2, rfl, rfl, rfl, c1, c2, x1, x2, trivial, ⟨M, .new hp .refl, k⟩⟩
/-! ### _law_behind, level 3 -/
theorem sc_law_behind : FnScope ["_law_shuts", "_law_face", "_law_start", "_law_spot_here", "_law_found", "_law_some", "_law_best", "_law_one", "_law_way"] ["_law_shuts", "_law_face"] (defScope s_law_behind) := ⟨rfl, rfl, rfl, by decide +kernel, rfl, by decide +kernel, by decide +kernel⟩
noncomputable def wayD (ws : List Wl) (o : Option Nat) : D := match o with
  | none => .non
  | some h => .tup [.int (fb ws h).1, .int (fb ws h).2]
theorem cand_fm (ws : List Wl) (f : Nat) : (List.range (2 * ws.length)).filterMap (fun j => if candB ws f j = true then some (D.int (j : Int)) else none) = (cand ws f).map fun j : Nat => D.int (j : Int) := fm_filter _ _ _
theorem fold_mem (R : Nat → Nat → Bool) : ∀ (l : List Nat) (o : Option Nat) {h : Nat}, l.foldl (fstep R) o = some h → h ∈ l ∨ o = some h
  | [], o, h, e => .inr e
  | g :: l, o, h, e => by
    rw [List.foldl_cons] at e
    rcases fold_mem R l _ e with z | z
    · exact .inl (by simp [z])
    · cases o with
      | none => cases z; exact .inl (by simp)
      | some k =>
        unfold fstep at z
        dsimp only at z
        by_cases r : R g k = true
        · rw [if_pos r] at z; cases z; exact .inl (by simp)
        · rw [if_neg r] at z; exact .inr z
noncomputable def sp_law_behind : SpD := fun ds M Q => match ds with
  | [u, v] => ∃ (l : Addr) (ws : List Wl) (f : Nat), u = .ref l ∧ v = .int (f : Int) ∧ M l = some (.lst (ws.map uw)) ∧ f < 2 * ws.length ∧ ws.length ≤ 40 ∧ (∀ w ∈ ws, Un5 w) ∧ Q (.int (bh ws f : Int)) M
  | _ => False
theorem ln_law_behind : ∀ ds M Q, sp_law_behind ds M Q → ds.length = 2 := fun ds M Q h => by
  unfold sp_law_behind at h
  split at h
  · rfl
  · exact h.elim
set_option maxHeartbeats 4000000 in
theorem c_law_behind {P : Program} {w : World} {K : PySem.W.Frag} {mg : Str → Option Value} {base : Heap} (T : Tx K mg) : Cal P w K mg base 3 "_law_behind" sp_law_behind := by
  refine calD (k := 2) (N := ["_law_shuts", "_law_face", "_law_start", "_law_spot_here", "_law_found", "_law_some", "_law_best", "_law_one", "_law_way"]) (ps := ["_law_shuts", "_law_face"]) T.f_law_behind sc_law_behind (fun _ _ _ _ _ _ us hl => match us, hl with | [_, _], _ => rfl) ln_law_behind fun f cdv A outer s H E hr => ⟨_, (dss_cons (ds_asg (de_call ((c_law_ends T).mono (by decide)) hr (da_cons (dv 0) (da_cons (dv 1) da_nil))) (dg_tup rfl (dgs_cons (dg_name 2 sc_law_behind.nd) (dgs_cons (dg_name 3 sc_law_behind.nd) dgs_nil))))
      (dss_cons (ds_set 4 sc_law_behind.nd (de_op od_sub (de_op od_add (dv 1) de_int) (de_op od_mul de_int (de_op od_mod (dv 1) de_int))))
      (dss_cons (ds_comp1 5 sc_law_behind.nd (CScope.of (xs := ["_law_one"]) (js := [0, 3, 4]) rfl) rfl (di_range1 rfl T.b_range (da_cons (de_op od_mul de_int (de_callB cd_len rfl T.b_len bt_len (da_cons (dv 0) da_nil))) da_nil)) (fun _ _ _ _ => (dts_one (dt_w (dw_and (dt_cmp (od_eq hr.units) (de_ix (de_call ((c_law_ends T).mono (by decide)) hr (da_cons (dv 1) (da_cons (dv 0) da_nil))) de_int) (dv 2)) (dw_and1 (dt_cmp (od_ne hr.units) (dv 0) (dv 3))))))) (fun _ _ _ _ => (dv 0)))
      (dss_cons (ds_set 6 sc_law_behind.nd de_non)
      (dss_cons (ds_for PassesOwn.never rfl (di_seq (dv 5)) (dg_name 7 sc_law_behind.nd) (dss_cons (ds_set 8 sc_law_behind.nd (de_ix (de_call ((c_law_ends T).mono (by decide)) hr (da_cons (dv 0) (da_cons (dv 7) da_nil))) de_int))
      (dss_one (ds_if (dt_w (dw_or (dt_cmp od_is (dv 6) de_non) (dw_or1 (dt_val (de_call ((c_law_sooner T).mono (by decide)) hr (da_cons (de_tup (da_cons (dv 3) (da_cons (dv 2) da_nil))) (da_cons (dv 8) (da_cons (dv 6) da_nil)))))))) (dss_cons (ds_set 6 sc_law_behind.nd (dv 8))
      (dss_one (ds_set 4 sc_law_behind.nd (dv 7)))) dss_nil))))
      (dss_one (ds_ret (dv 4)))))))), fun ds M Q h => ?r⟩
  case r =>
    -- slots: 0 _law_shuts, 1 _law_face, 2 _law_start, 3 _law_spot_here, 4 _law_found, 5 _law_some, 6 _law_best, 7 _law_one, 8 _law_way
    unfold sp_law_behind at h
    split at h
    case h_2 => exact h.elim
    obtain ⟨l, ws, f, rfl, rfl, hl, hf, hlen, hU, k⟩ := h
    have em : (f : Int).fmod 2 = ((f % 2 : Nat) : Int) := by rw [Int.fmod_eq_emod_of_nonneg _ (by decide)]; omega
    have efx : (f : Int) + 1 - 2 * (f : Int).fmod 2 = ((fx f : Nat) : Int) := by rw [em]; unfold fx; split <;> omega
    have hn : (ws.map uw).length = ws.length := by simp
    refine ⟨_, rfl, _, rfl, l, ws, f, rfl, rfl, hl, hf, by omega, ?_⟩
    refine ⟨_, rfl, rfl, _, _, rfl, _, _, rfl, rfl, ?_⟩
    refine ⟨_, rfl, _, rfl, (show (2 : Int) ≠ 0 by decide), mulOk_l (bd64 (by decide)), trivial, ?_⟩
    dsimp only
    rw [efx]
    refine ⟨_, rfl, _, hl, mulOk_l (bd64 (by decide)), 2 * ws.length, (by rw [hn]; simp), by omega, ?_⟩
    have fcn : ∀ j : Nat, fa ws j = ((fw ws j).1, (fw ws j).2.1) := fun _ => rfl
    refine comp_fm (fun j => if candB ws f j = true then some (D.int (j : Int)) else none) (by show 2 * ws.length ≤ 1000000; omega) (fun _ _ _ => trivial) ?_ (fun lc hlc => ?_)
    · intro a d M6 ha hd sb
      have ha : a < 2 * ws.length := ha
      cases hd
      have hl6 : M6 l = some (.lst (ws.map uw)) := sb _ _ hl
      refine ⟨_, rfl, fun K hK => ?_, fun v hv K hK => ?_⟩
      · have hK' : K (candB ws f a) M6 := by
          cases z : candB ws f a <;> rw [z] at hK <;> exact hK
        unfold candB at hK'
        refine andT (decide (fa ws a = fb ws f)) (decide (a ≠ fx f)) (fun K' hK2 => ⟨_, rfl, _, rfl, l, ws, a, rfl, rfl, hl6, ha, by omega, ?_⟩) (fun _ K' hK2 => ?_) hK'
        · have e : PyData.eqv (.tuple [.int (fw ws a).1, .int (fw ws a).2.1]) (.tuple [.int (fw ws f).2.2.1, .int (fw ws f).2.2.2]) = decide (fa ws a = fb ws f) := by
            unfold fa fb
            simp only [PyData.eqv, PyData.eqvAll, Bool.and_true]
            rw [Bool.eq_iff_iff]
            simp [Prod.mk.injEq]
          refine ⟨_, rfl, _, rfl, _, _, Pd.of rfl, Pd.of rfl, rfl, rfl, _, rfl, ?_⟩
          rw [e]
          exact hK2
        · have e : (!decide ((a : Int) = ((fx f : Nat) : Int))) = decide (a ≠ fx f) := by
            rw [← decide_not, decide_eq_decide]; omega
          rw [← e] at hK2
          exact ⟨_, rfl, _, rfl, _, rfl, hK2⟩
      · cases z : candB ws f a with
        | false => rw [z] at hv; cases hv
        | true =>
          rw [z] at hv
          cases hv
          exact ⟨_, rfl, hK _ .refl⟩
    dsimp only
    rw [cand_fm]
    have nll : l ≠ lc := ne_fresh hl hlc
    have hl' : (updM M lc (.lst ((cand ws f).map fun j : Nat => D.int (j : Int)))) l = some (.lst (ws.map uw)) := by rw [updM_ne nll]; exact hl
    have bdp : ∀ g : Nat, g < 2 * ws.length → (Bd 6 (fa ws g).1 ∧ Bd 6 (fa ws g).2) ∧ (Bd 6 (fb ws g).1 ∧ Bd 6 (fb ws g).2) := fun g hg => by
      obtain ⟨_, _, w3⟩ := wAt_get (ws := ws) (k := ((g / 2 : Nat) : Int)) (by omega) (by omega)
      have W := hU _ w3
      unfold fa fb fw
      by_cases h : g % 2 = 0
      · rw [if_pos h]; exact ⟨⟨bd20 W.a, bd20 W.b⟩, bd20 W.c, bd20 W.d⟩
      · rw [if_neg h]; exact ⟨⟨bd20 W.c, bd20 W.d⟩, bd20 W.a, bd20 W.b⟩
    refine ⟨_, rfl, (cand ws f).map fun j : Nat => D.int (j : Int), updM_same, ?_⟩
    refine ⟨fun i δ M' => M' = updM M lc (.lst ((cand ws f).map fun j : Nat => D.int (j : Int))) ∧ ∃ o7 o8, δ = [some (.ref l), some (.int (f : Int)), some (.tup [.int (fw ws f).1, .int (fw ws f).2.1]), some (.tup [.int (fw ws f).2.2.1, .int (fw ws f).2.2.2]), some (.int (((((cand ws f).take i).foldl (fstep (snF ws f)) none).getD (fx f) : Nat) : Int)), some (.ref lc), some (wayD ws (((cand ws f).take i).foldl (fstep (snF ws f)) none)), o7, o8], ⟨rfl, _, _, rfl⟩, fun i δ M' _ z => by obtain ⟨rfl, _⟩ := z; exact updM_same, ?_, ?_⟩
    · rintro i d δ M' hi hd ⟨rfl, o7, o8, rfl⟩
      have hd : ((cand ws f).map fun j : Nat => D.int (j : Int))[i]? = some d := hd
      rw [List.getElem?_map] at hd
      cases eg : (cand ws f)[i]? with
      | none => rw [eg] at hd; cases hd
      | some g =>
        rw [eg] at hd
        cases hd
        have hg := cand_mem.mp (List.mem_of_getElem? eg)
        have nx : ((cand ws f).take (i + 1)).foldl (fstep (snF ws f)) none = fstep (snF ws f) (((cand ws f).take i).foldl (fstep (snF ws f)) none) g := by
          rw [List.take_succ, eg, List.foldl_append]; rfl
        have hmem : ∀ h, ((cand ws f).take i).foldl (fstep (snF ws f)) none = some h → h ∈ cand ws f := fun h e => by
          rcases fold_mem _ _ _ e with z | z
          · exact List.mem_of_mem_take z
          · cases z
        generalize ((cand ws f).take i).foldl (fstep (snF ws f)) none = o at hmem nx ⊢
        refine ⟨_, rfl, _, rfl, l, ws, g, rfl, rfl, hl', hg.1, by omega, _, rfl, ?_⟩
        cases o with
        | none =>
          walk_at "un"
          refine orT true true (fun K hK => ⟨_, rfl, true, rfl, _, rfl, hK⟩) (fun z => absurd z (by decide)) ?_
          refine iteA rfl ⟨_, rfl, _, rfl, rfl, some (.int (g : Int)), some (.tup [.int (fw ws g).2.2.1, .int (fw ws g).2.2.2]), ?_⟩
          rw [nx]
          rfl
        | some h =>
          have hh := cand_mem.mp (hmem h rfl)
          have d1 : fd ws (fx f) = ((fa ws f).1 - (fb ws f).1, (fa ws f).2 - (fb ws f).2) := by unfold fd fa fb; rw [fw_fx]; rfl
          have d2 : ∀ g, fa ws g = fb ws f → fd ws g = ((fb ws g).1 - (fb ws f).1, (fb ws g).2 - (fb ws f).2) := fun g e => by rw [← e]; rfl
          have es : snF ws f g h = snr ((fa ws f).1 - (fb ws f).1, (fa ws f).2 - (fb ws f).2) ((fb ws g).1 - (fb ws f).1, (fb ws g).2 - (fb ws f).2) ((fb ws h).1 - (fb ws f).1, (fb ws h).2 - (fb ws f).2) := by
            unfold snF; rw [d1, d2 g hg.2.1, d2 h hh.2.1]
          walk_at "un"
          refine orT false (snF ws f g h) (fun K hK => ⟨_, rfl, false, rfl, _, rfl, hK⟩) (fun _ K hK => ?_) ?_
          · refine ⟨_, rfl, _, rfl, Nat.le_of_ble_eq_true rfl, _, rfl, _, rfl, fb ws f, fa ws f, fb ws g, fb ws h, rfl, rfl, rfl, (bdp f hf).2.1, (bdp f hf).2.2, (bdp f hf).1.1, (bdp f hf).1.2, (bdp g hg.1).2.1, (bdp g hg.1).2.2, (bdp h hh.1).2.1, (bdp h hh.1).2.2, _, rfl, ?_⟩
            rw [← es]
            exact hK
          · refine ite2 (fun q => ?_) (fun q => ?_)
            · refine ⟨_, rfl, _, rfl, rfl, some (.int (g : Int)), some (.tup [.int (fw ws g).2.2.1, .int (fw ws g).2.2.2]), ?_⟩
              rw [nx]
              have q : snF ws f g h = true := by simpa using q
              have e : fstep (snF ws f) (some h) g = some g := by unfold fstep; simp [q]
              rw [e]
              rfl
            · refine ⟨rfl, some (.int (g : Int)), some (.tup [.int (fw ws g).2.2.1, .int (fw ws g).2.2.2]), ?_⟩
              rw [nx]
              have q : ¬ snF ws f g h = true := by simpa using q
              have e : fstep (snF ws f) (some h) g = some h := by unfold fstep; simp [q]
              rw [e]
              rfl
    · rintro δ M' ⟨rfl, o7, o8, rfl⟩
      have e : (cand ws f).take ((cand ws f).map fun j : Nat => D.int (j : Int)).length = cand ws f := List.take_of_length_le (by simp)
      dsimp only
      rw [e]
      exact ⟨_, rfl, ⟨M, .new hlc .refl, k⟩⟩
/-! ### law, level 7 -/
theorem sc_law : FnScope ["_law_script", "_law_k", "_law_row", "_law_scale_here", "_law_shuts", "_law_plot", "_law_found"] ["_law_script"] (defScope s_law) := ⟨rfl, rfl, rfl, by decide +kernel, rfl, by decide +kernel, by decide +kernel⟩
theorem eqv_self_ints : ∀ ns : List Int, PyData.eqvAll (ns.map PyData.int) (ns.map PyData.int) = true
  | [] => rfl
  | n :: ns => by
    rw [List.map_cons, PyData.eqvAll, eqv_self_ints ns, Bool.and_true]
    simp [PyData.eqv]
noncomputable def bhs (ws : List Wl) : List Int := (List.range (2 * ws.length)).map fun f => ((bh ws f : Nat) : Int)
theorem bhs_nd {ws : List Wl} (hU : ∀ w ∈ ws, Un5 w) (hF : PF ws) : (bhs ws).Nodup := by
  unfold bhs
  refine List.pairwise_iff_getElem.mpr fun i j hi hj hij => ?_
  rw [List.length_map, List.length_range] at hi hj
  simp only [List.getElem_map, List.getElem_range]
  intro e
  have := bh_inj hU hF hi hj (by omega)
  omega
theorem nd_sub : ∀ {a b : List Int}, a.Nodup → (∀ x ∈ a, x ∈ b) → b.length ≤ a.length → a.Perm b
  | [], b, _, _, h => by
    have : b = [] := List.length_eq_zero_iff.mp (by simpa using h)
    subst this; exact .refl _
  | x :: a, b, nd, sub, h => by
    have hx := sub x (by simp)
    have nd' := List.nodup_cons.mp nd
    have hp : b.Perm (x :: b.erase x) := List.perm_cons_erase hx
    refine (List.Perm.cons x (nd_sub nd'.2 (fun y hy => ?_) ?_)).trans hp.symm
    · have : y ∈ x :: b.erase x := hp.mem_iff.mp (sub y (by simp [hy]))
      rcases List.mem_cons.mp this with z | z
      · subst z; exact absurd hy nd'.1
      · exact z
    · have := hp.length_eq
      simp at this h
      omega
theorem bhs_sorted {ws : List Wl} (hU : ∀ w ∈ ws, Un5 w) (hF : PF ws) {ns : List Int} (pm : ns.Perm (bhs ws)) (up : ns.Pairwise (· ≤ ·)) : ns = (List.range (2 * ws.length)).map fun f : Nat => (f : Int) := by
  have p2 : (bhs ws).Perm ((List.range (2 * ws.length)).map fun f : Nat => (f : Int)) := nd_sub (bhs_nd hU hF) (fun x hx => by
    unfold bhs at hx
    obtain ⟨f, hf, rfl⟩ := List.mem_map.mp hx
    have hf' : f < 2 * ws.length := by simpa using hf
    exact List.mem_map.mpr ⟨bh ws f, by simpa using bh_lt hU hF hf', rfl⟩) (by unfold bhs; simp)
  refine List.Perm.eq_of_pairwise (le := (· ≤ ·)) (fun x y _ _ h1 h2 => by omega) up ?_ (pm.trans p2)
  refine List.pairwise_iff_getElem.mpr fun i j hi hj hij => ?_
  simp only [List.getElem_map, List.getElem_range]
  omega
noncomputable def sp_law : SpD := fun ds M Q => match ds with
  | [x] => ∃ ns, x = .rol (List.map D.int ns) ∧ ns.length ≤ 63 ∧ ∀ M', Q (.bl true) M'
  | _ => False
theorem ln_law : ∀ ds M Q, sp_law ds M Q → ds.length = 1 := fun ds M Q h => by
  unfold sp_law at h
  split at h
  · rfl
  · exact h.elim
set_option maxHeartbeats 4000000 in
theorem c_law {P : Program} {w : World} {K : PySem.W.Frag} {mg : Str → Option Value} {fa : Addr} (T : Tx K mg) (hfa : mg "law" = some (.ref fa)) : ∃ fd, (∀ (s : Shared) (u : Value), BindsTo s fd ⟨[u], []⟩ [("_law_script", u)]) ∧ ∀ base : Heap, FnOk P w K mg base CX0 7 fa fd ["_law_script"] (liftSp K sp_law) := by
  refine lawD (k := 6) (N := ["_law_script", "_law_k", "_law_row", "_law_scale_here", "_law_shuts", "_law_plot", "_law_found"]) T.f_law hfa sc_law (fun _ _ _ _ _ _ us hl => match us, hl with | [_], _ => rfl) ln_law fun base f cdv A outer s H E hr => ⟨_, (dss_cons (ds_forR PassesOwn.never rfl rfl T.b_range (da_cons (de_callB (cd_maxX rfl hr.units) rfl T.b_max bt_max (da_cons de_int (da_cons (de_callB (cd_minX rfl hr.units) rfl T.b_min bt_min (da_cons de_int (da_cons (de_callB cd_len rfl T.b_len bt_len (da_cons (dv 0) da_nil)) da_nil))) da_nil))) da_nil) (dg_name 1 sc_law.nd) (dss_cons (ds_set 2 sc_law.nd (de_lst (da_cons (de_call ((c_law_cell_at T).mono (by decide)) hr (da_cons (dv 0) (da_cons (dv 1) da_nil))) (da_cons de_int da_nil))))
      (dss_cons (ds_set 3 sc_law.nd (de_call ((c_law_scale T).mono (by decide)) hr (da_cons (dv 2) da_nil)))
      (dss_cons (ds_set 4 sc_law.nd (de_call ((c_law_shuts_here T).mono (by decide)) hr (da_cons (dv 2) (da_cons de_int (da_cons de_int da_nil)))))
      (dss_cons (ds_if (dt_cmp (od_eq hr.units) (de_call ((c_law_take T).mono (by decide)) hr (da_cons (dv 2) (da_cons de_int da_nil))) de_int) (dss_one (ds_set 4 sc_law.nd (de_call ((c_law_squares T).mono (by decide)) hr (da_cons (dv 2) da_nil)))) dss_nil)
      (dss_cons (ds_set 5 sc_law.nd (de_call ((c_law_made T).mono (by decide)) hr (da_cons (dv 3) (da_cons (dv 4) da_nil))))
      (dss_cons (ds_comp1 6 sc_law.nd (CScope.of (xs := ["_law_face"]) (js := [5]) rfl) rfl (di_range1 rfl T.b_range (da_cons (de_op od_mul de_int (de_callB cd_len rfl T.b_len bt_len (da_cons (dv 4) da_nil))) da_nil)) (fun _ _ _ _ => dts_nil) (fun _ _ _ _ => (de_call ((c_behind T).mono (by decide)) hr (da_cons (dv 1) (da_cons (dv 0) da_nil)))))
      (dss_cons (ds_if (dt_cmp (od_ne hr.units) (dv 6) (de_comp1 (CScope.of (xs := ["_law_face"]) (js := [4]) rfl) rfl (di_range1 rfl T.b_range (da_cons (de_op od_mul de_int (de_callB cd_len rfl T.b_len bt_len (da_cons (dv 4) da_nil))) da_nil)) (fun _ _ _ _ => dts_nil) (fun _ _ _ _ => (de_call ((c_law_behind T).mono (by decide)) hr (da_cons (dv 1) (da_cons (dv 0) da_nil)))))) (dss_one (ds_ret de_bl)) dss_nil)
      (dss_one (ds_if (dt_w (dw_or (dt_cmp (od_ne hr.units) (de_callB cd_sortI rfl T.b_sorted bt_sorted (da_cons (dv 6) da_nil)) (de_listR rfl T.b_list T.b_range (da_cons (de_op od_mul de_int (de_callB cd_len rfl T.b_len bt_len (da_cons (dv 4) da_nil))) da_nil))) (dw_or1 (dt_cmp (od_in (ru66 hr)) de_bl (de_comp1 (CScope.of (xs := ["_law_face"]) (js := []) rfl) rfl (di_seq (dv 6)) (fun _ _ _ _ => dts_nil) (fun _ _ _ _ => (de_callB (cd_isinstL (K := K) rfl) rfl T.b_isinstance bt_isinstance (da_cons (dv 0) (da_cons (de_ty rfl T.b_bool bt_bool) da_nil))))) (by with_unfolding_all rfl))))) (dss_one (ds_ret de_bl)) dss_nil))))))))))
      (dss_one (ds_ret de_bl))), fun ds M Q h => ?r⟩
  case r =>
    -- slots: 0 _law_script, 1 _law_k, 2 _law_row, 3 _law_scale_here, 4 _law_shuts, 5 _law_plot, 6 _law_found
    unfold sp_law at h
    split at h
    case h_2 => exact h.elim
    obtain ⟨ns, rfl, hl, k⟩ := h
    refine ⟨_, rfl, (max 1 (min 4 (((List.map D.int ns).length : Nat) : Int))).toNat, ?_, by omega, fun i δ M => ∃ o1 o2 o3 o4 o5 o6, δ = [some (.rol (List.map D.int ns)), o1, o2, o3, o4, o5, o6], ⟨_, _, _, _, _, _, rfl⟩, ?_, fun _ _ _ => rtn (k _)⟩
    · rw [Int.toNat_of_nonneg (by omega)]
    rintro i δ M hi ⟨o1, o2, o3, o4, o5, o6, rfl⟩
    refine ⟨_, rfl, _, rfl, ns, i, rfl, rfl, by omega, fun z => ⟨Nat.le_of_ble_eq_true rfl, fun row hrow => ?_⟩⟩
    refine ⟨_, rfl, row, z, 0, rfl, updM_same, by decide, by decide, fun x1 c1 t b sx sy S h1 h2 => ?_⟩
    refine ⟨_, rfl, row, x1, c1, 9, rfl, rfl, by decide, rfl, updM_same, h1, by omega, fun M2 x2 c2 l ws nrl hr2 hl2 g0 g1 g2 g3 g4 => ?_⟩
    walk_at "nx"
    refine seq_cut (fun δ M' => ∃ (l : Addr) (ws : List Wl), δ = [some (.rol (List.map D.int ns)), some (.int (i : Int)), some (.ref row), some (scl t b sx sy), some (.ref l), o5, o6] ∧ M' l = some (.lst (ws.map uw)) ∧ (∀ w ∈ ws, Un5 w) ∧ PF ws ∧ ws.length ≤ 40) ?_ (fun hu => ?_)
    rotate_left
    · refine ⟨_, rfl, row, 10, x2, c2, rfl, rfl, hr2, g0, by omega, by decide, bd64 (by decide), fun x3 v h0 h1 => ⟨_, rfl, ?_⟩⟩
      refine ite2 (fun _ => ?_) (fun _ => hu _ _ ⟨l, ws, rfl, by rw [updM_ne nrl.symm]; exact hl2, g3, g4, by omega⟩)
      exact ⟨_, rfl, row, x3, c2 + 1, rfl, updM_same, by omega, by omega, fun M4 x4 c4 l4 ws4 n4 hr4 hl4 a1 a2 a3 a4 a5 => hu _ _ ⟨l4, ws4, rfl, hl4, a4, a3, a5⟩⟩
    clear hl2 nrl g2 g3 g4 hr2 g0 g1
    rintro δ M3 ⟨l, ws, rfl, hl2, g3, g4, g2⟩
    have hW : ∀ w ∈ ws, Uok (10 ^ 6) w := fun w hw => by
      have h := g3 w hw
      have U : ∀ z : Int, (0 ≤ z ∧ z ≤ 20) → (-(10 ^ 6) ≤ z ∧ z ≤ 10 ^ 6) := fun z h => by omega
      exact ⟨U _ h.a, U _ h.b, U _ h.c, U _ h.d⟩
    have hn : (ws.map uw).length = ws.length := by simp
    refine ⟨_, rfl, _, rfl, t, b, sx, sy, l, ws, rfl, rfl, hl2, S, by omega, hW, ?_⟩
    have rng : (2 : Int) * ((ws.length : Nat) : Int) = ((2 * ws.length : Nat) : Int) := by simp
    refine ⟨_, rfl, _, hl2, mulOk_l (bd64 (by decide)), 2 * ws.length, (by rw [hn, ← rng]), by omega, comp_map (fun f => .int ((bh ws f : Nat) : Int)) (by show 2 * ws.length ≤ 1000000; omega) (fun _ _ _ => trivial) ?_ (fun lf hlf => ?_)⟩
    · intro f d M6 hf hd sb
      cases hd
      exact ⟨_, rfl, fun K hK => ⟨_, rfl, _, rfl, t, b, sx, sy, ws, f, rfl, rfl, S, g2, g3, hf, hK⟩⟩
    dsimp only
    have ef : (List.range (2 * ws.length)).map (fun f => D.int ((bh ws f : Nat) : Int)) = (bhs ws).map D.int := by unfold bhs; rw [List.map_map]; rfl
    rw [ef]
    have hl4 : (updM M3 lf (.lst ((bhs ws).map D.int))) l = some (.lst (ws.map uw)) := by rw [updM_ne (ne_fresh hl2 hlf)]; exact hl2
    have hf4 : (updM M3 lf (.lst ((bhs ws).map D.int))) lf = some (.lst ((bhs ws).map D.int)) := updM_same
    generalize updM M3 lf (.lst ((bhs ws).map D.int)) = M4 at hl4 hf4 ⊢
    refine ⟨_, rfl, _, rfl, _, hl4, mulOk_l (bd64 (by decide)), 2 * ws.length, (by rw [hn, ← rng]), by omega, comp_map (fun f => .int ((bh ws f : Nat) : Int)) (by show 2 * ws.length ≤ 1000000; omega) (fun _ _ _ => trivial) ?_ (fun lg hlg => ?_)⟩
    · intro f d M6 hf hd sb
      cases hd
      exact ⟨_, rfl, fun K hK => ⟨_, rfl, _, rfl, l, ws, f, rfl, rfl, sb _ _ hl4, hf, g2, g3, hK _ .refl⟩⟩
    dsimp only
    rw [ef]
    have hl5 : (updM M4 lg (.lst ((bhs ws).map D.int))) l = some (.lst (ws.map uw)) := by rw [updM_ne (ne_fresh hl4 hlg)]; exact hl4
    have hf5 : (updM M4 lg (.lst ((bhs ws).map D.int))) lf = some (.lst ((bhs ws).map D.int)) := by rw [updM_ne (ne_fresh hf4 hlg)]; exact hf4
    have hg5 : (updM M4 lg (.lst ((bhs ws).map D.int))) lg = some (.lst ((bhs ws).map D.int)) := updM_same
    generalize updM M4 lg (.lst ((bhs ws).map D.int)) = M5 at hl5 hf5 hg5 ⊢
    have eqi : ∀ ns : List Int, PyData.eqv (.list (ns.map PyData.int)) (.list (ns.map PyData.int)) = true := fun ns => by rw [PyData.eqv]; exact eqv_self_ints ns
    refine ⟨_, _, .lst hf5 (pds_ints _), .lst hg5 (pds_ints _), shaped_ints _, shaped_ints _, _, rfl, ?_⟩
    rw [eqi]
    refine iteB rfl ?_
    walk_at "un"
    have lb : (bhs ws).length < 128 := by unfold bhs; simp; omega
    refine ⟨_, rfl, bhs ws, hf5, bhs_nd g3 g4, lb, fun ls ns' hls pm up => ?_⟩
    have en := bhs_sorted g3 g4 pm up
    have cs : ∀ {a o G}, M5 a = some o → (updM M5 ls G) a = some o := fun h => by rw [updM_ne (ne_fresh h hls)]; exact h
    refine ⟨_, rfl, _, cs hl5, mulOk_l (bd64 (by decide)), 2 * ws.length, (by rw [hn, ← rng]), by omega, fun lr hlr => ?_⟩
    have cr : ∀ {a o G}, (updM M5 ls (.lst (ns'.map D.int))) a = some o → (updM (updM M5 ls (.lst (ns'.map D.int))) lr G) a = some o := fun h => by rw [updM_ne (ne_fresh h hlr)]; exact h
    have er : (List.range (2 * ws.length)).map (fun i : Nat => D.int (i : Int)) = ns'.map D.int := by rw [en, List.map_map]; rfl
    refine ⟨_, _, .lst (cr updM_same) (pds_ints _), .lst (by rw [updM_same, er]) (pds_ints _), shaped_ints _, shaped_ints _, _, rfl, ?_⟩
    rw [eqi]
    refine iteB rfl ?_
    have hf6 := cr (G := .lst ((List.range (2 * ws.length)).map fun i : Nat => D.int (i : Int))) (cs (G := .lst (ns'.map D.int)) hf5)
    generalize updM (updM M5 ls (.lst (ns'.map D.int))) lr (.lst ((List.range (2 * ws.length)).map fun i : Nat => D.int (i : Int))) = M6 at hf6 ⊢
    refine ⟨_, rfl, (bhs ws).map D.int, hf6, comp_map (fun _ => .bl false) (by show ((bhs ws).map D.int).length ≤ 1000000; rw [List.length_map]; omega) (fun q ys hq => by show (updM M6 q _) lf = _; rw [updM_ne (ne_fresh hf6 hq)]; exact hf6) ?_ (fun lz hlz => ?_)⟩
    · intro j d M7 hj hd sb
      have hd : ((bhs ws).map D.int)[j]? = some d := hd
      rw [List.getElem?_map] at hd
      cases eg : (bhs ws)[j]? with
      | none => rw [eg] at hd; cases hd
      | some q =>
        rw [eg] at hd
        cases hd
        exact ⟨_, rfl, fun K' hK' => ⟨_, rfl, .inl ⟨"int", false, rfl, rfl, hK' _ .refl⟩⟩⟩
    dsimp only
    have eb : (List.range ((bhs ws).map D.int).length).map (fun _ => D.bl false) = List.replicate ((bhs ws).map D.int).length (D.bl false) := by
      rw [List.map_const', List.length_range]
    rw [eb]
    have pdr : ∀ {M' : MH} (n : Nat), Pds M' (List.replicate n (D.bl false)) (List.replicate n (PyData.bool false)) := fun {M'} n => by
      induction n with
      | zero => exact .nil
      | succ n ih => rw [List.replicate_succ, List.replicate_succ]; exact .cons (.bl false) ih
    have lay : ∀ n : Nat, PyData.canLayAll0 (List.replicate n (PyData.bool false)) = true := fun n => by
      induction n with
      | zero => rfl
      | succ n ih => rw [List.replicate_succ, PyData.canLayAll0, ih]; rfl
    have any : ∀ n : Nat, (List.replicate n (PyData.bool false)).any (fun q => PyData.eqv q (.bool true)) = false := fun n => by
      rw [List.any_eq_false]
      intro x hx
      rw [(List.mem_replicate.mp hx).2]
      simp [PyData.eqv]
    refine ⟨_, _, .bl true, .inl (.lst updM_same (pdr _)), rfl, lay _, _, rfl, ?_⟩
    rw [any]
    exact iteB rfl ⟨_, _, _, _, _, _, rfl⟩
theorem law_sp (ns : List Int) (M : MH) (h : ns.length ≤ 63) : sp_law [.rol (ns.map D.int)] M (fun d _ => d = .bl true) := ⟨ns, rfl, h, fun _ => rfl⟩

/-! ### the law, the head -/
end Q_k17_what_comes_behind_a_face
open PySem PySem.W PyProof.Rows
set_option maxRecDepth 100000 in
set_option maxHeartbeats 0 in
theorem PySem.Challenge.cw_spotlook_k17_what_comes_behind_a_face_holds : PySem.Challenge.rw_spotlook_k17_what_comes_behind_a_face.Holds := by
  w_on; o_law; k_head; (case hw => w_witness2)
  k_fill
  refine SD.law_walk (k := 7) (x := "_law_script") (sp := Q_k17_what_comes_behind_a_face.sp_law) (l := PySem.Challenge.rw_spotlook_k17_what_comes_behind_a_face) rfl rfl ⟨rfl, by decide, by decide⟩ (fun w h Y => PySem.W.kIn_of Y) ?F Q_k17_what_comes_behind_a_face.law_sp
  case F =>
    intro w mg fa h KX G hmg
    have t_law_cell_at : SD.Txt (L2.KOf KX) mg "_law_cell_at" Q_k17_what_comes_behind_a_face.s_law_cell_at := by
      dsimp only [L2.KOf]
      refine' SD.Txt.mk KX G ?a ?l ?c ?k
      (case a => k_is); (case l => k_is); (case c => k_is); (case k => k_is)
    have t_law_take : SD.Txt (L2.KOf KX) mg "_law_take" Q_k17_what_comes_behind_a_face.s_law_take := by
      dsimp only [L2.KOf]
      refine' SD.Txt.mk KX G ?a ?l ?c ?k
      (case a => k_is); (case l => k_is); (case c => k_is); (case k => k_is)
    have t_law_scale : SD.Txt (L2.KOf KX) mg "_law_scale" Q_k17_what_comes_behind_a_face.s_law_scale := by
      dsimp only [L2.KOf]
      refine' SD.Txt.mk KX G ?a ?l ?c ?k
      (case a => k_is); (case l => k_is); (case c => k_is); (case k => k_is)
    have t_law_turn : SD.Txt (L2.KOf KX) mg "_law_turn" Q_k17_what_comes_behind_a_face.s_law_turn := by
      dsimp only [L2.KOf]
      refine' SD.Txt.mk KX G ?a ?l ?c ?k
      (case a => k_is); (case l => k_is); (case c => k_is); (case k => k_is)
    have t_law_on : SD.Txt (L2.KOf KX) mg "_law_on" Q_k17_what_comes_behind_a_face.s_law_on := by
      dsimp only [L2.KOf]
      refine' SD.Txt.mk KX G ?a ?l ?c ?k
      (case a => k_is); (case l => k_is); (case c => k_is); (case k => k_is)
    have t_law_fair : SD.Txt (L2.KOf KX) mg "_law_fair" Q_k17_what_comes_behind_a_face.s_law_fair := by
      dsimp only [L2.KOf]
      refine' SD.Txt.mk KX G ?a ?l ?c ?k
      (case a => k_is); (case l => k_is); (case c => k_is); (case k => k_is)
    have t_law_shuts_here : SD.Txt (L2.KOf KX) mg "_law_shuts_here" Q_k17_what_comes_behind_a_face.s_law_shuts_here := by
      dsimp only [L2.KOf]
      refine' SD.Txt.mk KX G ?a ?l ?c ?k
      (case a => k_is); (case l => k_is); (case c => k_is); (case k => k_is)
    have t_law_squares : SD.Txt (L2.KOf KX) mg "_law_squares" Q_k17_what_comes_behind_a_face.s_law_squares := by
      dsimp only [L2.KOf]
      refine' SD.Txt.mk KX G ?a ?l ?c ?k
      (case a => k_is); (case l => k_is); (case c => k_is); (case k => k_is)
    have t_law_low : SD.Txt (L2.KOf KX) mg "_law_low" Q_k17_what_comes_behind_a_face.s_law_low := by
      dsimp only [L2.KOf]
      refine' SD.Txt.mk KX G ?a ?l ?c ?k
      (case a => k_is); (case l => k_is); (case c => k_is); (case k => k_is)
    have t_law_spot : SD.Txt (L2.KOf KX) mg "_law_spot" Q_k17_what_comes_behind_a_face.s_law_spot := by
      dsimp only [L2.KOf]
      refine' SD.Txt.mk KX G ?a ?l ?c ?k
      (case a => k_is); (case l => k_is); (case c => k_is); (case k => k_is)
    have t_law_made : SD.Txt (L2.KOf KX) mg "_law_made" Q_k17_what_comes_behind_a_face.s_law_made := by
      dsimp only [L2.KOf]
      refine' SD.Txt.mk KX G ?a ?l ?c ?k
      (case a => k_is); (case l => k_is); (case c => k_is); (case k => k_is)
    have t_face_ends : SD.Txt (L2.KOf KX) mg "face_ends" Q_k17_what_comes_behind_a_face.s_face_ends := by
      dsimp only [L2.KOf]
      refine' SD.Txt.mk KX G ?a ?l ?c ?k
      (case a => k_is); (case l => k_is); (case c => k_is); (case k => k_is)
    have t_gap : SD.Txt (L2.KOf KX) mg "gap" Q_k17_what_comes_behind_a_face.s_gap := by
      dsimp only [L2.KOf]
      refine' SD.Txt.mk KX G ?a ?l ?c ?k
      (case a => k_is); (case l => k_is); (case c => k_is); (case k => k_is)
    have t_lean : SD.Txt (L2.KOf KX) mg "lean" Q_k17_what_comes_behind_a_face.s_lean := by
      dsimp only [L2.KOf]
      refine' SD.Txt.mk KX G ?a ?l ?c ?k
      (case a => k_is); (case l => k_is); (case c => k_is); (case k => k_is)
    have t_side_of : SD.Txt (L2.KOf KX) mg "side_of" Q_k17_what_comes_behind_a_face.s_side_of := by
      dsimp only [L2.KOf]
      refine' SD.Txt.mk KX G ?a ?l ?c ?k
      (case a => k_is); (case l => k_is); (case c => k_is); (case k => k_is)
    have t_is_met_sooner : SD.Txt (L2.KOf KX) mg "is_met_sooner" Q_k17_what_comes_behind_a_face.s_is_met_sooner := by
      dsimp only [L2.KOf]
      refine' SD.Txt.mk KX G ?a ?l ?c ?k
      (case a => k_is); (case l => k_is); (case c => k_is); (case k => k_is)
    have t_face_behind : SD.Txt (L2.KOf KX) mg "face_behind" Q_k17_what_comes_behind_a_face.s_face_behind := by
      dsimp only [L2.KOf]
      refine' SD.Txt.mk KX G ?a ?l ?c ?k
      (case a => k_is); (case l => k_is); (case c => k_is); (case k => k_is)
    have t_faces_by_start : SD.Txt (L2.KOf KX) mg "faces_by_start" Q_k17_what_comes_behind_a_face.s_faces_by_start := by
      dsimp only [L2.KOf]
      refine' SD.Txt.mk KX G ?a ?l ?c ?k
      (case a => k_is); (case l => k_is); (case c => k_is); (case k => k_is)
    have t_behind : SD.Txt (L2.KOf KX) mg "behind" Q_k17_what_comes_behind_a_face.s_behind := by
      dsimp only [L2.KOf]
      refine' SD.Txt.mk KX G ?a ?l ?c ?k
      (case a => k_is); (case l => k_is); (case c => k_is); (case k => k_is)
    have t_law_ends : SD.Txt (L2.KOf KX) mg "_law_ends" Q_k17_what_comes_behind_a_face.s_law_ends := by
      dsimp only [L2.KOf]
      refine' SD.Txt.mk KX G ?a ?l ?c ?k
      (case a => k_is); (case l => k_is); (case c => k_is); (case k => k_is)
    have t_law_sooner : SD.Txt (L2.KOf KX) mg "_law_sooner" Q_k17_what_comes_behind_a_face.s_law_sooner := by
      dsimp only [L2.KOf]
      refine' SD.Txt.mk KX G ?a ?l ?c ?k
      (case a => k_is); (case l => k_is); (case c => k_is); (case k => k_is)
    have t_law_behind : SD.Txt (L2.KOf KX) mg "_law_behind" Q_k17_what_comes_behind_a_face.s_law_behind := by
      dsimp only [L2.KOf]
      refine' SD.Txt.mk KX G ?a ?l ?c ?k
      (case a => k_is); (case l => k_is); (case c => k_is); (case k => k_is)
    have t_law : SD.Txt (L2.KOf KX) mg "law" Q_k17_what_comes_behind_a_face.s_law := by
      dsimp only [L2.KOf]
      refine' SD.Txt.mk KX G ?a ?l ?c ?k
      (case a => k_is); (case l => k_is); (case c => k_is); (case k => k_is)
    have b_abs : mg "abs" = none := by
      refine' PySem.W.mg_none_of KX G ?a
      (case a => k_is)
    have b_all : mg "all" = none := by
      refine' PySem.W.mg_none_of KX G ?a
      (case a => k_is)
    have b_bool : mg "bool" = none := by
      refine' PySem.W.mg_none_of KX G ?a
      (case a => k_is)
    have b_int : mg "int" = none := by
      refine' PySem.W.mg_none_of KX G ?a
      (case a => k_is)
    have b_isinstance : mg "isinstance" = none := by
      refine' PySem.W.mg_none_of KX G ?a
      (case a => k_is)
    have b_len : mg "len" = none := by
      refine' PySem.W.mg_none_of KX G ?a
      (case a => k_is)
    have b_list : mg "list" = none := by
      refine' PySem.W.mg_none_of KX G ?a
      (case a => k_is)
    have b_max : mg "max" = none := by
      refine' PySem.W.mg_none_of KX G ?a
      (case a => k_is)
    have b_min : mg "min" = none := by
      refine' PySem.W.mg_none_of KX G ?a
      (case a => k_is)
    have b_range : mg "range" = none := by
      refine' PySem.W.mg_none_of KX G ?a
      (case a => k_is)
    have b_sorted : mg "sorted" = none := by
      refine' PySem.W.mg_none_of KX G ?a
      (case a => k_is)
    have b_tuple : mg "tuple" = none := by
      refine' PySem.W.mg_none_of KX G ?a
      (case a => k_is)
    exact Q_k17_what_comes_behind_a_face.c_law ⟨t_law_cell_at, t_law_take, t_law_scale, t_law_turn, t_law_on, t_law_fair, t_law_shuts_here, t_law_squares, t_law_low, t_law_spot, t_law_made, t_face_ends, t_gap, t_lean, t_side_of, t_is_met_sooner, t_face_behind, t_faces_by_start, t_behind, t_law_ends, t_law_sooner, t_law_behind, t_law, b_abs, b_all, b_bool, b_int, b_isinstance, b_len, b_list, b_max, b_min, b_range, b_sorted, b_tuple⟩ hmg

