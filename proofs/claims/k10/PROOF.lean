import PyProof.Rows.All
import Wide.All
import OpenK.AllK
import Wide.FinOn
import Lean
import PyProof.EqAt
import PyProof.EqKinds
import PyProof.TupleCall
import PySem.Challenge.RW_spotlook_k10_corners
set_option Elab.async false
set_option linter.all false
set_option maxRecDepth 100000
/-! THE HAND LAYER, for ints, bools, texts, own classes, LISTS and tuples (index, slices, in, append, pop ..), calls, loops. Paste it whole ahead of your own text; what your proof does not reach may be deleted. -/
namespace L2
open PySem PySem.Spec PyProof.Rows

/-- a key: an int or a str -/
abbrev Key := Sum Int Str
def keyIs : Key → Value → Bool
  | .inl k, v => Value.isInt k v
  | .inr x, v => Value.isStrOf x v
def keyH (w : World) : Key → Int
  | .inl k => hashInt k
  | .inr x => hashStr w x
theorem keyIs_shape : ∀ {k : Key} {v : Value}, keyIs k v = true → (∃ i t, k = Sum.inl i ∧ v = Value.int i t) ∨ (∃ x t, k = Sum.inr x ∧ v = Value.str x t)
  | .inl i, v, h => by
    obtain ⟨t, e⟩ := Value.isInt_shape (k := i) (v := v) h
    exact .inl ⟨i, t, rfl, e⟩
  | .inr x, v, h => by
    obtain ⟨t, e⟩ := Value.isStrOf_shape (x := x) (v := v) h
    exact .inr ⟨x, t, rfl, e⟩
theorem key_ll (a b : Int) : decide ((Sum.inl a : Key) = Sum.inl b) = (a == b) := by
  by_cases e : a = b
  · subst e; simp
  · have h : ¬ (Sum.inl a : Key) = Sum.inl b := fun q => e (Sum.inl.inj q)
    rw [decide_eq_false h]
    exact (beq_eq_false_iff_ne.mpr e).symm
theorem key_rr (a b : Str) : decide ((Sum.inr a : Key) = Sum.inr b) = decide (a = b) := by
  by_cases e : a = b
  · subst e; simp
  · have h : ¬ (Sum.inr a : Key) = Sum.inr b := fun q => e (Sum.inr.inj q)
    rw [decide_eq_false h, decide_eq_false e]
theorem key_lr (a : Int) (b : Str) : decide ((Sum.inl a : Key) = Sum.inr b) = false := decide_eq_false (fun q => nomatch q)
theorem key_rl (a : Str) (b : Int) : decide ((Sum.inr a : Key) = Sum.inl b) = false := decide_eq_false (fun q => nomatch q)

def mixKind (prog : Program) (w : World) : PySem.KeyKind prog w Key where
  is := keyIs
  hash := keyH w
  inj := fun v a b ha hb => by
    rcases keyIs_shape ha with ⟨i, t, rfl, rfl⟩ | ⟨x, t, rfl, rfl⟩
    · rcases keyIs_shape hb with ⟨j, u, rfl, e⟩ | ⟨y, u, rfl, e⟩
      · injection e with e1 _; rw [e1]
      · exact nomatch e
    · rcases keyIs_shape hb with ⟨j, u, rfl, e⟩ | ⟨y, u, rfl, e⟩
      · exact nomatch e
      · injection e with e1 _; rw [e1]
  byValue := fun k v h => by
    rcases keyIs_shape h with ⟨i, t, rfl, rfl⟩ | ⟨x, t, rfl, rfl⟩ <;> rfl
  pyHash := fun hv h => by
    rcases keyIs_shape hv with ⟨i, t, rfl, rfl⟩ | ⟨x, t, rfl, rfl⟩
    · exact wpAny_pyHash_int h
    · exact wpAny_pyHash_str h
  eqBool := fun hu hv h => by
    rcases keyIs_shape hu with ⟨i, t, rfl, rfl⟩ | ⟨x, t, rfl, rfl⟩
    · rcases keyIs_shape hv with ⟨j, u, rfl, rfl⟩ | ⟨y, u, rfl, rfl⟩
      · rw [key_ll] at h; exact wpAny_eqBool_int h
      · rw [key_lr] at h; exact SeqAt.EqAt.int_str i t y u _ _ _ _ h
    · rcases keyIs_shape hv with ⟨j, u, rfl, rfl⟩ | ⟨y, u, rfl, rfl⟩
      · rw [key_rl] at h; exact SeqAt.EqAt.str_int x t j u _ _ _ _ h
      · rw [key_rr] at h; exact wpAny_eqBool_str h
  «strs» := fun k x t v h => by
    rcases keyIs_shape h with ⟨i, u, rfl, e⟩ | ⟨y, u, rfl, e⟩
    · exact nomatch e
    · injection e with e1 _
      subst e1
      cases v <;> rfl

end L2

namespace L2
open PySem PySem.Spec PyProof.Rows

/-- a value, without the heap -/
inductive V where
  | non | bl (b : Bool) | int (i : Int) | str (x : Str) | byt (b : Array UInt8) | flt (b : UInt64) | ref (a : Addr) | ty (n : String)
  deriving DecidableEq

def RelV : V → Value → Prop
  | .non, u => u = Value.none
  | .bl b, u => u = Value.bool b
  | .int i, u => ∃ t, u = Value.int i t
  | .str x, u => ∃ t, u = Value.str x t
  | .byt b, u => ∃ t, u = Value.bytes b t
  | .flt b, u => ∃ t, u = Value.float b t
  | .ref a, u => u = Value.ref a
  | .ty n, u => u = Value.type n

abbrev Vals : List V → List Value → Prop := Paired RelV
theorem Vals.length {xs : List V} {us : List Value} (r : Vals xs us) : xs.length = us.length := Paired.length r
theorem Vals.get : ∀ {xs : List V} {us : List Value} {i : Nat} {x : V}, Vals xs us → xs[i]? = some x → ∃ u, us[i]? = some u ∧ RelV x u
  | _, _, _, _, .nil, e => by simp at e
  | _, _, 0, _, .cons r _, e => by simp at e; subst e; exact ⟨_, rfl, r⟩
  | _, _, i + 1, x, .cons _ t, e => by
    obtain ⟨u, h1, h2⟩ := Vals.get (i := i) (x := x) t (by simpa using e)
    exact ⟨u, by simpa using h1, h2⟩
theorem Vals.set {x : V} {u : Value} (r : RelV x u) : ∀ {xs : List V} {us : List Value} (i : Nat), Vals xs us → Vals (xs.set i x) (us.set i u)
  | _, _, _, .nil => .nil
  | _, _, 0, .cons _ t => .cons r t
  | _, _, i + 1, .cons q t => .cons q (Vals.set r i t)
theorem Vals.append : ∀ {xs ys : List V} {us ws : List Value}, Vals xs us → Vals ys ws → Vals (xs ++ ys) (us ++ ws)
  | _, _, _, _, .nil, s => s
  | _, _, _, _, .cons r t, s => .cons r (Vals.append t s)
theorem Vals.take : ∀ {xs : List V} {us : List Value} (n : Nat), Vals xs us → Vals (xs.take n) (us.take n)
  | _, _, 0, _ => .nil
  | _, _, _ + 1, .nil => .nil
  | _, _, n + 1, .cons r t => .cons r (Vals.take n t)
theorem Vals.drop : ∀ {xs : List V} {us : List Value} (n : Nat), Vals xs us → Vals (xs.drop n) (us.drop n)
  | _, _, 0, r => r
  | _, _, _ + 1, .nil => .nil
  | _, _, n + 1, .cons _ t => Vals.drop n t

def RelO : Option V → Option Value → Prop
  | some v, some u => RelV v u
  | none, none => True
  | _, _ => False
def KV {κ : Type} : List (κ × V) → List (κ × Value) → Prop := Paired fun (p : κ × V) (q : κ × Value) => p.1 = q.1 ∧ RelV p.2 q.2

/-- a key of a dict (00_mix): an int or a text -/
def kV : Key → V
  | .inl i => .int i
  | .inr x => .str x

/-- what stands at a tracked address -/
inductive HO where
  /-- a list -/
  | lst (xs : List V)
  /-- a tuple (never changes) -/
  | tup (xs : List V)
  /-- a dict whose keys are ints and texts; one whose keys are tuples of ints and texts (the empty one is both) -/
  | dK (kvs : List (Key × V)) | dT (kvs : List (List Key × V))
  /-- a set of ints: its members, its size -/
  | set (S : Int → Bool) (n : Nat)
  /-- an instance of the class at C, its dict at dx, its attributes -/
  | ins (C dx : Addr) (fs : List (Str × V))
  /-- the dict of the instance at x -/
  | own (x : Addr)
  /-- the dict of an exception -/
  | xd (fs : List (Str × V))
  /-- a bound method, f of x -/
  | met (f x : Addr)
  /-- a range object lo, lo + 1, .. below hi -/
  | rng (lo hi : Int)
  /-- a thing that is known to the object (the script; a dict while a loop walks it): read, never written while it is so -/
  | frz (o : Obj) (u : HO)
  /-- a code object's table -/
  | tbl (ps : Array Value)
  /-- any other thing, by what is true of its one object (a def of one's own: SetO a S n := HO.ext fun h => ..) -/
  | ext (φ : Heap → Prop)

abbrev Hp := Addr → Option HO
def upd (H : Hp) (a : Addr) (o : HO) : Hp := fun b => if b = a then some o else H b
theorem upd_same {H : Hp} {a : Addr} {o : HO} : upd H a o a = some o := by unfold upd; rw [if_pos rfl]
theorem upd_ne {H : Hp} {a b : Addr} {o : HO} (h : b ≠ a) : upd H a o b = H b := by unfold upd; rw [if_neg h]
theorem ne_of_none {H : Hp} {a b : Addr} {o : HO} (h : H a = some o) (h' : H b = none) : a ≠ b := by
  intro e; subst e; rw [h] at h'; cases h'

section
variable (P : Program) (w : World)
def ObjOk (H : Hp) (h : Heap) (a : Addr) : HO → Prop
  | .lst xs => xs.length ≤ sizeLine ∧ ∃ (its : List Value) (n : Nat), Vals xs its ∧ h.get? a = some { cls := .type "list", data := .seq its.toArray n }
  | .tup xs => xs.length ≤ sizeLine ∧ ∃ its : List Value, Vals xs its ∧ IsTup h a its.toArray
  | .dK kvs => kvs.length ≤ sizeLine ∧ (a == sysModules) = false ∧ ∃ vs, KV kvs vs ∧ h.DictOf (mixKind P w) a vs
  | .dT kvs => kvs.length ≤ sizeLine ∧ (a == sysModules) = false ∧ ∃ xs : List (List Key × Addr × Value),
      Paired (fun (p : List Key × V) (q : List Key × Addr × Value) => p.1 = q.1 ∧ H q.2.1 = some (.tup (p.1.map kV)) ∧ RelV p.2 q.2.2) kvs xs ∧
      ∃ o es ep, h.get? a = some o ∧ o.ExactDict ∧ o.data = .dict es ep ∧ es.toList = xs.map (entryOfKey (tupleKind (mixKind P w))) ∧ (xs.map (·.1)).Nodup
  | .set S n => h.SetOf (intKind P w) a S n
  | .ins C dx fs => H dx = some (.own a) ∧ fs.length ≤ 1000 ∧ dx ≠ a ∧ h.get? a = some (PySem.W.instObj C dx) ∧
      ∃ mA, h.Ns1 dx mA ∧ (∀ f, RelO (fs.lookup f) (mA f)) ∧ PySem.Within mA (fs.map (·.1))
  | .own _ => ∃ o, h.get? a = some o
  | .xd fs => ∃ mA, h.Ns1 a mA ∧ ∀ f, RelO (fs.lookup f) (mA f)
  | .rng lo hi => ∃ t u v, h.get? a = some { cls := .type "range", data := .fields #[.int lo t, .int hi u, .int 1 v] }
  | .frz o u => h.get? a = some o ∧ ObjOk H h a u
  | .tbl ps => h.get? a = some { cls := .none, data := .fields ps }
  | .met f x => h.get? a = some (PySem.W.methodObj (.ref f) (.ref x))
  | .ext φ => φ h ∧ (∃ o, h.get? a = some o) ∧ ∀ h1 h2 : Heap, φ h1 → (∀ o, h1.get? a = some o → h2.get? a = some o) → φ h2
/-- the abstract heap is held -/
def HOk (H : Hp) (h : Heap) : Prop := ∀ a o, H a = some o → ObjOk P w H h a o
end

section
variable {P : Program} {w : World} {H H' : Hp} {h h' : Heap} {a : Addr} {o : HO}
theorem ObjOk.lt (x : ObjOk P w H h a o) : a < h.objs.size := by
  cases o with
  | lst xs => obtain ⟨_, _, _, _, e⟩ := x; exact Heap.lt_size e
  | tup xs => obtain ⟨_, _, _, p⟩ := x; exact p.lt
  | dK kvs => obtain ⟨_, _, _, _, o, _, _, e, _⟩ := x; exact Heap.lt_size e
  | dT kvs => obtain ⟨_, _, _, _, o, _, _, e, _⟩ := x; exact Heap.lt_size e
  | set S n => obtain ⟨o, _, _, _, e, _⟩ := x; exact Heap.lt_size e
  | ins C dx fs => obtain ⟨_, _, _, e, _⟩ := x; exact Heap.lt_size e
  | own y => obtain ⟨_, e⟩ := x; exact Heap.lt_size e
  | xd fs => obtain ⟨_, ⟨_, _, _, e, _⟩, _⟩ := x; exact Heap.lt_size e
  | rng lo hi => obtain ⟨_, _, _, e⟩ := x; exact Heap.lt_size e
  | frz ob u => obtain ⟨e, _⟩ := x; exact Heap.lt_size e
  | tbl ps => exact Heap.lt_size (show h.get? a = some _ from x)
  | met f y => exact Heap.lt_size (show h.get? a = some _ from x)
  | ext φ => obtain ⟨_, ⟨_, e⟩, _⟩ := x; exact Heap.lt_size e
theorem Paired.mapP {α β : Type} {F G : α → β → Prop} : ∀ {l₁ : List α} {l₂ : List β}, Paired F l₁ l₂ → (∀ a b, F a b → G a b) → Paired G l₁ l₂
  | _, _, .nil, _ => .nil
  | _, _, .cons r t, f => .cons (f _ _ r) (Paired.mapP t f)
/-- what an object's description leans on: its own object, its own dict, the tuples -/
theorem ObjOk.stay (x : ObjOk P w H h a o) (k : ∀ b u, (b = a ∨ H b = some (.own a)) → h.get? b = some u → h'.get? b = some u)
    (ho : ∀ b, H b = some (.own a) → H' b = some (.own a)) (ht : ∀ b xs, H b = some (.tup xs) → H' b = some (.tup xs)) : ObjOk P w H' h' a o := by
  induction o with
  | lst xs => obtain ⟨z, its, n, r, e⟩ := x; exact ⟨z, its, n, r, k _ _ (.inl rfl) e⟩
  | tup xs => obtain ⟨z, its, r, ob, e, c⟩ := x; exact ⟨z, its, r, ob, k _ _ (.inl rfl) e, c⟩
  | dK kvs => obtain ⟨z, y, vs, r, ob, es, ep, e, c⟩ := x; exact ⟨z, y, vs, r, ob, es, ep, k _ _ (.inl rfl) e, c⟩
  | dT kvs =>
    obtain ⟨z, y, xs, r, ob, es, ep, e, c⟩ := x
    exact ⟨z, y, xs, Paired.mapP r fun p q z => ⟨z.1, ht _ _ z.2.1, z.2.2⟩, ob, es, ep, k _ _ (.inl rfl) e, c⟩
  | set S n => obtain ⟨ob, es, ep, t, e, c⟩ := x; exact ⟨ob, es, ep, t, k _ _ (.inl rfl) e, c⟩
  | ins C dx fs =>
    obtain ⟨d, z, ne, e, mA, ⟨od, es, ep, e2, c⟩, r⟩ := x
    exact ⟨ho _ d, z, ne, k _ _ (.inl rfl) e, mA, ⟨od, es, ep, k _ _ (.inr d) e2, c⟩, r⟩
  | own y => obtain ⟨ob, e⟩ := x; exact ⟨ob, k _ _ (.inl rfl) e⟩
  | xd fs => obtain ⟨mA, ⟨od, es, ep, e, c⟩, r⟩ := x; exact ⟨mA, ⟨od, es, ep, k _ _ (.inl rfl) e, c⟩, r⟩
  | rng lo hi => obtain ⟨t, u, v, e⟩ := x; exact ⟨t, u, v, k _ _ (.inl rfl) e⟩
  | frz ob u ih => obtain ⟨e, q⟩ := x; exact ⟨k _ _ (.inl rfl) e, ih q⟩
  | tbl ps =>
    have e : h.get? a = some { cls := .none, data := .fields ps } := x
    show h'.get? a = some { cls := .none, data := .fields ps }
    exact k a _ (.inl rfl) e
  | met f y =>
    have e : h.get? a = some (PySem.W.methodObj (.ref f) (.ref y)) := x
    show h'.get? a = some (PySem.W.methodObj (.ref f) (.ref y))
    exact k a _ (.inl rfl) e
  | ext φ => obtain ⟨p, ⟨o, e⟩, st⟩ := x; exact ⟨st _ _ p fun o q => k _ _ (.inl rfl) q, ⟨o, k _ _ (.inl rfl) e⟩, st⟩
theorem HOk.lt (x : HOk P w H h) (e : H a = some o) : a < h.objs.size := (x a o e).lt
theorem HOk.fresh (x : HOk P w H h) (e : h.objs.size ≤ a) : H a = none := by
  cases q : H a with
  | none => rfl
  | some u => exact absurd (Nat.lt_of_lt_of_le (x.lt q) e) (Nat.lt_irrefl _)
/-- every object of the heap is kept -/
theorem HOk.kept (x : HOk P w H h) (k : ∀ b u, h.get? b = some u → h'.get? b = some u) : HOk P w H h' := fun a o e =>
  (x a o e).stay (fun b u _ q => k b u q) (fun _ q => q) fun _ _ q => q
/-- a new object is laid and tracked -/
theorem HOk.laid (x : HOk P w H h) (k : ∀ b u, h.get? b = some u → h'.get? b = some u) (hp : h.objs.size ≤ a) (new : ObjOk P w (upd H a o) h' a o) : HOk P w (upd H a o) h' := fun b u e => by
  have hn := x.fresh hp
  by_cases hb : b = a
  · subst hb; rw [upd_same] at e; cases e; exact new
  · rw [upd_ne hb] at e
    exact (x b u e).stay (fun c v _ q => k c v q) (fun c q => by rw [upd_ne (ne_of_none q hn)]; exact q) fun c xs q => by rw [upd_ne (ne_of_none q hn)]; exact q
end

/-- what may be read as u: it is u, or a known u -/
def Rd (H : Hp) (a : Addr) (u : HO) : Prop := H a = some u ∨ ∃ o, H a = some (.frz o u)
theorem Rd.of {H : Hp} {a : Addr} {u : HO} (h : H a = some u) : Rd H a u := .inl h
theorem Rd.ok {P : Program} {w : World} {H : Hp} {h : Heap} {a : Addr} {u : HO} (r : Rd H a u) (x : HOk P w H h) : ObjOk P w H h a u := by
  rcases r with r | ⟨o, r⟩
  · exact x a u r
  · obtain ⟨_, q⟩ := x a _ r
    exact q
/-- what may be written -/
def Mut : Option HO → Prop
  | some (.lst _) => True
  | some (.dK _) => True
  | some (.dT _) => True
  | some (.set _ _) => True
  | some (.ins _ _ _) => True
  | some (.ext _) => True
  | _ => False
section
variable {P : Program} {w : World} {H : Hp} {h h' : Heap} {x e : Addr} {o' : HO}
/-- the object at e is changed: x itself, or the dict of the instance x -/
theorem HOk.write (ok : HOk P w H h) (mu : Mut (H x)) (he : e = x ∨ H e = some (.own x)) (k : ∀ b u, b ≠ e → h.get? b = some u → h'.get? b = some u) (heo : ∃ u, h'.get? e = some u)
    (new : ObjOk P w (upd H x o') h' x o') : HOk P w (upd H x o') h' := fun b u q => by
  have nown : ∀ c y, H c = some (.own y) → c ≠ x := fun c y r z => by subst z; rw [r] at mu; exact mu
  have ntup : ∀ c xs, H c = some (.tup xs) → c ≠ x := fun c xs r z => by subst z; rw [r] at mu; exact mu
  by_cases hb : b = x
  · subst hb; rw [upd_same] at q; cases q; exact new
  · rw [upd_ne hb] at q
    by_cases hbe : b = e
    · have q' : H b = some (.own x) := by
        rcases he with z | z
        · exact absurd (hbe.trans z) hb
        · rw [hbe]; exact z
      rw [q] at q'; cases q'
      obtain ⟨v, hv⟩ := heo
      exact ⟨v, by rw [hbe]; exact hv⟩
    · refine (ok b u q).stay (fun c v hc r => k c v ?_ r) (fun c r => by rw [upd_ne (nown c b r)]; exact r) fun c xs r => by rw [upd_ne (ntup c xs r)]; exact r
      rcases hc with rfl | hc
      · exact hbe
      · rintro rfl
        rcases he with z | z
        · exact nown c b hc z
        · rw [hc] at z; cases z; exact hb rfl
end

/-! ### kept unless tracked; of the frames at fs (the callers') the slots may change (an exception that passes writes there); of the records at ex (iterators) nothing is said -/
structure Un (fs ex : List Addr) (H H' : Hp) (h h' : Heap) : Prop where
  keep : ∀ b o, h.get? b = some o → H b = none → b ∉ fs → b ∉ ex → h'.get? b = some o
  slot : ∀ b o, h.get? b = some o → H b = none → b ∈ fs → b ∉ ex → ∃ sl, h'.get? b = some { o with slots := sl }
  free : ∀ b o, h.get? b = some o → H b = none → b ∉ ex → H' b = none
  there : ∀ b o, h.get? b = some o → b ∉ ex → ∃ o', h'.get? b = some o'
  tups : ∀ b xs, H b = some (.tup xs) → H' b = some (.tup xs)
  frzs : ∀ b o u, H b = some (.frz o u) → H' b = some (.frz o u)
  tbls : ∀ b ps, H b = some (.tbl ps) → ∃ more, H' b = some (.tbl (ps ++ more))
section
variable {fs fs' ex ex' : List Addr} {H H1 H2 : Hp} {h h1 h2 h' : Heap} {a x e : Addr} {o : HO}
theorem Un.any (u : Un fs ex H H1 h h1) {b : Addr} {ob : Obj} (q : h.get? b = some ob) (n : H b = none) (hx : b ∉ ex) : ∃ sl, h1.get? b = some { ob with slots := sl } := by
  by_cases hb : b ∈ fs
  · exact u.slot b ob q n hb hx
  · exact ⟨ob.slots, u.keep b ob q n hb hx⟩
theorem Un.trans (a : Un fs ex H H1 h h1) (b : Un fs ex H1 H2 h1 h2) : Un fs ex H H2 h h2 where
  keep := fun c ob q n hc hx => b.keep c ob (a.keep c ob q n hc hx) (a.free c ob q n hx) hc hx
  slot := fun c ob q n hc hx => by
    obtain ⟨sl, e1⟩ := a.slot c ob q n hc hx
    obtain ⟨sl', e2⟩ := b.slot c _ e1 (a.free c ob q n hx) hc hx
    exact ⟨sl', e2⟩
  free := fun c ob q n hx => by
    obtain ⟨o', e1⟩ := a.there c ob q hx
    exact b.free c o' e1 (a.free c ob q n hx) hx
  there := fun c ob q hx => by
    obtain ⟨o', e1⟩ := a.there c ob q hx
    exact b.there c o' e1 hx
  tups := fun c xs q => b.tups c xs (a.tups c xs q)
  frzs := fun c ob xs q => b.frzs c ob xs (a.frzs c ob xs q)
  tbls := fun c ps q => by
    obtain ⟨m1, e1⟩ := a.tbls c ps q
    obtain ⟨m2, e2⟩ := b.tbls c _ e1
    exact ⟨m1 ++ m2, by rw [e2, Array.append_assoc]⟩
theorem Un.kept (k : ∀ b u, h.get? b = some u → h'.get? b = some u) : Un fs ex H H h h' :=
  ⟨fun b ob q _ _ _ => k b ob q, fun b ob q _ _ _ => ⟨ob.slots, k b ob q⟩, fun _ _ _ n _ => n, fun b ob q _ => ⟨ob, k b ob q⟩, fun _ _ q => q, fun _ _ _ q => q, fun _ ps q => ⟨#[], by rw [q]; simp⟩⟩
theorem Un.refl : Un fs ex H H h h := Un.kept fun _ _ q => q
theorem Un.laid (k : ∀ b u, h.get? b = some u → h'.get? b = some u) (hp : h.objs.size ≤ a) (hn : H a = none) : Un fs ex H (upd H a o) h h' where
  keep := fun b u q _ _ _ => k b u q
  slot := fun b u q _ _ _ => ⟨u.slots, k b u q⟩
  free := fun b u q n _ => by rw [upd_ne (Nat.ne_of_lt (Nat.lt_of_lt_of_le (Heap.lt_size q) hp))]; exact n
  there := fun b u q _ => ⟨u, k b u q⟩
  tups := fun b xs q => by rw [upd_ne (ne_of_none q hn)]; exact q
  frzs := fun b u xs q => by rw [upd_ne (ne_of_none q hn)]; exact q
  tbls := fun b ps q => ⟨#[], by rw [upd_ne (ne_of_none q hn), q]; simp⟩
theorem Un.write (mu : Mut (H x)) (he : e = x ∨ H e = some (.own x)) (k : ∀ b u, b ≠ e → h.get? b = some u → h'.get? b = some u) (heo : ∃ u, h'.get? e = some u) : Un fs ex H (upd H x o) h h' := by
  have hx : ∀ b, H b = none → b ≠ x := fun b n z => by subst z; rw [n] at mu; exact mu
  have hb : ∀ b, H b = none → b ≠ e := fun b n z => by
    subst z
    rcases he with r | r
    · exact hx b n r
    · rw [n] at r; cases r
  have hm : ∀ b u, H b = some u → ¬ Mut (some u) → b ≠ x := fun b u q nm z => by subst z; rw [q] at mu; exact nm mu
  refine ⟨fun b u q n _ _ => k b u (hb b n) q, fun b u q n _ _ => ⟨u.slots, k b u (hb b n) q⟩, fun b u q n _ => by rw [upd_ne (hx b n)]; exact n, fun b u q _ => ?_,
    fun b xs q => by rw [upd_ne (hm b _ q fun z => z)]; exact q, fun b u xs q => by rw [upd_ne (hm b _ q fun z => z)]; exact q, fun b ps q => ⟨#[], by rw [upd_ne (hm b _ q fun z => z), q]; simp⟩⟩
  by_cases hbe : b = e
  · subst hbe; exact heo
  · exact ⟨u, k b u hbe q⟩
theorem Un.mono (u : Un fs ex H H1 h h1) (hs : ∀ b ∈ fs, b ∈ fs') (hx : ∀ b ∈ ex, b ∈ ex') : Un fs' ex' H H1 h h1 :=
  ⟨fun b ob q n hb he => u.keep b ob q n (fun z => hb (hs b z)) fun z => he (hx b z), fun _ _ q n _ he => u.any q n fun z => he (hx _ z), fun b ob q n he => u.free b ob q n fun z => he (hx b z), fun b ob q he => u.there b ob q fun z => he (hx b z), u.tups, u.frzs, u.tbls⟩
end

/-! ### the heap without what is tracked -/
def trk (h : Heap) (H : Hp) : List Addr := (List.range h.objs.size).filter fun a => (H a).isSome
def hidT (h : Heap) (H : Hp) : Heap := PySem.W.hideAll h (trk h H)
theorem hidT_size (h : Heap) (H : Hp) : (hidT h H).objs.size = h.objs.size := PySem.W.hideAll_size _ _
theorem hidT_get {h : Heap} {H : Hp} {b : Addr} {o : Obj} (e : h.get? b = some o) (n : H b = none) : (hidT h H).get? b = some o :=
  PySem.W.hideAll_get _ e fun hm => by
    have q : (H b).isSome = true := (List.mem_filter.mp hm).2
    rw [n] at q; simp at q
theorem of_hidT {h : Heap} {H : Hp} {b : Addr} {o : Obj} (e : (hidT h H).get? b = some o) : h.get? b = some o ∧ H b = none := by
  have e' : h.get? b = some o := PySem.W.of_hideAll (trk h H) e
  refine ⟨e', ?_⟩
  cases q : H b with
  | none => rfl
  | some x =>
    have hm : b ∈ trk h H := List.mem_filter.mpr ⟨List.mem_range.mpr (Heap.lt_size e'), by simp [q]⟩
    have z : (hidT h H).get? b = none := PySem.W.hideAll_none (trk h H) hm
    rw [z] at e; cases e

/-! ### OpenK's ledger, filled with every new object but one -/
def allNews (g h : Heap) (L : Addr) : List (Addr × Obj) := (List.range h.objs.size).filterMap fun a => if a = L ∨ (g.get? a).isSome = true then none else (h.get? a).map fun o => (a, o)
def rest (g h : Heap) (L d : Addr) : List (Addr × Obj) := (allNews g h L).filter fun p => decide (p.1 ≠ d)
end L2

namespace L2
open PySem PySem.Spec PyProof.Rows

/-- the module's facts, over the base: the heap at the law's entry without what is tracked there -/
structure Mod (K : PySem.W.Frag) (mg : Str → Option Value) (base : Heap) : Prop where
  kin : K.In base
  glob : base.Ns mainGlobals mg
  blt : ∃ mb, base.Ns builtinsNs mb ∧ ∀ x : Str, x ≠ "__name__" → mb x = bootBuiltins x
  nolimit : base.NoLimit

/-- the context: a def's body (or a comprehension's block) running. base: fixed through the whole law; s₀, H₀: the entry; outer: the frames whose slots others may change (a def's callers); stack: all frames that run;
   ex: iterators that were made ahead of the entry and are walked here (a comprehension's); fn: the names whose cells were made at the entry (a def: all; a comprehension's block: its own); calm: not within an except suite; pn: pins that every state bears; xe: what is wanted of an exception that leaves the code -/
structure Cx where
  prog : Program
  w : World
  K : PySem.W.Frag
  mg : Str → Option Value
  base : Heap
  A : Around
  N : List Str
  s₀ : Shared
  H₀ : Hp
  env : Env
  outer : List Env
  stack : List Env
  ex : List Addr
  fn : Str → Bool
  calm : Bool
  pn : List (Addr × Obj)
  xe : Value → Shared → Prop
/-- the callers' frames -/
def frs (l : List Env) : List Addr := l.filterMap (·.frame)
abbrev Cx.fs (X : Cx) : List Addr := frs X.outer

def Vis (sc : Scope) (x : Str) : Prop := sc.names.lookup x = some .local ∨ sc.names.lookup x = some .cell ∨ sc.names.lookup x = some .free
def Loc (sc : Scope) (x : Str) : Prop := sc.names.lookup x = some .local ∨ sc.names.lookup x = some .cell
def Look (env : Env) (h : Heap) (m : Str → Option Value) (x : Str) (u : Value) : Prop :=
  (env.kindOf x = some .local ∧ m x = some u) ∨ ((env.kindOf x = some .cell ∨ env.kindOf x = some .free) ∧ ∃ c, env.cells.lookup x = some c ∧ h.IsCell c (some u))

structure Cx.Ok (X : Cx) : Prop where
  mod : Mod X.K X.mg X.base
  kind : X.env.scope.kind = .function
  glob : X.env.globals = mainGlobals
  blt : X.env.builtins = builtinsNs
  above : X.s₀.heap.objs.size ≤ X.env.locals
  inj : ∀ x y c, X.env.cells.lookup x = some c → X.env.cells.lookup y = some c → x = y
  has : ∀ x, (X.env.kindOf x = some .cell ∨ X.env.kindOf x = some .free) → ∃ c, X.env.cells.lookup x = some c
  cab : ∀ x c, X.fn x = true → X.env.cells.lookup x = some c → X.s₀.heap.objs.size ≤ c
  hd : X.calm = true → X.A.handled = none
  frames : X.A.frames = some X.stack
  stk : X.stack = X.outer ∨ (X.stack = X.env :: X.outer ∧ X.env.frame = some X.env.locals)
  exf : ∀ b ∈ X.ex, b ≠ X.env.locals ∧ ∀ x c, X.env.cells.lookup x = some c → c ≠ b
  bs : ∀ b o, X.base.get? b = some o → X.s₀.heap.get? b = some o ∧ X.H₀ b = none
  bsz : X.base.objs.size ≤ X.s₀.heap.objs.size
  noex : ∀ b o, X.base.get? b = some o → b ∉ X.ex
  exfs : ∀ b ∈ X.ex, b ∉ X.fs
  funs : X.s₀.heap.FunFrames X.base X.outer
  frf : ∀ b ∈ X.fs, X.H₀ b = none

structure Inv (X : Cx) (pins : List (Addr × Obj)) (σ : List (Option V)) (H : Hp) (s : Shared) : Prop where
  ok : X.Ok
  os : s.os = X.s₀.os
  bare : AllBare s.gens
  base : Un X.fs X.ex X.H₀ H X.s₀.heap s.heap
  loc : ∃ m, s.heap.Ns X.env.locals m ∧ ∀ (i : Nat) (x : Str) (v : V), X.N[i]? = some x → σ[i]? = some (some v) → Vis X.env.scope x → ∃ u, RelV v u ∧ Look X.env s.heap m x u
  cell : ∀ x c, X.env.cells.lookup x = some c → ∃ v, s.heap.IsCell c v
  free : H X.env.locals = none
  freeC : ∀ x c, X.env.cells.lookup x = some c → H c = none
  pin : ∀ p ∈ X.pn ++ pins, s.heap.get? p.1 = some p.2 ∧ H p.1 = none ∧ p.1 ≠ X.env.locals ∧ p.1 ∉ X.fs ∧ ∀ v, p.2.data ≠ .cell v
  hok : HOk X.prog X.w H s.heap
  len : σ.length = X.N.length

section
variable {X : Cx} {pins : List (Addr × Obj)} {σ : List (Option V)} {H H' : Hp} {s : Shared} {h' : Heap}

theorem Cx.Ok.nofr (ok : X.Ok) {b : Addr} {o : Obj} (e : X.base.get? b = some o) : b ∉ X.fs := fun hb => by
  have := (ok.funs.mem hb).1
  rw [e] at this; cases this
theorem Inv.bs (I : Inv X pins σ H s) : ∀ b o, X.base.get? b = some o → s.heap.get? b = some o ∧ H b = none := fun b o e =>
  ⟨I.base.keep b o (I.ok.bs b o e).1 (I.ok.bs b o e).2 (I.ok.nofr e) (I.ok.noex b o e), I.base.free b o (I.ok.bs b o e).1 (I.ok.bs b o e).2 (I.ok.noex b o e)⟩
theorem Inv.bk (I : Inv X pins σ H s) : ∀ b o, X.base.get? b = some o → s.heap.get? b = some o := fun b o e => (I.bs b o e).1
theorem Inv.mod (I : Inv X pins σ H s) : Mod X.K X.mg X.base := I.ok.mod
theorem Inv.kIn (I : Inv X pins σ H s) : X.K.In s.heap := I.ok.mod.kin.keeps I.bk
theorem Inv.nolimit (I : Inv X pins σ H s) : s.heap.NoLimit := I.ok.mod.nolimit.keeps I.bk
/-- the frame over the base: for OpenK's rules (K.In X.base is I.mod.kin) -/
theorem Inv.fr (I : Inv X pins σ H s) : ∃ m, Fr X.base X.env.locals s.heap m :=
  let ⟨m, hn, _⟩ := I.loc
  ⟨m, hn, I.bk, Nat.le_trans I.ok.bsz I.ok.above⟩
theorem Inv.lt (I : Inv X pins σ H s) : X.env.locals < s.heap.objs.size := let ⟨_, hn, _⟩ := I.loc; hn.lt
theorem Inv.sz (I : Inv X pins σ H s) : X.s₀.heap.objs.size ≤ s.heap.objs.size := Nat.le_trans I.ok.above (Nat.le_of_lt I.lt)
theorem Inv.nofs (I : Inv X pins σ H s) {a : Addr} (h : s.heap.objs.size ≤ a) : a ∉ X.fs := fun hb => by
  obtain ⟨_, o, ho, _⟩ := I.ok.funs.mem hb
  exact absurd (Nat.lt_of_lt_of_le (Heap.lt_size ho) (Nat.le_trans I.sz h)) (Nat.lt_irrefl _)
theorem Inv.cne (I : Inv X pins σ H s) : ∀ x c, X.env.cells.lookup x = some c → c ≠ X.env.locals := fun x c e z => by
  obtain ⟨v, o, ho, hd⟩ := I.cell x c e
  obtain ⟨m, ⟨o', es, ep, ho', hd', _⟩, _⟩ := I.loc
  rw [z, ho'] at ho; cases ho; rw [hd'] at hd; cases hd
theorem Inv.funs (I : Inv X pins σ H s) : s.heap.FunFrames X.base X.outer := by
  have all : ∀ (l : List Env), (∀ b ∈ frs l, b ∈ X.fs) → X.s₀.heap.FunFrames X.base l → s.heap.FunFrames X.base l := by
    intro l
    induction l with
    | nil => intro _ _; trivial
    | cons env r ih =>
      intro hs hl
      obtain ⟨hk, ⟨L, o, hf, hn, ho, hd⟩, hr⟩ := hl
      have hL : L ∈ X.fs := hs L (by unfold frs; rw [List.filterMap_cons, hf]; exact List.mem_cons_self)
      obtain ⟨sl, e⟩ := I.base.slot L o ho (I.ok.frf L hL) hL fun z => I.ok.exfs L z hL
      exact ⟨hk, ⟨L, _, hf, hn, e, hd⟩, ih (fun b hb => hs b (by unfold frs; rw [List.filterMap_cons, hf]; exact List.mem_cons_of_mem _ hb)) hr⟩
  exact all X.outer (fun _ hb => hb) I.ok.funs

/-- the frames that run, for a call -/
theorem Inv.stack (I : Inv X pins σ H s) : s.heap.FunFrames X.base X.stack := by
  rcases I.ok.stk with e | ⟨e, hf⟩
  · rw [e]; exact I.funs
  · rw [e]
    obtain ⟨m, hn, _⟩ := I.loc
    refine .cons (by rw [I.ok.kind]; decide) hf hn ?_ I.funs
    exact Heap.get?_none_of_le (Nat.le_trans I.ok.bsz I.ok.above)
theorem Inv.stkSub (I : Inv X pins σ H s) : ∀ b ∈ frs X.stack, b ∈ X.env.locals :: X.fs := fun b hb => by
  rcases I.ok.stk with e | ⟨e, hf⟩
  · rw [e] at hb; exact List.mem_cons_of_mem _ hb
  · rw [e] at hb
    unfold frs at hb
    rw [List.filterMap_cons, hf] at hb
    exact hb
theorem Inv.stkFree (I : Inv X pins σ H s) : ∀ b ∈ frs X.stack, H b = none := fun b hb => by
  rcases List.mem_cons.mp (I.stkSub b hb) with e | hb
  · rw [e]; exact I.free
  · obtain ⟨_, o, ho, _⟩ := I.ok.funs.mem hb
    exact I.base.free b o ho (I.ok.frf b hb) fun z => I.ok.exfs b z hb

/-- THE STEP: the untracked objects but the frame and the records at ch are kept (the callers' frames up to slots), the frame's map is kept, the new abstract heap is held -/
theorem Inv.step {g' : Array GenState} {t' : Nat} {d' : Drawn} {ch : List Addr} (I : Inv X pins σ H s)
    (hch : ∀ b ∈ ch, (b ∈ X.ex ∨ X.s₀.heap.objs.size ≤ b) ∧ b ≠ X.env.locals ∧ (∀ x c, X.env.cells.lookup x = some c → c ≠ b) ∧ ∀ p ∈ X.pn ++ pins, p.1 ≠ b)
    (keep : ∀ b o, b ≠ X.env.locals → b ∉ X.fs → b ∉ ch → s.heap.get? b = some o → H b = none → h'.get? b = some o)
    (slot : ∀ b o, b ≠ X.env.locals → b ∈ X.fs → b ∉ ch → s.heap.get? b = some o → H b = none → ∃ sl, h'.get? b = some { o with slots := sl }) (free : ∀ b o, b ∉ ch → s.heap.get? b = some o → H b = none → H' b = none)
    (there : ∀ b o, b ∉ ch → s.heap.get? b = some o → ∃ o', h'.get? b = some o')
    (tups : ∀ b xs, H b = some (.tup xs) → H' b = some (.tup xs)) (frzs : ∀ b o u, H b = some (.frz o u) → H' b = some (.frz o u)) (tbls : ∀ b ps, H b = some (.tbl ps) → ∃ more, H' b = some (.tbl (ps ++ more)))
    (ns : ∀ m, s.heap.Ns X.env.locals m → h'.Ns X.env.locals m) (hok : HOk X.prog X.w H' h') (hg : AllBare g') :
    Inv X pins σ H' { s with heap := h', gens := g', drawn := d', toks := t' } := by
  have neL : ∀ b o, X.s₀.heap.get? b = some o → b ≠ X.env.locals := fun b o e => Nat.ne_of_lt (Nat.lt_of_lt_of_le (Heap.lt_size e) I.ok.above)
  have neC : ∀ b o, X.s₀.heap.get? b = some o → b ∉ X.ex → b ∉ ch := fun b o e hx hb => by
    rcases (hch b hb).1 with z | z
    · exact hx z
    · exact absurd (Nat.lt_of_lt_of_le (Heap.lt_size e) z) (Nat.lt_irrefl _)
  have cellK : ∀ x c, X.env.cells.lookup x = some c → ∀ v, s.heap.IsCell c v → h'.IsCell c v := fun x c e v ⟨o, ho, hd⟩ => by
    have nch : c ∉ ch := fun z => (hch c z).2.2.1 x c e rfl
    by_cases hc : c ∈ X.fs
    · obtain ⟨sl, q⟩ := slot c o (I.cne x c e) hc nch ho (I.freeC x c e)
      exact ⟨_, q, hd⟩
    · exact ⟨o, keep c o (I.cne x c e) hc nch ho (I.freeC x c e), hd⟩
  refine ⟨I.ok, I.os, hg, ⟨fun b o e n hb hx => ?_, fun b o e n hb hx => ?_, fun b o e n hx => ?_, fun b o e hx => ?_, fun b xs e => tups b xs (I.base.tups b xs e), fun b o xs e => frzs b o xs (I.base.frzs b o xs e), fun b ps e => ?_⟩, ?_, fun x c e => ?_, ?_, fun x c e => ?_, fun p hp => ?_, hok, I.len⟩
  · exact keep b o (neL b o e) hb (neC b o e hx) (I.base.keep b o e n hb hx) (I.base.free b o e n hx)
  · obtain ⟨sl, e1⟩ := I.base.slot b o e n hb hx
    obtain ⟨sl', e2⟩ := slot b _ (neL b o e) hb (neC b o e hx) e1 (I.base.free b o e n hx)
    exact ⟨sl', e2⟩
  · obtain ⟨o', e1⟩ := I.base.there b o e hx
    exact free b o' (neC b o e hx) e1 (I.base.free b o e n hx)
  · obtain ⟨o', e1⟩ := I.base.there b o e hx
    exact there b o' (neC b o e hx) e1
  · obtain ⟨m1, e1⟩ := I.base.tbls b ps e
    obtain ⟨m2, e2⟩ := tbls b _ e1
    exact ⟨m1 ++ m2, by rw [e2, Array.append_assoc]⟩
  · obtain ⟨m, hn, hl⟩ := I.loc
    refine ⟨m, ns m hn, fun i x v e1 e2 e3 => ?_⟩
    obtain ⟨u, r, l⟩ := hl i x v e1 e2 e3
    refine ⟨u, r, ?_⟩
    rcases l with l | ⟨k, c, e, z⟩
    · exact .inl l
    · exact .inr ⟨k, c, e, cellK x c e _ z⟩
  · obtain ⟨v, z⟩ := I.cell x c e
    exact ⟨v, cellK x c e v z⟩
  · obtain ⟨m, ⟨o, _, _, ho, _⟩, _⟩ := I.loc
    exact free _ o (fun z => (hch _ z).2.1 rfl) ho I.free
  · obtain ⟨v, o, ho, hd⟩ := I.cell x c e
    exact free c o (fun z => (hch c z).2.2.1 x c e rfl) ho (I.freeC x c e)
  · obtain ⟨e, n, ne, nf, d⟩ := I.pin p hp
    have nch : p.1 ∉ ch := fun z => (hch p.1 z).2.2.2 p hp rfl
    exact ⟨keep p.1 p.2 ne nf nch e n, free p.1 p.2 nch e n, ne, nf, d⟩
/-- .. where the frame's own object is kept too -/
theorem Inv.un {t' : Nat} (I : Inv X pins σ H s) (u : Un X.fs [] H H' s.heap h') (hok : HOk X.prog X.w H' h') : Inv X pins σ H' { s with heap := h', toks := t' } := by
  obtain ⟨m, ⟨o, es, ep, ho, r⟩, _⟩ := id I.loc
  obtain ⟨sl, hL⟩ := u.any ho I.free (by simp)
  exact I.step (g' := s.gens) (d' := s.drawn) (ch := []) (fun _ z => nomatch z) (fun b o _ hb _ e n => u.keep b o e n hb (by simp)) (fun b o _ hb _ e n => u.slot b o e n hb (by simp)) (fun b o _ e n => u.free b o e n (by simp)) (fun b o _ e => u.there b o e (by simp)) u.tups u.frzs u.tbls (fun m' hm => by
    obtain ⟨o', es', ep', ho', r'⟩ := hm
    rw [ho] at ho'; cases ho'
    exact ⟨_, es', ep', hL, r'⟩) hok I.bare
/-- behind a call (or a comprehension's block): the slots of this frame may have changed too, the records at ch may have turned -/
theorem Inv.call {g' : Array GenState} {t' : Nat} {d' : Drawn} {ch : List Addr} (I : Inv X pins σ H s) (u : Un (frs X.stack) ch H H' s.heap h') (hok : HOk X.prog X.w H' h') (hg : AllBare g')
    (hch : ∀ b ∈ ch, (b ∈ X.ex ∨ X.s₀.heap.objs.size ≤ b) ∧ b ≠ X.env.locals ∧ (∀ x c, X.env.cells.lookup x = some c → c ≠ b) ∧ ∀ p ∈ X.pn ++ pins, p.1 ≠ b) :
    Inv X pins σ H' { s with heap := h', gens := g', drawn := d', toks := t' } := by
  obtain ⟨m, ⟨o, es, ep, ho, r⟩, _⟩ := id I.loc
  obtain ⟨sl, hL⟩ := u.any ho I.free fun z => (hch _ z).2.1 rfl
  exact I.step (ch := ch) hch (fun b o hL hb hc e n => u.keep b o e n (fun z => (List.mem_cons.mp (I.stkSub b z)).elim hL hb) hc) (fun b o _ _ hc e n => u.any e n hc) (fun b o hc e n => u.free b o e n hc) (fun b o hc e => u.there b o e hc) u.tups u.frzs u.tbls (fun m' hm => by
    obtain ⟨o', es', ep', ho', r'⟩ := hm
    rw [ho] at ho'; cases ho'
    exact ⟨_, es', ep', hL, r'⟩) hok hg
/-- an untracked record of ours (an iterator) has turned -/
theorem Inv.turned {t' : Nat} {it : Addr} (I : Inv X pins σ H s) (k : ∀ b o, b ≠ it → s.heap.get? b = some o → h'.get? b = some o) (hn : H it = none) (hL : it ≠ X.env.locals)
    (h1 : it ∈ X.ex ∨ X.s₀.heap.objs.size ≤ it) (h2 : ∀ x c, X.env.cells.lookup x = some c → c ≠ it) (h3 : ∀ p ∈ X.pn ++ pins, p.1 ≠ it) : Inv X pins σ H { s with heap := h', toks := t' } := by
  have nit : ∀ b u, H b = some u → b ≠ it := fun b u e z => by rw [z, hn] at e; cases e
  refine I.step (g' := s.gens) (d' := s.drawn) (ch := [it]) (fun b hb => ?_) (fun b o _ _ hc e _ => k b o (fun z => hc (by simp [z])) e) (fun b o _ _ hc e _ => ⟨o.slots, k b o (fun z => hc (by simp [z])) e⟩) (fun _ _ _ _ n => n)
    (fun b o hc e => ⟨o, k b o (fun z => hc (by simp [z])) e⟩) (fun _ _ e => e) (fun _ _ _ e => e) (fun b ps e => ⟨#[], by rw [e]; simp⟩) (fun m hm => ?_) (fun b u e => ?_) I.bare
  · have e : b = it := by simpa using hb
    subst e
    exact ⟨h1, hL, h2, h3⟩
  · obtain ⟨o, es, ep, ho, r⟩ := hm
    exact ⟨o, es, ep, k _ o (Ne.symm hL) ho, r⟩
  · refine (I.hok b u e).stay (fun c v hc q => k c v ?_ q) (fun _ q => q) fun _ _ q => q
    rcases hc with z | z
    · rw [z]; exact nit b u e
    · exact nit c _ z
theorem Inv.tok (I : Inv X pins σ H s) (t : Nat) : Inv X pins σ H { s with toks := t } := I.un (h' := s.heap) (t' := t) Un.refl I.hok
/-- all objects kept -/
theorem Inv.kept {t' : Nat} (I : Inv X pins σ H s) (k : ∀ b u, s.heap.get? b = some u → h'.get? b = some u) : Inv X pins σ H { s with heap := h', toks := t' } := I.un (Un.kept k) (I.hok.kept k)
/-- a new object laid and tracked -/
theorem Inv.laid {a : Addr} {o : HO} {t' : Nat} (I : Inv X pins σ H s) (k : ∀ b u, s.heap.get? b = some u → h'.get? b = some u) (hp : s.heap.objs.size ≤ a) (new : ObjOk X.prog X.w (upd H a o) h' a o) :
    Inv X pins σ (upd H a o) { s with heap := h', toks := t' } := I.un (Un.laid k hp (I.hok.fresh hp)) (I.hok.laid k hp new)
/-- an object written -/
theorem Inv.write {x e : Addr} {o : HO} {t' : Nat} (I : Inv X pins σ H s) (mu : Mut (H x)) (he : e = x ∨ H e = some (.own x)) (k : ∀ b u, b ≠ e → s.heap.get? b = some u → h'.get? b = some u) (heo : ∃ u, h'.get? e = some u)
    (new : ObjOk X.prog X.w (upd H x o) h' x o) : Inv X pins σ (upd H x o) { s with heap := h', toks := t' } := I.un (Un.write mu he k heo) (I.hok.write mu he k heo new)
theorem Inv.pins_of {pins' : List (Addr × Obj)} (I : Inv X pins σ H s) (h : ∀ p ∈ pins', s.heap.get? p.1 = some p.2 ∧ H p.1 = none ∧ p.1 ≠ X.env.locals ∧ p.1 ∉ X.fs ∧ ∀ v, p.2.data ≠ .cell v) : Inv X pins' σ H s :=
  ⟨I.ok, I.os, I.bare, I.base, I.loc, I.cell, I.free, I.freeC, fun p hp => (List.mem_append.mp hp).elim (fun z => I.pin p (List.mem_append_left _ z)) (h p), I.hok, I.len⟩

theorem nodup_ix {N : List Str} (hN : N.Nodup) {i j : Nat} {x : Str} (a : N[i]? = some x) (b : N[j]? = some x) : i = j := by
  obtain ⟨h1, e1⟩ := List.getElem?_eq_some_iff.mp a
  obtain ⟨h2, e2⟩ := List.getElem?_eq_some_iff.mp b
  exact (List.getElem_inj hN).mp (e1.trans e2.symm)

/-- a name is stored; what changed -/
theorem store_ok2 {M : Model} {A : Around} {E : Value → Shared → Prop} {i : Nat} {x : Str} {v : V} {u : Value} {Q : Unit → Shared → Prop} (I : Inv X pins σ H s) (hN : X.N.Nodup) (hi : X.N[i]? = some x) (hx : Loc X.env.scope x) (r : RelV v u)
    (h : ∀ s', Inv X pins (σ.set i (some v)) H s' → (∃ a, Heap.SameBut a s.heap s'.heap ∧ (a = X.env.locals ∨ X.env.cells.lookup x = some a)) → Q () s') (hf : X.fn x = true ∨ X.env.scope.names.lookup x = some .local := by first | exact .inl rfl | exact .inr rfl | assumption) : wpAny M A (storeName X.env x u) Q E s := by
  obtain ⟨m, hn, hl⟩ := id I.loc
  have hcls : (X.env.scope.kind == .class || (X.env.scope.kind == .module && X.env.locals != X.env.globals)) = false := by rw [I.ok.kind]; rfl
  have hiσ : i < σ.length := by rw [I.len]; exact (List.getElem?_eq_some_iff.mp hi).1
  have cne := I.cne
  have tracked : ∀ {a : Addr} {h' : Heap}, (∃ o, s.heap.get? a = some o ∧ H a = none) → Heap.SameBut a s.heap h' → HOk X.prog X.w H h' := fun {a h'} ha hs b ob e => by
    obtain ⟨_, _, hfree⟩ := ha
    refine (I.hok b ob e).stay (fun c w' hc q => (hs.2 c ?_).trans q) (fun _ q => q) fun _ _ q => q
    rintro rfl
    rcases hc with rfl | hc
    · rw [hfree] at e; cases e
    · rw [hfree] at hc; cases hc
  rcases hx with hk | hk
  · refine wpAny_storeName_local hk hn (fun h' hn' hs => ?_) hcls
    obtain ⟨oL, _, _, hoL, _⟩ := id hn
    refine h _ ⟨I.ok, I.os, I.bare, ⟨fun b o e n hb hx => ?_, fun b o e n hb hx => ?_, I.base.free, fun b o e hx => ?_, I.base.tups, I.base.frzs, I.base.tbls⟩, ⟨_, hn', fun j y v' e1 e2 e3 => ?_⟩, fun y c e => ?_, I.free, I.freeC, fun p hp => ?_, tracked ⟨oL, hoL, I.free⟩ hs, by simpa using I.len⟩ ⟨_, hs, .inl rfl⟩
    · exact (hs.2 b (Nat.ne_of_lt (Nat.lt_of_lt_of_le (Heap.lt_size e) I.ok.above))).trans (I.base.keep b o e n hb hx)
    · obtain ⟨sl, e1⟩ := I.base.slot b o e n hb hx
      exact ⟨sl, (hs.2 b (Nat.ne_of_lt (Nat.lt_of_lt_of_le (Heap.lt_size e) I.ok.above))).trans e1⟩
    · obtain ⟨o', e1⟩ := I.base.there b o e hx
      exact ⟨o', (hs.2 b (Nat.ne_of_lt (Nat.lt_of_lt_of_le (Heap.lt_size e) I.ok.above))).trans e1⟩
    · by_cases hj : j = i
      · subst hj
        rw [hi] at e1; cases e1
        rw [List.getElem?_set_self hiσ] at e2
        cases e2
        exact ⟨u, r, .inl ⟨hk, by simp⟩⟩
      · rw [List.getElem?_set_ne (Ne.symm hj)] at e2
        obtain ⟨u', r', q⟩ := hl j y v' e1 e2 e3
        refine ⟨u', r', ?_⟩
        rcases q with ⟨k, e⟩ | ⟨k, c, e, z⟩
        · refine .inl ⟨k, ?_⟩
          have : y ≠ x := fun e => hj (nodup_ix hN e1 (e ▸ hi))
          simp [this, e]
        · exact .inr ⟨k, c, e, z.sameBut hs (cne y c e)⟩
    · obtain ⟨w', z⟩ := I.cell y c e
      exact ⟨w', z.sameBut hs (cne y c e)⟩
    · obtain ⟨e, n, ne, nf, d⟩ := I.pin p hp
      exact ⟨(hs.2 p.1 ne).trans e, n, ne, nf, d⟩
  · have hfn : X.fn x = true := by
      rcases hf with z | z
      · exact z
      · rw [z] at hk; cases hk
    obtain ⟨c, hc⟩ := I.ok.has x (.inl hk)
    obtain ⟨w', z⟩ := I.cell x c hc
    refine wpAny_storeName_cell I.ok.kind hk hc z (fun h' hc' hs => ?_)
    obtain ⟨oc, hoc, hocd⟩ := id z
    refine h { s with heap := h' } ⟨I.ok, I.os, I.bare, ⟨fun b o e n hb hx => ?_, fun b o e n hb hx => ?_, I.base.free, fun b o e hx => ?_, I.base.tups, I.base.frzs, I.base.tbls⟩, ⟨m, hn.sameBut hs (Ne.symm (cne x c hc)), fun j y v' e1 e2 e3 => ?_⟩, fun y c' e => ?_, I.free, I.freeC, fun p hp => ?_, tracked ⟨oc, hoc, I.freeC x c hc⟩ hs, by simpa using I.len⟩ ⟨c, hs, .inr hc⟩
    · exact (hs.2 b (Nat.ne_of_lt (Nat.lt_of_lt_of_le (Heap.lt_size e) (I.ok.cab x c hfn hc)))).trans (I.base.keep b o e n hb hx)
    · obtain ⟨sl, e1⟩ := I.base.slot b o e n hb hx
      exact ⟨sl, (hs.2 b (Nat.ne_of_lt (Nat.lt_of_lt_of_le (Heap.lt_size e) (I.ok.cab x c hfn hc)))).trans e1⟩
    · obtain ⟨o', e1⟩ := I.base.there b o e hx
      exact ⟨o', (hs.2 b (Nat.ne_of_lt (Nat.lt_of_lt_of_le (Heap.lt_size e) (I.ok.cab x c hfn hc)))).trans e1⟩
    · by_cases hj : j = i
      · subst hj
        rw [hi] at e1; cases e1
        rw [List.getElem?_set_self hiσ] at e2
        cases e2
        exact ⟨u, r, .inr ⟨.inl hk, c, hc, hc'⟩⟩
      · rw [List.getElem?_set_ne (Ne.symm hj)] at e2
        obtain ⟨u', r', q⟩ := hl j y v' e1 e2 e3
        refine ⟨u', r', ?_⟩
        rcases q with q | ⟨k, c', e, z'⟩
        · exact .inl q
        · refine .inr ⟨k, c', e, z'.sameBut hs ?_⟩
          rintro rfl
          exact hj (nodup_ix hN e1 (I.ok.inj _ _ _ e hc ▸ hi))
    · by_cases hcc : c' = c
      · subst hcc; exact ⟨_, hc'⟩
      · obtain ⟨w2, z2⟩ := I.cell y c' e
        exact ⟨w2, z2.sameBut hs hcc⟩
    · obtain ⟨e, n, ne, nf, d⟩ := I.pin p hp
      refine ⟨(hs.2 p.1 ?_).trans e, n, ne, nf, d⟩
      intro q
      rw [q, hoc] at e
      have q' : oc = p.2 := Option.some.inj e
      exact d w' (by rw [← q']; exact hocd)
theorem store_ok {M : Model} {A : Around} {E : Value → Shared → Prop} {i : Nat} {x : Str} {v : V} {u : Value} {Q : Unit → Shared → Prop} (I : Inv X pins σ H s) (hN : X.N.Nodup) (hi : X.N[i]? = some x) (hx : Loc X.env.scope x) (r : RelV v u)
    (h : ∀ s', Inv X pins (σ.set i (some v)) H s' → Q () s') (hf : X.fn x = true ∨ X.env.scope.names.lookup x = some .local := by first | exact .inl rfl | exact .inr rfl | assumption) : wpAny M A (storeName X.env x u) Q E s :=
  store_ok2 I hN hi hx r (fun s' I' _ => h s' I') hf
/-- behind a call or a block, the state as it is -/
theorem Inv.call' {s' : Shared} {ch : List Addr} (I : Inv X pins σ H s) (ho : s'.os = s.os) (u : Un (frs X.stack) ch H H' s.heap s'.heap) (hok : HOk X.prog X.w H' s'.heap) (hg : AllBare s'.gens)
    (hch : ∀ b ∈ ch, (b ∈ X.ex ∨ X.s₀.heap.objs.size ≤ b) ∧ b ≠ X.env.locals ∧ (∀ x c, X.env.cells.lookup x = some c → c ≠ b) ∧ ∀ p ∈ X.pn ++ pins, p.1 ≠ b) : Inv X pins σ H' s' := by
  obtain ⟨h', g', d', t', o'⟩ := s'
  have e : o' = s.os := ho
  subst e
  exact I.call (g' := g') (t' := t') (d' := d') u hok hg hch
end

/-! ### the judgements -/
/-- an exception: its class, its own dict's address (where it has one), the abstract heap behind it -/
abbrev XK := Value → Option Addr → Hp → Prop
abbrev St := List (Option V)
abbrev VK := V → Hp → Prop
/-- an expression's reading; a test's; an argument list's -/
abbrev TE := St → Hp → VK → Prop
abbrev TT := St → Hp → (Bool → Hp → Prop) → Prop
abbrev TA := St → Hp → (List V → Hp → Prop) → Prop
/-- what is wanted behind a statement -/
structure Ends where
  nx : St → Hp → Prop
  rt : VK
  bk : St → Hp → Prop := fun _ _ => False
  ct : St → Hp → Prop := fun _ _ => False
abbrev TS := Ends → St → Hp → Prop

def EP (X : Cx) (pins : List (Addr × Obj)) (σ : St) (Q : VK) (u : Value) (s' : Shared) : Prop := ∃ v H', Inv X pins σ H' s' ∧ RelV v u ∧ Q v H'
def TP (X : Cx) (pins : List (Addr × Obj)) (σ : St) (Q : Bool → Hp → Prop) (b : Bool) (s' : Shared) : Prop := ∃ H', Inv X pins σ H' s' ∧ Q b H'
def AP (X : Cx) (pins : List (Addr × Obj)) (σ : St) (Q : List V → Hp → Prop) (us : List Value) (s' : Shared) : Prop := ∃ vs H', Inv X pins σ H' s' ∧ Vals vs us ∧ Q vs H'
def SP (X : Cx) (pins : List (Addr × Obj)) (D : Ends) (f : Flow) (s' : Shared) : Prop :=
  match f with
  | .next => ∃ σ' H', Inv X pins σ' H' s' ∧ D.nx σ' H'
  | .brk => ∃ σ' H', Inv X pins σ' H' s' ∧ D.bk σ' H'
  | .cont => ∃ σ' H', Inv X pins σ' H' s' ∧ D.ct σ' H'
  | .ret u => ∃ v σ' H', Inv X pins σ' H' s' ∧ RelV v u ∧ D.rt v H'

def PE (X : Cx) (e : Expr) (t : TE) : Prop :=
  ∀ (pins : List (Addr × Obj)) (s : Shared) (σ : St) (H : Hp) (Q : VK), Inv X pins σ H s → t σ H Q → wpAny (model X.prog X.w) X.A (eval e X.env) (EP X pins σ Q) X.xe s
def PT (X : Cx) (e : Expr) (t : TT) : Prop :=
  ∀ (pins : List (Addr × Obj)) (s : Shared) (σ : St) (H : Hp) (Q : Bool → Hp → Prop), Inv X pins σ H s → t σ H Q → wpAny (model X.prog X.w) X.A (isTrue e X.env (eval e X.env)) (TP X pins σ Q) X.xe s
/-- a test whatever its 'whole' is (and, or) -/
def PW (X : Cx) (e : Expr) (t : TT) : Prop :=
  ∀ (whole : Sem Value) (pins : List (Addr × Obj)) (s : Shared) (σ : St) (H : Hp) (Q : Bool → Hp → Prop), Inv X pins σ H s → t σ H Q → wpAny (model X.prog X.w) X.A (isTrue e X.env whole) (TP X pins σ Q) X.xe s
theorem PW.pt {X : Cx} {e : Expr} {t : TT} (h : PW X e t) : PT X e t := h _
/-- an argument list (no star), from the left -/
def PA (X : Cx) (es : List Expr) (t : TA) : Prop :=
  ∀ (pos : Pos) (pins : List (Addr × Obj)) (s : Shared) (σ : St) (H : Hp) (Q : List V → Hp → Prop), Inv X pins σ H s → t σ H Q → wpAny (model X.prog X.w) X.A (spliced (backTo pos (starEach es X.env))) (AP X pins σ Q) X.xe s
def PS (X : Cx) (st : Stmt) (t : TS) : Prop :=
  ∀ (pins : List (Addr × Obj)) (s : Shared) (σ : St) (H : Hp) (D : Ends), Inv X pins σ H s → t D σ H → wpAny (model X.prog X.w) X.A (exec st X.env) (SP X pins D) X.xe s
def PSs (X : Cx) (st : List Stmt) (t : TS) : Prop :=
  ∀ (pins : List (Addr × Obj)) (s : Shared) (σ : St) (H : Hp) (D : Ends), Inv X pins σ H s → t D σ H → wpAny (model X.prog X.w) X.A (execs st X.env) (SP X pins D) X.xe s
/-- weaken the end -/
theorem thn {α : Type} {t : Sem α} {Q Q' : α → Shared → Prop} {M : Model} {A : Around} {E : Value → Shared → Prop} {s : Shared} (h : wpAny M A t Q E s) (hQ : ∀ a s, Q a s → Q' a s) : wpAny M A t Q' E s := wpAny_mono h hQ fun _ _ x => x
end L2

namespace L2
open PySem PySem.Spec PyProof.Rows
section
variable {X : Cx}


/-! ### names and constants -/
def tVar (i : Nat) : TE := fun σ H Q => ∃ v, σ[i]? = some (some v) ∧ Q v H
def tC (v : V) : TE := fun _ H Q => Q v H
theorem pe_var {i : Nat} {x : Str} {pos : Pos} (hN : X.N[i]? = some x) (hv : Vis X.env.scope x) (hd : (x == ("__debug__" : Str)) = false := by decide) (hcd : (x == ("__classdict__" : Str)) = false := by decide) : PE X (.Name x pos) (tVar i) := by
  intro pins s σ H Q I h
  obtain ⟨v, e, h⟩ := h
  obtain ⟨m, hn, hl⟩ := I.loc
  obtain ⟨u, r, l⟩ := hl i x v hN e hv
  have fin : EP X pins σ Q u s := ⟨v, H, I, r, h⟩
  rcases l with ⟨hk, hm⟩ | ⟨hk, c, hc, hcell⟩
  · exact wpAny_Name (wpAny_loadName_local I.ok.kind hk hn hm fin) hd
  · rcases hk with hk | hk
    · exact wpAny_Name (wpAny_loadName_cell I.ok.kind hk hc hcell fin) hd
    · exact wpAny_Name (wpAny_loadName_free I.ok.kind hk hc hcell fin hcd) hd
theorem pe_int {i j pos} : PE X (.Constant (.int i) j pos) (tC (.int i)) := fun _ _ _ H _ I h => wpAny_Constant_int ⟨.int i, H, I.tok _, ⟨_, rfl⟩, h⟩
theorem pe_bl {b j pos} : PE X (.Constant (.bool b) j pos) (tC (.bl b)) := fun _ _ _ H _ I h => Constant_bool ⟨.bl b, H, I, rfl, h⟩
theorem pe_non {j pos} : PE X (.Constant .none j pos) (tC .non) := fun _ _ _ H _ I h => Constant_none ⟨.non, H, I, rfl, h⟩

/-- a global name of the def -/
def Gl (X : Cx) (x : Str) : Prop := X.env.kindOf x = some .globalImplicit
theorem ld_glob {E : Value → Shared → Prop} {pins : List (Addr × Obj)} {s : Shared} {σ : St} {H : Hp} {x : Str} {u : Value} {pos : Pos} {Q : Value → Shared → Prop} (I : Inv X pins σ H s) (hg : Gl X x) (hm : X.mg x = some u) (h : Q u s)
    (hd : (x == ("__debug__" : Str)) = false := by decide) : wpAny (model X.prog X.w) X.A (eval (.Name x pos) X.env) Q E s :=
  Calls.Name_function_global I.ok.kind hg (Calls.loadGlobal_global (by rw [I.ok.glob]; exact I.mod.glob.keeps I.bk) hm h) hd
theorem ld_blt {E : Value → Shared → Prop} {pins : List (Addr × Obj)} {s : Shared} {σ : St} {H : Hp} {x : Str} {u : Value} {pos : Pos} {Q : Value → Shared → Prop} (I : Inv X pins σ H s) (hg : Gl X x) (hm : X.mg x = none) (hv : bootBuiltins x = some u) (h : Q u s)
    (hn : x ≠ "__name__" := by decide) (hd : (x == ("__debug__" : Str)) = false := by decide) : wpAny (model X.prog X.w) X.A (eval (.Name x pos) X.env) Q E s := by
  obtain ⟨mb, h1, h2⟩ := I.mod.blt
  exact Calls.Name_function_global I.ok.kind hg (Calls.loadGlobal_builtin (by rw [I.ok.glob]; exact I.mod.glob.keeps I.bk) hm (by rw [I.ok.blt]; exact h1.keeps I.bk) ((h2 x hn).trans hv) h) hd
theorem pe_bltn {x : Str} {v : V} {u : Value} {pos : Pos} (hg : Gl X x) (hm : X.mg x = none) (hv : bootBuiltins x = some u) (r : RelV v u) (hn : x ≠ "__name__" := by decide) (hd : (x == ("__debug__" : Str)) = false := by decide) : PE X (.Name x pos) (tC v) :=
  fun _ _ _ H _ I h => ld_blt I hg hm hv ⟨v, H, I, r, h⟩ hn hd

/-! ### arithmetic -/
/-- two ints -/
def t2I (ta tb : TE) (k : Int → Int → Hp → Prop) : St → Hp → Prop := fun σ H => ta σ H fun x H1 => tb σ H1 fun y H2 => ∃ i j, x = .int i ∧ y = .int j ∧ k i j H2
def tAdd (ta tb : TE) : TE := fun σ H Q => t2I ta tb (fun i j H2 => Q (.int (i + j)) H2) σ H
def tSub (ta tb : TE) : TE := fun σ H Q => t2I ta tb (fun i j H2 => Q (.int (i - j)) H2) σ H
/-- the left factor below 2^64 -/
def tMul (ta tb : TE) : TE := fun σ H Q => t2I ta tb (fun i j H2 => (-(2 ^ 64) < i ∧ i < 2 ^ 64) ∧ Q (.int (i * j)) H2) σ H
variable {a b : Expr} {ta tb : TE} {pos : Pos}

/-! ### comparisons -/
def PC (X : Cx) (op : CmpOp) (a b : Expr) (t : TE) : Prop :=
  ∀ (pins : List (Addr × Obj)) (s : Shared) (σ : St) (H : Hp) (Q : VK), Inv X pins σ H s → t σ H Q →
    wpAny (model X.prog X.w) X.A (eval a X.env) (fun v s₁ => wpAny (model X.prog X.w) X.A (eval b X.env) (fun u s₂ => wpAny (model X.prog X.w) X.A (compareOp op v u) (EP X pins σ Q) X.xe s₂) X.xe s₁) X.xe s
def tCmp (p : Int → Int → Bool) (ta tb : TE) : TE := fun σ H Q => t2I ta tb (fun i j H2 => Q (.bl (p i j)) H2) σ H
abbrev tLt : TE → TE → TE := tCmp fun i j => decide (i < j)
abbrev tLe : TE → TE → TE := tCmp fun i j => decide (i ≤ j)
abbrev tGt : TE → TE → TE := tCmp fun i j => decide (j < i)
abbrev tGe : TE → TE → TE := tCmp fun i j => decide (j ≤ i)
abbrev tEqI : TE → TE → TE := tCmp fun i j => decide (i = j)
abbrev tNeI : TE → TE → TE := tCmp fun i j => !decide (i = j)
/-- is None -/
def tIsN (ta : TE) : TE := fun σ H Q => ta σ H fun x H1 => Q (.bl (decide (x = .non))) H1
def tNotN (ta : TE) : TE := fun σ H Q => ta σ H fun x H1 => Q (.bl (!decide (x = .non))) H1
/-- a comparison as a value, as a test -/
def tB (t : TE) : TT := fun σ H Q => t σ H fun x H1 => ∃ c, x = .bl c ∧ Q c H1
/-- an expression whose value is a bool, as a test -/
theorem pt_val {e : Expr} {t : TE} (h : PE X e t) (he : ∀ whole, isTrue e X.env whole = (do let v ← whole; standAt e.pos; holding [v] (truthy v)) := by intro _; rfl) : PT X e (tB t) := by
  intro pins s σ H Q I hw
  refine isTrue_plain (thn (h pins s σ H _ I hw) fun v s1 ⟨x, H1, I1, r1, q1⟩ => ?_) (he _)
  obtain ⟨d, rfl, q⟩ := q1
  cases r1
  exact wpAny_truthy_bool ⟨H1, I1, q⟩

/-! ### and, or, not -/
variable {tA tB' : TT} {rest : List Expr}
def tAnd (t u : TT) : TT := fun σ H Q => t σ H fun c H1 => if c = true then u σ H1 Q else Q false H1
def tOr (t u : TT) : TT := fun σ H Q => t σ H fun c H1 => if c = true then Q true H1 else u σ H1 Q
def tNot (t : TT) : TT := fun σ H Q => t σ H fun c H1 => Q (!c) H1
theorem pw_and1 (ha : PT X a tA) : PW X (.BoolOp .And [a] pos) tA := by
  intro wh pins s σ H Q I h
  refine isTrue_and (thn (ha pins s σ H Q I h) fun c s1 e => ?_)
  cases c with
  | true => exact isTrue_and_nil e
  | false => exact e
theorem pw_or1 (ha : PT X a tA) : PW X (.BoolOp .Or [a] pos) tA := by
  intro wh pins s σ H Q I h
  refine isTrue_or (thn (ha pins s σ H Q I h) fun c s1 e => ?_)
  cases c with
  | false => exact isTrue_or_nil e
  | true => exact e
theorem pw_and (ha : PT X a tA) (hb : PW X (.BoolOp .And (b :: rest) pos) tB') : PW X (.BoolOp .And (a :: b :: rest) pos) (tAnd tA tB') := by
  intro wh pins s σ H Q I h
  refine isTrue_and (thn (ha pins s σ H _ I h) fun c s1 ⟨H1, I1, q1⟩ => ?_)
  cases c with
  | true => exact hb wh pins s1 σ H1 Q I1 q1
  | false => exact ⟨H1, I1, q1⟩
theorem pw_or (ha : PT X a tA) (hb : PW X (.BoolOp .Or (b :: rest) pos) tB') : PW X (.BoolOp .Or (a :: b :: rest) pos) (tOr tA tB') := by
  intro wh pins s σ H Q I h
  refine isTrue_or (thn (ha pins s σ H _ I h) fun c s1 ⟨H1, I1, q1⟩ => ?_)
  cases c with
  | true => exact ⟨H1, I1, q1⟩
  | false => exact hb wh pins s1 σ H1 Q I1 q1
theorem pt_not (ha : PT X a tA) : PT X (.UnaryOp .Not a pos) (tNot tA) := by
  intro pins s σ H Q I h
  exact isTrue_not (ha pins s σ H (fun c H1 => Q (!c) H1) I h)
/-- .. as values (bools) -/
def tAndV (ta tb : TE) : TE := fun σ H Q => ta σ H fun x H1 => ∃ c, x = .bl c ∧ if c = true then tb σ H1 Q else Q (.bl false) H1
def tOrV (ta tb : TE) : TE := fun σ H Q => ta σ H fun x H1 => ∃ c, x = .bl c ∧ if c = true then Q (.bl true) H1 else tb σ H1 Q
def tNotV (ta : TE) : TE := fun σ H Q => ta σ H fun x H1 => ∃ c, x = .bl c ∧ Q (.bl (!c)) H1
theorem pe_one {op} {t : TE} (h : PE X a t) : PE X (.BoolOp op [a] pos) t := fun pins s σ H Q I hw => BoolOp_one (h pins s σ H Q I hw)
theorem pe_and (ha : PE X a ta) (hb : PE X (.BoolOp .And (b :: rest) pos) tb) : PE X (.BoolOp .And (a :: b :: rest) pos) (tAndV ta tb) := by
  intro pins s σ H Q I h
  refine BoolOp_and (thn (ha pins s σ H _ I h) fun v s1 ⟨x, H1, I1, r1, q1⟩ => ?_)
  obtain ⟨c, rfl, q1⟩ := q1
  cases r1
  refine wpAny_truthy_bool ?_
  cases c with
  | true => exact hb pins s1 σ H1 Q I1 q1
  | false => exact ⟨.bl false, H1, I1, rfl, q1⟩
theorem pe_or (ha : PE X a ta) (hb : PE X (.BoolOp .Or (b :: rest) pos) tb) : PE X (.BoolOp .Or (a :: b :: rest) pos) (tOrV ta tb) := by
  intro pins s σ H Q I h
  refine BoolOp_or (thn (ha pins s σ H _ I h) fun v s1 ⟨x, H1, I1, r1, q1⟩ => ?_)
  obtain ⟨c, rfl, q1⟩ := q1
  cases r1
  refine wpAny_truthy_bool ?_
  cases c with
  | false => exact hb pins s1 σ H1 Q I1 q1
  | true => exact ⟨.bl true, H1, I1, rfl, q1⟩
/-- a if t else b -/
def tIf (t : TT) (ta tb : TE) : TE := fun σ H Q => t σ H fun c H1 => if c = true then ta σ H1 Q else tb σ H1 Q
end
end L2

namespace L2
open PySem PySem.Spec PyProof.Rows

/-! ### a list, a tuple that is read: tracked, frozen, or an object of the module -/
def SqL (K : PySem.W.Frag) (H : Hp) (a : Addr) (xs : List V) : Prop :=
  Rd H a (.lst xs) ∨
    ∃ (o : Obj) (its : Array Value) (n : Nat), K.lookup a = some o ∧ o.cls = .type "list" ∧ o.dict = none ∧ o.data = .seq its n ∧ its.size ≤ sizeLine ∧ Vals xs its.toList
def SqT (K : PySem.W.Frag) (H : Hp) (a : Addr) (xs : List V) : Prop :=
  Rd H a (.tup xs) ∨
    ∃ (o : Obj) (its : Array Value) (n : Nat), K.lookup a = some o ∧ o.cls = .type "tuple" ∧ o.data = .seq its n ∧ its.size ≤ sizeLine ∧ Vals xs its.toList
def absV : Value → Option V
  | .none => some .non
  | .bool b => some (.bl b)
  | .int i _ => some (.int i)
  | .str x _ => some (.str x)
  | .bytes b _ => some (.byt b)
  | .float b _ => some (.flt b)
  | .ref a => some (.ref a)
  | .type n => some (.ty n)
  | _ => none
theorem RelV.abs {x : V} {u : Value} (r : RelV x u) : absV u = some x := by
  cases x with
  | non => cases r; rfl
  | bl _ => cases r; rfl
  | int _ => obtain ⟨t, rfl⟩ := r; rfl
  | str _ => obtain ⟨t, rfl⟩ := r; rfl
  | byt _ => obtain ⟨t, rfl⟩ := r; rfl
  | flt _ => obtain ⟨t, rfl⟩ := r; rfl
  | ref _ => cases r; rfl
  | ty _ => cases r; rfl
theorem RelV.inj {x y : V} {u : Value} (r : RelV x u) (q : RelV y u) : x = y := Option.some.inj (r.abs.symm.trans q.abs)
theorem Vals.inj : ∀ {xs ys : List V} {us : List Value}, Vals xs us → Vals ys us → xs = ys
  | _, _, _, .nil, .nil => rfl
  | _, _, _, .cons r t, .cons r' t' => by rw [r.inj r', Vals.inj t t']
section
variable {X : Cx} {pins : List (Addr × Obj)} {σ : St} {H : Hp} {s : Shared} {a : Addr} {xs ys : List V}
theorem SqL.of {K : PySem.W.Frag} (h : H a = some (.lst xs)) : SqL K H a xs := .inl (.inl h)
theorem SqT.of {K : PySem.W.Frag} (h : H a = some (.tup xs)) : SqT K H a xs := .inl (.inl h)
theorem Inv.list (I : Inv X pins σ H s) (h : SqL X.K H a xs) : ∃ its : List Value, Vals xs its ∧ PlainL s.heap a its.toArray ∧ xs.length ≤ sizeLine := by
  rcases h with h | ⟨o, its, n, hk, hc, hd, hs, hz, r⟩
  · obtain ⟨z, its, n, r, e⟩ := h.ok I.hok
    exact ⟨its, r, ⟨_, n, e, rfl, rfl, rfl⟩, z⟩
  · refine ⟨its.toList, r, ⟨o, n, I.kIn a o hk, hc, hd, by simpa using hs⟩, ?_⟩
    have e := r.length
    simp only [Array.length_toList] at e
    omega
theorem Inv.tuple (I : Inv X pins σ H s) (h : SqT X.K H a xs) : ∃ its : List Value, Vals xs its ∧ IsTup s.heap a its.toArray ∧ xs.length ≤ sizeLine := by
  rcases h with h | ⟨o, its, n, hk, hc, hs, hz, r⟩
  · obtain ⟨z, its, r, p⟩ := h.ok I.hok
    exact ⟨its, r, p, z⟩
  · refine ⟨its.toList, r, ⟨o, I.kIn a o hk, hc, n, by simpa using hs⟩, ?_⟩
    have e := r.length
    simp only [Array.length_toList] at e
    omega
theorem Inv.list_inj (I : Inv X pins σ H s) (h : SqL X.K H a xs) (h' : SqL X.K H a ys) : xs = ys := by
  obtain ⟨its, r, ⟨o, n, e, _, _, d⟩, _⟩ := I.list h
  obtain ⟨its', r', ⟨o', n', e', _, _, d'⟩, _⟩ := I.list h'
  rw [e] at e'; cases e'
  rw [d] at d'
  injection d' with d1 _
  have : its = its' := by simpa using congrArg Array.toList d1
  subst this
  exact r.inj r'
theorem Inv.tuple_inj (I : Inv X pins σ H s) (h : SqT X.K H a xs) (h' : SqT X.K H a ys) : xs = ys := by
  obtain ⟨its, r, ⟨o, e, _, n, d⟩, _⟩ := I.tuple h
  obtain ⟨its', r', ⟨o', e', _, n', d'⟩, _⟩ := I.tuple h'
  rw [e] at e'; cases e'
  rw [d] at d'
  injection d' with d1 _
  have : its = its' := by simpa using congrArg Array.toList d1
  subst this
  exact r.inj r'
end

/-! ### another wish about exceptions -/
abbrev Cx.wish (X : Cx) (E : Value → Shared → Prop) : Cx := { X with xe := E }
/-- no exception leaves -/
abbrev Cx.nox (X : Cx) : Cx := X.wish fun _ _ => False
theorem Cx.Ok.wish {X : Cx} (ok : X.Ok) (E : Value → Shared → Prop) : (X.wish E).Ok :=
  ⟨ok.mod, ok.kind, ok.glob, ok.blt, ok.above, ok.inj, ok.has, ok.cab, ok.hd, ok.frames, ok.stk, ok.exf, ok.bs, ok.bsz, ok.noex, ok.exfs, ok.funs, ok.frf⟩
theorem Cx.Ok.unwish {X : Cx} {E : Value → Shared → Prop} (ok : (X.wish E).Ok) : X.Ok :=
  ⟨ok.mod, ok.kind, ok.glob, ok.blt, ok.above, ok.inj, ok.has, ok.cab, ok.hd, ok.frames, ok.stk, ok.exf, ok.bs, ok.bsz, ok.noex, ok.exfs, ok.funs, ok.frf⟩
section
variable {X : Cx} {pins : List (Addr × Obj)} {σ : St} {H : Hp} {s : Shared} {E : Value → Shared → Prop}
theorem Inv.wish (I : Inv X pins σ H s) (E : Value → Shared → Prop) : Inv (X.wish E) pins σ H s := ⟨I.ok.wish E, I.os, I.bare, I.base, I.loc, I.cell, I.free, I.freeC, I.pin, I.hok, I.len⟩
theorem Inv.unwish (I : Inv (X.wish E) pins σ H s) : Inv X pins σ H s := ⟨I.ok.unwish, I.os, I.bare, I.base, I.loc, I.cell, I.free, I.freeC, I.pin, I.hok, I.len⟩
theorem SP.unwish {D : Ends} {f : Flow} {s' : Shared} (h : SP (X.wish E) pins D f s') : SP X pins D f s' := by
  cases f with
  | next => obtain ⟨σ', H', I, q⟩ := h; exact ⟨σ', H', I.unwish, q⟩
  | brk => obtain ⟨σ', H', I, q⟩ := h; exact ⟨σ', H', I.unwish, q⟩
  | cont => obtain ⟨σ', H', I, q⟩ := h; exact ⟨σ', H', I.unwish, q⟩
  | ret u => obtain ⟨v, σ', H', I, r, q⟩ := h; exact ⟨v, σ', H', I.unwish, r, q⟩
theorem PE.nox {e : Expr} {t : TE} (h : PE X.nox e t) : PE X e t := fun pins s σ H Q I hw =>
  wpAny_mono (h pins s σ H Q (I.wish _) hw) (fun _ _ ⟨v, H', I', r, q⟩ => ⟨v, H', I'.unwish, r, q⟩) fun _ _ z => False.elim z
theorem PT.nox {e : Expr} {t : TT} (h : PT X.nox e t) : PT X e t := fun pins s σ H Q I hw =>
  wpAny_mono (h pins s σ H Q (I.wish _) hw) (fun _ _ ⟨H', I', q⟩ => ⟨H', I'.unwish, q⟩) fun _ _ z => False.elim z
theorem PSs.nox {st : List Stmt} {t : TS} (h : PSs X.nox st t) : PSs X st t := fun pins s σ H D I hw =>
  wpAny_mono (h pins s σ H D (I.wish _) hw) (fun _ _ q => q.unwish) fun _ _ z => False.elim z
end

/-! ### blocks and small statements -/
section
variable {X : Cx} {st : Stmt} {rest : List Stmt} {t u : TS} {e : Expr} {te : TE} {pos : Pos}
def tNext : TS := fun D σ H => D.nx σ H
def tSeq (t u : TS) : TS := fun D σ H => t { D with nx := u D } σ H
theorem pss_nil : PSs X [] tNext := fun _ _ σ H _ I h => wpAny_execs_nil ⟨σ, H, I, h⟩
theorem pss_cons (h1 : PS X st t) (h2 : PSs X rest u) : PSs X (st :: rest) (tSeq t u) := by
  intro pins s σ H D I h
  refine wpAny_execs_cons (thn (h1 pins s σ H { D with nx := u D } I h) fun f s1 q => ?_)
  cases f with
  | next =>
    obtain ⟨σ', H', I', q⟩ := q
    exact h2 pins s1 σ' H' D I' q
  | ret v => exact q
  | brk => exact q
  | cont => exact q
theorem pss_one (h1 : PS X st t) : PSs X [st] t := by
  intro pins s σ H D I h
  refine wpAny_execs_cons (thn (h1 pins s σ H D I h) fun f s1 q => ?_)
  cases f with
  | next => exact wpAny_execs_nil q
  | ret v => exact q
  | brk => exact q
  | cont => exact q
def tBreak : TS := fun D σ H => D.bk σ H
def tCont : TS := fun D σ H => D.ct σ H
/-- in a def's body nothing is shown -/
theorem Inv.quiet {pins : List (Addr × Obj)} {σ : St} {H : Hp} {s : Shared} (I : Inv X pins σ H s) : interactive X.env = false := by simp [interactive, I.ok.kind]
/-- an expression whose value is dropped -/
def tDrop (te : TE) : TS := fun D σ H => te σ H fun _ H1 => D.nx σ H1
theorem ps_expr (he : PE X e te) (hs : swapsWith e none pos.line X.env = pure false := by rfl) : PS X (.Expr e pos) (tDrop te) := by
  intro pins s σ H D I h
  exact wpAny_Expr_any (thn (he pins s σ H _ I h) fun v s1 ⟨x, H1, I1, r1, q1⟩ => ⟨σ, H1, I1, q1⟩) I.quiet hs
def tRet (te : TE) : TS := fun D σ H => te σ H D.rt
theorem ps_ret (he : PE X e te) : PS X (.Return (some e) pos) (tRet te) := by
  intro pins s σ H D I h
  exact wpAny_Return_some (thn (he pins s σ H _ I h) fun v s1 ⟨x, H1, I1, r1, q1⟩ => ⟨x, σ, H1, I1, r1, q1⟩)
def tRetN : TS := fun D _ H => D.rt .non H
def tIfS (c : TT) (t u : TS) : TS := fun D σ H => c σ H fun b H1 => if b = true then t D σ H1 else u D σ H1
theorem ps_if {c : Expr} {a b : List Stmt} {tc : TT} (hc : PT X c tc) (ha : PSs X a t) (hb : PSs X b u) : PS X (.If c a b pos) (tIfS tc t u) := by
  intro pins s σ H D I h
  refine wpAny_If (thn (hc pins s σ H _ I h) fun d s1 ⟨H1, I1, q1⟩ => ?_)
  cases d with
  | true => exact ha pins s1 σ H1 D I1 q1
  | false => exact hb pins s1 σ H1 D I1 q1
/-- code that the proof never comes to -/
def tNever : TS := fun _ _ _ => False
theorem ps_never : PS X st tNever := fun _ _ _ _ _ _ h => h.elim
end

/-! ### targets -/
abbrev TG := V → St → Hp → (St → Hp → Prop) → Prop
abbrev TGs := List V → St → Hp → (St → Hp → Prop) → Prop
def PG (X : Cx) (target : Expr) (t : TG) : Prop :=
  ∀ (pins : List (Addr × Obj)) (s : Shared) (σ : St) (H : Hp) (v : V) (u : Value) (Q : St → Hp → Prop), Inv X pins σ H s → RelV v u → t v σ H Q →
    wpAny (model X.prog X.w) X.A (assign target X.env u) (fun _ s' => ∃ σ' H', Inv X pins σ' H' s' ∧ Q σ' H') X.xe s
/-- several targets, one after another -/
def PGs (X : Cx) (ts : List Expr) (t : TGs) : Prop :=
  ∀ (pins : List (Addr × Obj)) (s : Shared) (σ : St) (H : Hp) (vs : List V) (us : List Value) (Q : St → Hp → Prop), Inv X pins σ H s → Vals vs us → t vs σ H Q →
    wpAny (model X.prog X.w) X.A (assignInOrder ((assignEach ts X.env).map (·.2)) us) (fun _ s' => ∃ σ' H', Inv X pins σ' H' s' ∧ Q σ' H') X.xe s
/-- o[i] = v, by values -/
abbrev TSet := V → V → V → Hp → (Hp → Prop) → Prop
def PSet (X : Cx) (t : TSet) : Prop :=
  ∀ (pins : List (Addr × Obj)) (s : Shared) (σ : St) (H : Hp) (o i v : V) (ov iv u : Value) (Q : Hp → Prop), Inv X pins σ H s → RelV o ov → RelV i iv → RelV v u → t o i v H Q →
    wpAny (model X.prog X.w) X.A (setItem ov iv u) (fun _ s' => ∃ H', Inv X pins σ H' s' ∧ Q H') X.xe s
/-- a op= b, by values -/
abbrev TIp := V → V → Hp → VK → Prop
def PIp (X : Cx) (op : Operator) (t : TIp) : Prop :=
  ∀ (pins : List (Addr × Obj)) (s : Shared) (σ : St) (H : Hp) (x y : V) (v u : Value) (Q : VK), Inv X pins σ H s → RelV x v → RelV y u → t x y H Q →
    wpAny (model X.prog X.w) X.A (inplaceOp op v u) (EP X pins σ Q) X.xe s
section
variable {X : Cx} {pos : Pos}
def gName (i : Nat) : TG := fun v σ H Q => Q (σ.set i (some v)) H
theorem pg_name {i : Nat} {x : Str} (hN : X.N.Nodup) (hi : X.N[i]? = some x) (hx : Loc X.env.scope x) (hf : X.fn x = true ∨ X.env.scope.names.lookup x = some .local := by first | exact .inl rfl | exact .inr rfl | assumption) : PG X (.Name x pos) (gName i) := by
  intro pins s σ H v u Q I r h
  exact wpAny_assign_Name (store_ok I hN hi hx r (fun s' I' => ⟨_, H, I', h⟩) hf)
def gNil : TGs := fun vs σ H Q => vs = [] ∧ Q σ H
def gCons (t : TG) (u : TGs) : TGs := fun vs σ H Q => ∃ v r, vs = v :: r ∧ t v σ H fun σ' H' => u r σ' H' Q
theorem pgs_nil : PGs X [] gNil := by
  intro pins s σ H vs us Q I r h
  obtain ⟨e, h⟩ := h
  subst e
  cases r
  exact assignInOrder_nil ⟨σ, H, I, h⟩
theorem pgs_cons {e : Expr} {es : List Expr} {t : TG} {u : TGs} (h1 : PG X e t) (h2 : PGs X es u)
    (hs : (assignEach (e :: es) X.env).map (·.2) = assign e X.env :: (assignEach es X.env).map (·.2) := by rfl) : PGs X (e :: es) (gCons t u) := by
  intro pins s σ H vs us Q I r h
  obtain ⟨v, vr, e1, h⟩ := h
  subst e1
  cases r with
  | cons r rr =>
    rw [hs]
    refine assignInOrder_cons (thn (h1 pins s σ H _ _ _ I r h) fun _ s1 ⟨σ1, H1, I1, q1⟩ => ?_)
    exact h2 pins s1 σ1 H1 _ _ Q I1 rr q1
/-- (a, b, ..) = a tuple of that length -/
def gTup (K : PySem.W.Frag) (n : Nat) (t : TGs) : TG := fun v σ H Q => ∃ a xs, v = .ref a ∧ SqT K H a xs ∧ xs.length = n ∧ t xs σ H Q
theorem pg_tup {es : List Expr} {k : Nat} {t : TGs} {n : Nat} (hc : X.calm = true) (h : PGs X es t)
    (hn : (assignEach es X.env).length = n := by rfl) (hst : (assignEach es X.env).findIdx? (·.1) = none := by rfl) : PG X (.Tuple es k pos) (gTup X.K n t) := by
  intro pins s σ H v u Q I r hw
  obtain ⟨a, xs, e1, hq, hl, hw⟩ := hw
  subst e1
  cases r
  obtain ⟨its, rv, ht, hz⟩ := I.tuple hq
  refine assign_Tuple_tuple (I.ok.hd hc) ht (by simp [hn, ← hl, rv.length]) hst fun h' hx => ?_
  have I1 : Inv X pins σ H { s with heap := h' } := I.kept (t' := s.toks) fun b o e => hx b o (Nat.ne_of_lt (Heap.lt_size e)) e
  exact h pins _ σ H xs _ Q I1 (by simpa using rv) hw
/-- o[i] = .. -/
def gSub (to ti : TE) (t : TSet) : TG := fun v σ H Q => to σ H fun o H1 => ti σ H1 fun i H2 => t o i v H2 fun H3 => Q σ H3
theorem pg_sub {o i : Expr} {to ti : TE} {t : TSet} (ho : PE X o to) (hi : PE X i ti) (hs : PSet X t)
    (ha : ∀ v, assign (.Subscript o i pos) X.env v = (do
      let ov ← holding [v] (eval o X.env)
      let iv ← holding [v, ov] (eval i X.env)
      standAt pos
      holding [v, ov, iv] (setItem ov iv v)
      release [v, ov, iv] []) := by intro _; rfl) : PG X (.Subscript o i pos) (gSub to ti t) := by
  intro pins s σ H v u Q I r h
  rw [ha]
  refine wpAny_bind (wpAny_holding (thn (ho pins s σ H _ I h) fun ov s1 ⟨x, H1, I1, r1, q1⟩ => ?_))
  refine wpAny_bind (wpAny_holding (thn (hi pins s1 σ H1 _ I1 q1) fun iv s2 ⟨y, H2, I2, r2, q2⟩ => ?_))
  refine wpAny_bind (wpAny_standAt (wpAny_bind (wpAny_holding (thn (hs pins s2 σ H2 x y v ov iv u _ I2 r1 r2 r q2) fun _ s3 ⟨H3, I3, q3⟩ => ?_))))
  exact wpAny_release ⟨σ, H3, I3, q3⟩
/-- target = value -/
def tAsg (te : TE) (g : TG) : TS := fun D σ H => te σ H fun x H1 => g x σ H1 D.nx
theorem ps_asg {tg e : Expr} {te : TE} {g : TG} (he : PE X e te) (hg : PG X tg g) (hs : swapsWithSole [tg] e pos.line X.env = pure false := by rfl) (hw : swappedStores [tg] e X.env = pure none := by rfl)
    (h1 : (assignEach [tg] X.env).map (·.2) = [assign tg X.env] := by rfl) : PS X (.Assign [tg] e pos) (tAsg te g) := by
  intro pins s σ H D I h
  refine wpAny_Assign_stores (thn (he pins s σ H _ I h) fun v s1 ⟨x, H1, I1, r1, q1⟩ => ?_) hs hw
  rw [h1]
  exact thn (hg pins s1 σ H1 x v _ I1 r1 q1) fun _ s2 q => q
/-- name = value -/
theorem ps_set {i : Nat} {x : Str} {e : Expr} {te : TE} {pos' : Pos} (hN : X.N.Nodup) (hi : X.N[i]? = some x) (hx : Loc X.env.scope x) (he : PE X e te) (hs : swapsWith e (some (.Name x pos')) pos.line X.env = pure false := by rfl) (hf : X.fn x = true ∨ X.env.scope.names.lookup x = some .local := by first | exact .inl rfl | exact .inr rfl | assumption) :
    PS X (.Assign [.Name x pos'] e pos) (tAsg te (gName i)) := by
  intro pins s σ H D I h
  refine wpAny_Assign_Name (thn (he pins s σ H _ I h) fun v s1 ⟨y, H1, I1, r1, q1⟩ => ?_) hs
  exact store_ok I1 hN hi hx r1 (fun s2 I2 => ⟨_, H1, I2, q1⟩) hf
/-- a, b = x, y with plain local names: stored from the right; the pair itself is not tracked (the opening rows as in PyProof/Rows/TupAssign.lean:23) -/
def tPar (i j : Nat) (ta : TA) : TS := fun D σ H => ta σ H fun vs H1 => ∃ v w, vs = [v, w] ∧ D.nx ((σ.set i (some v)).set j (some w)) H1
theorem ps_par {i j : Nat} {x y : Str} {a b : Expr} {ta : TA} {px py pt : Pos} {kt k2 pt2} (hc : X.calm = true) (hN : X.N.Nodup) (hi : X.N[i]? = some x) (hj : X.N[j]? = some y) (hij : i ≠ j)
    (hx : X.env.scope.names.lookup x = some .local) (hy : X.env.scope.names.lookup y = some .local) (ha : PA X [a, b] ta)
    (hw : swappedStores [.Tuple [.Name x px, .Name y py] kt pt] (.Tuple [a, b] k2 pt2) X.env = pure (some [x, y]))
    (hs : swapsWithSole [.Tuple [.Name x px, .Name y py] kt pt] (.Tuple [a, b] k2 pt2) pos.line X.env = pure false := by rfl) :
    PS X (.Assign [.Tuple [.Name x px, .Name y py] kt pt] (.Tuple [a, b] k2 pt2) pos) (tPar i j ta) := by
  intro pins s σ H D I h
  rw [exec_Assign_arm]
  refine wpAny_bind (wpAny_standAt ?_)
  rw [hs]
  refine wpAny_bind (wpAny_pure ?_)
  rw [if_neg (by decide)]
  refine wpAny_bind (Tuple_ (thn (ha _ pins s σ H _ I h) fun us s1 ⟨vs, H1, I1, r1, q1⟩ => ?_))
  obtain ⟨v, w, e1, q1⟩ := q1
  subst e1
  obtain ⟨u1, u2, rfl, rv, rw'⟩ : ∃ u1 u2, us = [u1, u2] ∧ RelV v u1 ∧ RelV w u2 := by
    cases r1 with
    | cons p q =>
      cases q with
      | cons p' q' =>
        cases q'
        exact ⟨_, _, rfl, p, p'⟩
  refine wpAny_newObj_type ?_ (by show 2 ≤ sizeLine; decide)
  have I2 : Inv X pins σ H1 { s1 with heap := s1.heap.push { cls := .type "tuple", data := .seq [u1, u2].toArray } } := I1.kept (t' := s1.toks) fun b o e => Heap.get?_push_of_some _ e
  rw [hw]
  refine wpAny_bind (wpAny_pure ?_)
  show wpAny (model X.prog X.w) X.A (do rule "assign.swapped-stores"; let items ← unpackItems (.ref s1.heap.objs.size) 2 none; assignInOrder [fun v => bindName X.env y v, fun v => bindName X.env x v] items.reverse; pure Flow.next) _ _ _
  refine wpAny_bind (wpAny_rule (wpAny_bind (unpackItems_tuple (items := #[u1, u2]) (I.ok.hd hc) (IsTup.new s1.heap _) fun h' hx' => ?_)))
  have I3 := I2.kept (h' := h') (t' := s1.toks) fun b o e => hx' b o (Nat.ne_of_lt (Heap.lt_size e)) e
  show wpAny _ _ (assignInOrder [fun v => bindName X.env y v, fun v => bindName X.env x v] [u2, u1] >>= fun _ => pure Flow.next) _ _ _
  refine wpAny_bind (assignInOrder_cons (wpAny_bindName (store_ok I3 hN hj (.inl hy) rw' (fun s2 I4 => ?_) (.inr hy))))
  refine assignInOrder_cons (wpAny_bindName (store_ok I4 hN hi (.inl hx) rv (fun s3 I5 => assignInOrder_nil (wpAny_pure ?_)) (.inr hx)))
  rw [List.set_comm _ _ (Ne.symm hij)] at I5
  exact ⟨_, H1, I5, q1⟩
/-- name op= e -/
def tAug (i : Nat) (te : TE) (ti : TIp) : TS := fun D σ H => ∃ x, σ[i]? = some (some x) ∧ te σ H fun y H1 => ti x y H1 fun z H2 => D.nx (σ.set i (some z)) H2
/-- o[i] op= e -/
def tAugS (to ti te : TE) (tget : V → V → Hp → VK → Prop) (tip : TIp) (tset : TSet) : TS := fun D σ H => to σ H fun o H1 => ti σ H1 fun i H2 => tget o i H2 fun x H3 => te σ H3 fun y H4 => tip x y H4 fun z H5 => tset o i z H5 fun H6 => D.nx σ H6
/-- o[i], by values -/
def PGet (X : Cx) (t : V → V → Hp → VK → Prop) : Prop :=
  ∀ (pins : List (Addr × Obj)) (s : Shared) (σ : St) (H : Hp) (o i : V) (ov iv : Value) (Q : VK), Inv X pins σ H s → RelV o ov → RelV i iv → t o i H Q →
    wpAny (model X.prog X.w) X.A (getItem ov iv) (EP X pins σ Q) X.xe s
/-- ints -/
def ipI (f : Int → Int → Int) : TIp := fun x y H Q => ∃ i j, x = .int i ∧ y = .int j ∧ Q (.int (f i j)) H
end

/-! ### while -/
section
variable {X : Cx} {pos : Pos}
/-- the invariant W with its measure -/
def tWhile (c : TT) (tb : TS) : TS := fun D σ H => ∃ W : Nat → St → Hp → Prop, (∃ m, W m σ H) ∧ ∀ m σ H, W m σ H →
  c σ H fun b H1 => if b = true then ∃ N : St → Hp → Prop, (∀ σ' H', N σ' H' → ∃ m', m' < m ∧ W m' σ' H') ∧ tb { D with nx := N, ct := N, bk := D.nx } σ H1 else D.nx σ H1
theorem ps_while {c : Expr} {body : List Stmt} {tc : TT} {tb : TS} (hp : PassesOwn (model X.prog X.w) X.A X.env X.xe) (hc : PT X c tc) (hb : PSs X body tb) : PS X (.While c body [] pos) (tWhile tc tb) := by
  intro pins s σ H D I h
  obtain ⟨W, ⟨m0, w0⟩, turn⟩ := h
  refine wpAny_While (codeAny_whileLoop (fun n s' => ∃ σ' H', Inv X pins σ' H' s' ∧ W n σ' H') ?_ m0 ⟨σ, H, I, w0⟩)
  rintro n s1 ⟨σ1, H1, I1, w1⟩
  refine wpAny_passesOwn hp (thn (hc pins s1 σ1 H1 _ I1 (turn n σ1 H1 w1)) fun b s2 ⟨H2, I2, q2⟩ => ?_)
  cases b with
  | true =>
    obtain ⟨N, hN, q2⟩ := q2
    rw [if_pos rfl]
    refine wpAny_passesOwn hp (thn (hb pins s2 σ1 H2 _ I2 q2) fun f s3 q3 => ?_)
    cases f with
    | next =>
      obtain ⟨σ3, H3, I3, n3⟩ := q3
      obtain ⟨m', hm, w3⟩ := hN σ3 H3 n3
      exact ⟨m', hm, σ3, H3, I3, w3⟩
    | cont =>
      obtain ⟨σ3, H3, I3, n3⟩ := q3
      obtain ⟨m', hm, w3⟩ := hN σ3 H3 n3
      exact ⟨m', hm, σ3, H3, I3, w3⟩
    | brk => exact q3
    | ret v => exact q3
  | false =>
    rw [if_neg Bool.false_ne_true]
    exact wpAny_execs_nil ⟨σ1, H2, I2, q2⟩
end

/-! ### what a loop or a comprehension walks -/
/-- at turn i: it yields x (the heap may grow), or it stops -/
structure It where
  go : Nat → Hp → Prop
  yld : Nat → Hp → V → Hp → Prop
  stop : Nat → Hp → Prop
/-- the iterator's own objects may turn: they are not the frame's, not pinned, younger than the entry (or a comprehension's own) -/
def FpOk (X : Cx) (pins : List (Addr × Obj)) (H : Hp) (b : Addr) : Prop :=
  H b = none ∧ b ≠ X.env.locals ∧ b ∉ X.fs ∧ (b ∈ X.ex ∨ X.s₀.heap.objs.size ≤ b) ∧ (∀ x c, X.env.cells.lookup x = some c → c ≠ b) ∧ ∀ p ∈ X.pn ++ pins, p.1 ≠ b
theorem Inv.fpOk {X : Cx} {pins : List (Addr × Obj)} {σ : St} {H H' : Hp} {s : Shared} {b : Addr} (I : Inv X pins σ H s) (hb : s.heap.objs.size ≤ b) (hn : H' b = none) : FpOk X pins H' b := by
  refine ⟨hn, Nat.ne_of_gt (Nat.lt_of_lt_of_le I.lt hb), I.nofs hb, .inr (Nat.le_trans I.sz hb), fun x c e z => ?_, fun p hp z => ?_⟩
  · obtain ⟨v, q⟩ := I.cell x c e
    exact absurd (Nat.lt_of_lt_of_le q.lt (by rw [z]; exact hb)) (Nat.lt_irrefl _)
  · exact absurd (Nat.lt_of_lt_of_le (Heap.lt_size (I.pin p hp).1) (by rw [z]; exact hb)) (Nat.lt_irrefl _)
structure Turn (P : Program) (w : World) (K : PySem.W.Frag) (tg : Expr) (J : It) (fp : List Addr) (it : Addr) (tn : Nat → Heap → Prop) : Prop where
  mem : it ∈ fp
  obj : ∀ i h, tn i h → ∀ b ∈ fp, ∃ o, h.get? b = some o ∧ ∀ v, o.data ≠ .cell v
  keep : ∀ i h h', tn i h → (∀ b ∈ fp, ∀ o, h.get? b = some o → h'.get? b = some o) → tn i h'
  item : ∀ (X : Cx), X.prog = P → X.w = w → X.K = K → X.calm = true → ∀ (i : Nat) (pins : List (Addr × Obj)) (s : Shared) (σ : St) (H : Hp) (E : Value → Shared → Prop), Inv X pins σ H s → (∀ b ∈ fp, FpOk X pins H b) → tn i s.heap → J.go i H →
    wpAny (model P w) X.A (pyNext (.ref it)) (fun r s1 => ∃ u, r = some u ∧
      wpAny (model P w) X.A (letOwnedTupleGo tg (.ref it) u) (fun _ s2 => ∃ x H', Inv X pins σ H' s2 ∧ RelV x u ∧ J.yld i H x H' ∧ tn (i + 1) s2.heap ∧ ∀ b ∈ fp, H' b = none) E s1) E s
  done : ∀ (X : Cx), X.prog = P → X.w = w → X.K = K → X.calm = true → ∀ (i : Nat) (pins : List (Addr × Obj)) (s : Shared) (σ : St) (H : Hp) (E : Value → Shared → Prop), Inv X pins σ H s → (∀ b ∈ fp, FpOk X pins H b) → tn i s.heap → J.stop i H →
    wpAny (model P w) X.A (pyNext (.ref it)) (fun r s1 => r = none ∧ Inv X pins σ H s1) E s
  self : ∀ (A : Around) (i : Nat) (s : Shared) (Q : Value → Shared → Prop) (E : Value → Shared → Prop), tn i s.heap → Q (.ref it) s → wpAny (model P w) A (pyIter (.ref it)) Q E s
abbrev TI := St → Hp → (It → Hp → Prop) → Prop
/-- an iterator has come -/
def PIE (X : Cx) (pins : List (Addr × Obj)) (σ : St) (tg : Expr) (R : It → Hp → Prop) (itv : Value) (s2 : Shared) : Prop :=
  ∃ (it : Addr) (fp : List Addr) (tn : Nat → Heap → Prop) (J : It) (H' : Hp), itv = .ref it ∧ Inv X pins σ H' s2 ∧ Turn X.prog X.w X.K tg J fp it tn ∧ tn 0 s2.heap ∧ (∀ b ∈ fp, FpOk X pins H' b) ∧ R J H'
def PI (X : Cx) (tg iter : Expr) (wi : TI) : Prop :=
  ∀ (pins : List (Addr × Obj)) (s : Shared) (σ : St) (H : Hp) (R : It → Hp → Prop), Inv X pins σ H s → wi σ H R →
    wpAny (model X.prog X.w) X.A (eval iter X.env) (fun v s1 => wpAny (model X.prog X.w) X.A (pyIter v) (PIE X pins σ tg R) X.xe s1) X.xe s

/-- the step ahead of the store is nothing for an iterator that keeps no tuple -/
theorem go_of {M : Model} {A : Around} {E : Value → Shared → Prop} {s : Shared} {tg : Expr} {it : Addr} {u : Value} {o : Obj} {n : String} {vs : Array Value} {Q : Unit → Shared → Prop} (ho : s.heap.get? it = some o) (hc : o.cls = .type n) (hd : o.data = .fields vs)
    (hn : ["enumerate", "zip", "dict_itemiterator", "dict_reverseitemiterator", "odict_iterator", "itertools.zip_longest", "itertools.pairwise"].contains n = false) (hQ : Q () s) : wpAny M A (letOwnedTupleGo tg (.ref it) u) Q E s := by
  unfold letOwnedTupleGo
  cases tg <;> first
    | exact wpAny_pure hQ
    | (cases u <;> first
        | exact wpAny_pure hQ
        | (refine wpAny_bind (wpAny_load ho ?_)
           rw [hc, hd]
           show wpAny M A (if (["enumerate", "zip", "dict_itemiterator", "dict_reverseitemiterator", "odict_iterator", "itertools.zip_longest", "itertools.pairwise"].contains n && vs[0]? == some (rawInt _)) = true then _ else _) Q E s
           rw [if_neg (by intro h; rw [hn, Bool.false_and] at h; cases h)]
           exact wpAny_pure hQ))

/-- the list at a, as it stands at each turn (a loop may append to it) -/
def Itl (K : PySem.W.Frag) (a : Addr) : It :=
  ⟨fun i H => ∃ xs x, SqL K H a xs ∧ xs[i]? = some x, fun i H x H' => H' = H ∧ ∀ xs, SqL K H a xs → xs[i]? = some x, fun i H => ∃ xs, SqL K H a xs ∧ xs.length ≤ i⟩
def Itt (K : PySem.W.Frag) (a : Addr) : It :=
  ⟨fun i H => ∃ xs x, SqT K H a xs ∧ xs[i]? = some x, fun i H x H' => H' = H ∧ ∀ xs, SqT K H a xs → xs[i]? = some x, fun i H => ∃ xs, SqT K H a xs ∧ xs.length ≤ i⟩
/-- lo, lo + 1, .. (n of them) -/
def Itr (lo : Int) (n : Nat) : It := ⟨fun i _ => i < n, fun i H x H' => H' = H ∧ x = .int (lo + i), fun i _ => n ≤ i⟩
theorem turn_list {P : Program} {w : World} {K : PySem.W.Frag} {tg : Expr} (a it : Addr) : Turn P w K tg (Itl K a) [it] it (fun i h => h.IsListIter it a i) where
  mem := by simp
  obj := fun i h st b hb => by
    have e : b = it := by simpa using hb
    subst e
    obtain ⟨o, e, c, d⟩ := st
    exact ⟨o, e, fun v z => by rw [d] at z; cases z⟩
  keep := fun i h h' st k => st.at fun o e => k it (by simp) o e
  item := by
    intro X hP hw hK hc i pins s σ H E I hf st hg
    subst hP hw hK
    obtain ⟨xs, x, hq, hx⟩ := hg
    obtain ⟨its, rv, p, hz⟩ := I.list hq
    obtain ⟨u, hu, ru⟩ := rv.get hx
    obtain ⟨f0, f1, f2, f3, f4, f5⟩ := hf it (by simp)
    refine wpAny_pyNext_list_item st p.isList (x := u) (by simpa using hu) fun h' st' sb => ?_
    have I1 : Inv X pins σ H { s with heap := h' } := I.turned (t' := s.toks) (fun b o hb e => (sb.2 b hb).trans e) f0 f1 f3 f4 f5
    obtain ⟨o, e, c, d⟩ := id st'
    exact ⟨u, rfl, go_of (s := { s with heap := h' }) e c d (by decide) ⟨x, H, I1, ru, ⟨rfl, fun ys hy => by rw [I.list_inj hy hq]; exact hx⟩, st', fun b hb => (hf b hb).1⟩⟩
  done := by
    intro X hP hw hK hc i pins s σ H E I hf st hg
    subst hP hw hK
    obtain ⟨xs, hq, hx⟩ := hg
    obtain ⟨its, rv, p, hz⟩ := I.list hq
    obtain ⟨f0, f1, f2, f3, f4, f5⟩ := hf it (by simp)
    have hl := rv.length
    exact wpAny_pyNext_list_end (I.ok.hd hc) st p.isList (by simp; omega) fun h' eb => ⟨rfl, I.turned (t' := s.toks) (fun b o hb e => eb b o hb e) f0 f1 f3 f4 f5⟩
  self := fun _ _ _ _ _ st h => wpAny_pyIter_listiter st h
theorem turn_tuple {P : Program} {w : World} {K : PySem.W.Frag} {tg : Expr} (a it : Addr) : Turn P w K tg (Itt K a) [it] it (fun i h => h.IsTupleIter it a i) where
  mem := by simp
  obj := fun i h st b hb => by
    have e : b = it := by simpa using hb
    subst e
    obtain ⟨o, e, c, d⟩ := st
    exact ⟨o, e, fun v z => by rw [d] at z; cases z⟩
  keep := fun i h h' st k => st.at fun o e => k it (by simp) o e
  item := by
    intro X hP hw hK hc i pins s σ H E I hf st hg
    subst hP hw hK
    obtain ⟨xs, x, hq, hx⟩ := hg
    obtain ⟨its, rv, p, hz⟩ := I.tuple hq
    obtain ⟨u, hu, ru⟩ := rv.get hx
    obtain ⟨f0, f1, f2, f3, f4, f5⟩ := hf it (by simp)
    refine wpAny_pyNext_tuple_item st (show s.heap.IsTuple a its.toArray from p) (x := u) (by simpa using hu) fun h' st' sb => ?_
    have I1 : Inv X pins σ H { s with heap := h' } := I.turned (t' := s.toks) (fun b o hb e => (sb.2 b hb).trans e) f0 f1 f3 f4 f5
    obtain ⟨o, e, c, d⟩ := id st'
    exact ⟨u, rfl, go_of (s := { s with heap := h' }) e c d (by decide) ⟨x, H, I1, ru, ⟨rfl, fun ys hy => by rw [I.tuple_inj hy hq]; exact hx⟩, st', fun b hb => (hf b hb).1⟩⟩
  done := by
    intro X hP hw hK hc i pins s σ H E I hf st hg
    subst hP hw hK
    obtain ⟨xs, hq, hx⟩ := hg
    obtain ⟨its, rv, p, hz⟩ := I.tuple hq
    obtain ⟨f0, f1, f2, f3, f4, f5⟩ := hf it (by simp)
    have hl := rv.length
    exact wpAny_pyNext_tuple_end (I.ok.hd hc) st (show s.heap.IsTuple a its.toArray from p) (by simp; omega) fun h' eb => ⟨rfl, I.turned (t' := s.toks) (fun b o hb e => eb b o hb e) f0 f1 f3 f4 f5⟩
  self := fun _ _ _ _ _ st h => wpAny_pyIter_tupleiter st h
theorem turn_range {P : Program} {w : World} {K : PySem.W.Frag} {tg : Expr} (it : Addr) (lo : Int) (n : Nat) : Turn P w K tg (Itr lo n) [it] it (fun i h => IsRangeIter h it (lo + (i : Nat) * 1) ((n : Int) - (i : Nat)) 1) where
  mem := by simp
  obj := fun i h st b hb => by
    have e : b = it := by simpa using hb
    subst e
    exact ⟨_, st, fun v z => by
      have z' : Data.fields _ = Data.cell v := z
      cases z'⟩
  keep := fun i h h' st k => k it (by simp) _ st
  item := by
    intro X hP hw hK hc i pins s σ H E I hf st hg
    subst hP hw hK
    obtain ⟨f0, f1, f2, f3, f4, f5⟩ := hf it (by simp)
    have W := Walks.range (prog := X.prog) (w := X.w) (I.ok.hd hc) it lo 1 n
    refine W.item i s _ _ hg st fun v h' tk hv st' kk => ?_
    obtain ⟨t, rfl⟩ := hv
    have I1 : Inv X pins σ H { s with heap := h', toks := tk } := I.turned (fun b o hb e => kk b o (by simpa using hb) e) f0 f1 f3 f4 f5
    refine ⟨_, rfl, go_of (s := { s with heap := h', toks := tk }) (n := "range_iterator") st' rfl rfl (by decide) ⟨.int (lo + i), H, I1, ⟨t, ?_⟩, ⟨rfl, rfl⟩, st', fun b hb => (hf b hb).1⟩⟩
    rw [Int.mul_one]
  done := by
    intro X hP hw hK hc i pins s σ H E I hf st hg
    subst hP hw hK
    obtain ⟨f0, f1, f2, f3, f4, f5⟩ := hf it (by simp)
    exact wpAny_pyNext_range_end (I.ok.hd hc) st (by have : n ≤ i := hg; omega) fun h' eb => ⟨rfl, I.turned (t' := s.toks) (fun b o hb e => eb b o hb e) f0 f1 f3 f4 f5⟩
  self := fun _ _ _ _ _ st h => wpAny_pyIter_rangeiter st h
end L2

namespace L2
open PySem PySem.Spec PyProof.Rows
section
variable {X : Cx} {tg : Expr}
def iList (K : PySem.W.Frag) (tl : TE) : TI := fun σ H R => tl σ H fun x H1 => ∃ a, x = .ref a ∧ (∃ xs, SqL K H1 a xs) ∧ R (Itl K a) H1
def iTup (K : PySem.W.Frag) (tl : TE) : TI := fun σ H R => tl σ H fun x H1 => ∃ a, x = .ref a ∧ (∃ xs, SqT K H1 a xs) ∧ R (Itt K a) H1
/-- a range object just made, walked -/
theorem range_it {pins : List (Addr × Obj)} {σ : St} {H : Hp} {s : Shared} {R : It → Hp → Prop} {E : Value → Shared → Prop} {lo hi : Int} {t u v : Tok} {tk : Nat} (I : Inv X pins σ H s) (h1 : -(2 ^ 62) ≤ lo) (h2 : lo < 2 ^ 62) (h3 : -(2 ^ 62) ≤ hi) (h4 : hi < 2 ^ 62)
    (q : R (Itr lo (hi - lo).toNat) H) : wpAny (model X.prog X.w) X.A (pyIter (.ref s.heap.objs.size)) (PIE X pins σ tg R) E { s with heap := s.heap.push { cls := .type "range", data := .fields #[.int lo t, .int hi u, .int 1 v] }, toks := tk } := by
  refine wpAny_pyIter_range (IsRange.new ..) (small_one h1 h2 h3 h4) ?_
  have I1 : Inv X pins σ H { s with heap := s.heap.push { cls := .type "range", data := .fields #[.int lo t, .int hi u, .int 1 v] }, toks := tk } := I.kept fun b o e => Heap.get?_push_of_some _ e
  refine ⟨(s.heap.push { cls := .type "range", data := .fields #[.int lo t, .int hi u, .int 1 v] }).objs.size, [(s.heap.push { cls := .type "range", data := .fields #[.int lo t, .int hi u, .int 1 v] }).objs.size], _, _, H, rfl,
    I1.kept (t' := tk) fun b o e => Heap.get?_push_of_some _ e, turn_range _ lo (hi - lo).toNat, ?_, fun b hb => ?_, q⟩
  · have e1 : lo + ((0 : Nat) : Int) * 1 = lo := by simp
    have e2 : (((hi - lo).toNat : Nat) : Int) - ((0 : Nat) : Int) = Builtin.Range.rangeSize lo hi 1 := by rw [rangeSize_one]; split <;> omega
    show IsRangeIter _ _ (lo + ((0 : Nat) : Int) * 1) ((((hi - lo).toNat : Nat) : Int) - ((0 : Nat) : Int)) 1
    rw [e1, e2]
    exact Heap.get?_push_size _ rfl
  · have e : b = (s.heap.push { cls := .type "range", data := .fields #[.int lo t, .int hi u, .int 1 v] }).objs.size := by simpa using hb
    subst e
    exact I1.fpOk (Nat.le_refl _) (I1.hok.fresh (Nat.le_refl _))
def iRng1 (ta : TA) : TI := fun σ H R => ta σ H fun vs H1 => ∃ j : Int, vs = [.int j] ∧ -(2 ^ 62) ≤ j ∧ j < 2 ^ 62 ∧ R (Itr 0 j.toNat) H1
def iRng2 (ta : TA) : TI := fun σ H R => ta σ H fun vs H1 => ∃ i j : Int, vs = [.int i, .int j] ∧ (-(2 ^ 62) ≤ i ∧ i < 2 ^ 62 ∧ -(2 ^ 62) ≤ j ∧ j < 2 ^ 62) ∧ R (Itr i (j - i).toNat) H1
theorem pi_range1 {a : Expr} {ta : TA} {p pos : Pos} (hg : Gl X "range") (hm : X.mg "range" = none) (ha : PA X [a] ta) (hs : starEach [a] X.env = [(false, eval a X.env)] := by rfl) : PI X tg (.Call (.Name "range" p) [a] [] pos) (iRng1 ta) := by
  intro pins s σ H R I h
  refine Call_ (ld_blt I hg hm boot_range (PyProof.Rows.callWith_type1 (thn (ha pos pins s σ H _ I h) fun us s1 ⟨vs, H1, I1, r1, q1⟩ => ?_) hs rfl))
  obtain ⟨j, e, q1, q2, q⟩ := q1
  subst e
  cases r1 with
  | cons r rr =>
    cases rr
    obtain ⟨t, rfl⟩ := r
    exact call_range_1 (range_it I1 (by omega) (by omega) q1 q2 (by simpa using q))

/-! ### for -/
/-- W: the invariant by the turn and a measure; N: what the body is to reach -/
def tFor (wi : TI) (g : TG) (tb : TS) : TS := fun D σ H => wi σ H fun J H1 => ∃ W : Nat → Nat → St → Hp → Prop, (∃ m, W 0 m σ H1) ∧ ∀ i m σ H, W i m σ H →
  (J.stop i H ∧ D.nx σ H) ∨ (J.go i H ∧ ∃ N : St → Hp → Prop, (∀ σ' H', N σ' H' → ∃ m', m' < m ∧ W (i + 1) m' σ' H') ∧ ∀ x H', J.yld i H x H' → g x σ H' fun σ2 H2 => tb { D with nx := N, ct := N, bk := D.nx } σ2 H2)
/-- the records at fp as they stand -/
def pinsAt (fp : List Addr) (h : Heap) : List (Addr × Obj) := fp.filterMap fun b => (h.get? b).map fun o => (b, o)
theorem mem_pinsAt {fp : List Addr} {h : Heap} {b : Addr} {o : Obj} (hb : b ∈ fp) (e : h.get? b = some o) : (b, o) ∈ pinsAt fp h := List.mem_filterMap.mpr ⟨b, hb, by rw [e]; rfl⟩
theorem of_pinsAt {fp : List Addr} {h : Heap} {p : Addr × Obj} (hp : p ∈ pinsAt fp h) : p.1 ∈ fp ∧ h.get? p.1 = some p.2 := by
  obtain ⟨b, hb, e⟩ := List.mem_filterMap.mp hp
  cases q : h.get? b with
  | none => rw [q] at e; cases e
  | some o =>
    rw [q] at e
    have e' : (b, o) = p := Option.some.inj e
    subst e'
    exact ⟨hb, q⟩
theorem Inv.pinned {pins : List (Addr × Obj)} {σ : St} {H : Hp} {s : Shared} {fp : List Addr} (I : Inv X pins σ H s) (hf : ∀ b ∈ fp, FpOk X pins H b) (ho : ∀ b ∈ fp, ∃ o, s.heap.get? b = some o ∧ ∀ v, o.data ≠ .cell v) : Inv X (pins ++ pinsAt fp s.heap) σ H s :=
  I.pins_of fun p hp => (List.mem_append.mp hp).elim (fun z => I.pin p (List.mem_append_right _ z)) fun z => by
    obtain ⟨hb, e⟩ := of_pinsAt z
    obtain ⟨f0, f1, f2, _⟩ := hf p.1 hb
    obtain ⟨o, e', d⟩ := ho p.1 hb
    rw [e] at e'; cases e'
    exact ⟨e, f0, f1, f2, d⟩
theorem Inv.unpinned {pins pl : List (Addr × Obj)} {σ : St} {H : Hp} {s : Shared} (I : Inv X (pins ++ pl) σ H s) : Inv X pins σ H s := I.pins_of fun p hp => I.pin p (List.mem_append_right _ (List.mem_append_left _ hp))
theorem ps_for {iter : Expr} {body : List Stmt} {wi : TI} {g : TG} {tb : TS} {pos : Pos} (hp : PassesOwn (model X.prog X.w) X.A X.env X.xe) (hc : X.calm = true) (hi : PI X tg iter wi) (hg : PG X tg g) (hb : PSs X body tb)
    (hs : ∀ x, foldedSetIterable iter X.env x = pure x := by intro _; rfl) : PS X (.For tg iter body [] pos) (tFor wi g tb) := by
  intro pins s σ H D I h
  refine wpAny_For (thn (hi pins s σ H _ I h) fun v s1 h1 => thn h1 fun itv s2 h2 => ?_) hs
  obtain ⟨it, fp, tn, J, H2, e, I2, T, st2, f2, W, ⟨m0, w0⟩, turn⟩ := h2
  subst e
  -- what stays true of the iterator's objects through the loop
  have stat : ∀ {H' : Hp}, (∀ b ∈ fp, H' b = none) → ∀ b ∈ fp, FpOk X pins H' b := fun hn b hb => ⟨hn b hb, (f2 b hb).2⟩
  refine codeAny_forLoop_any (fun n s' => ∃ i σ' H', Inv X pins σ' H' s' ∧ tn i s'.heap ∧ (∀ b ∈ fp, H' b = none) ∧ W i n σ' H') ?_ m0 ⟨0, σ, H2, I2, st2, fun b hb => (f2 b hb).1, w0⟩
  rintro n s3 ⟨i, σ3, H3, I3, st3, fr3, w3⟩
  rcases turn i n σ3 H3 w3 with ⟨stop, qn⟩ | ⟨go, N, hN, step⟩
  · refine wpAny_passesOwn hp (thn (T.done X rfl rfl rfl hc i pins s3 σ3 H3 X.xe I3 (stat fr3) st3 stop) fun r s4 ⟨hr, I4⟩ => ?_)
    subst hr
    exact wpAny_execs_nil ⟨σ3, H3, I4, qn⟩
  · refine wpAny_passesOwn hp (thn (T.item X rfl rfl rfl hc i pins s3 σ3 H3 X.xe I3 (stat fr3) st3 go) fun r s4 ⟨u, hr, h4⟩ => ?_)
    subst hr
    refine wpAny_passesOwn hp (thn h4 fun _ s5 ⟨x, H5, I5, r5, y5, st5, fr5⟩ => ?_)
    have I5' := I5.pinned (stat fr5) (T.obj _ _ st5)
    refine wpAny_passesOwn hp (thn (hg _ s5 σ3 H5 x u _ I5' r5 (step x H5 y5)) fun _ s6 ⟨σ6, H6, I6, q6⟩ => ?_)
    refine wpAny_passesOwn hp (thn (hb _ s6 σ6 H6 _ I6 q6) fun f s7 q7 => ?_)
    have again : ∀ {σ7 : St} {H7 : Hp}, Inv X (pins ++ pinsAt fp s5.heap) σ7 H7 s7 → N σ7 H7 → ∃ m, m < n ∧ ∃ i σ' H', Inv X pins σ' H' s7 ∧ tn i s7.heap ∧ (∀ b ∈ fp, H' b = none) ∧ W i m σ' H' := fun {σ7 H7} I7 n7 => by
      obtain ⟨m', hm, w7⟩ := hN σ7 H7 n7
      refine ⟨m', hm, i + 1, σ7, H7, I7.unpinned, T.keep _ _ _ st5 fun b hb o e => (I7.pin (b, o) (List.mem_append_right _ (List.mem_append_right _ (mem_pinsAt hb e)))).1, fun b hb => ?_, w7⟩
      obtain ⟨o, e, d⟩ := T.obj _ _ st5 b hb
      exact (I7.pin (b, o) (List.mem_append_right _ (List.mem_append_right _ (mem_pinsAt hb e)))).2.1
    cases f with
    | next => obtain ⟨σ7, H7, I7, n7⟩ := q7; exact again I7 n7
    | cont => obtain ⟨σ7, H7, I7, n7⟩ := q7; exact again I7 n7
    | brk => obtain ⟨σ7, H7, I7, q7⟩ := q7; exact ⟨σ7, H7, I7.unpinned, q7⟩
    | ret v => obtain ⟨x7, σ7, H7, I7, r7, q7⟩ := q7; exact ⟨x7, σ7, H7, I7.unpinned, r7, q7⟩
end

/-! ### the forms one uses -/
theorem for_range {lo : Int} {n : Nat} {g : TG} {tb : TS} {D : Ends} {σ : St} {H : Hp} (Pv : Nat → St → Hp → Prop) (h0 : Pv 0 σ H)
    (hs : ∀ i σ H, i < n → Pv i σ H → g (.int (lo + i)) σ H fun σ2 H2 => tb { D with nx := Pv (i + 1), ct := Pv (i + 1), bk := D.nx } σ2 H2) (hd : ∀ σ H, Pv n σ H → D.nx σ H) :
    ∃ W : Nat → Nat → St → Hp → Prop, (∃ m, W 0 m σ H) ∧ ∀ i m σ H, W i m σ H →
      ((Itr lo n).stop i H ∧ D.nx σ H) ∨ ((Itr lo n).go i H ∧ ∃ N : St → Hp → Prop, (∀ σ' H', N σ' H' → ∃ m', m' < m ∧ W (i + 1) m' σ' H') ∧ ∀ x H', (Itr lo n).yld i H x H' → g x σ H' fun σ2 H2 => tb { D with nx := N, ct := N, bk := D.nx } σ2 H2) := by
  refine ⟨fun i m σ H => m = n - i ∧ i ≤ n ∧ Pv i σ H, ⟨n, by simp, Nat.zero_le _, h0⟩, ?_⟩
  rintro i m σ H ⟨rfl, hi, p⟩
  by_cases hlt : i < n
  · refine .inr ⟨hlt, Pv (i + 1), fun σ' H' p' => ⟨n - (i + 1), by omega, rfl, hlt, p'⟩, fun x H' y => ?_⟩
    obtain ⟨e, y⟩ := y
    subst e y
    exact hs i σ _ hlt p
  · have e : i = n := by omega
    subst e
    exact .inl ⟨Nat.le_refl _, hd σ H p⟩
end L2

namespace L2
open PySem PySem.Spec PyProof.Rows

abbrev R2 := V → V → Hp → VK → Prop
/-- a two-place operation on values: f is binaryOp op, inplaceOp op or compareOp op -/
def OpR (X : Cx) (f : Value → Value → Sem Value) (r : R2) : Prop :=
  ∀ (pins : List (Addr × Obj)) (s : Shared) (σ : St) (H : Hp) (x y : V) (v u : Value) (Q : VK), Inv X pins σ H s → RelV x v → RelV y u → r x y H Q →
    wpAny (model X.prog X.w) X.A (f v u) (EP X pins σ Q) X.xe s
/-- a one-place operation -/
def UnR (X : Cx) (f : Value → Sem Value) (r : V → Hp → VK → Prop) : Prop :=
  ∀ (pins : List (Addr × Obj)) (s : Shared) (σ : St) (H : Hp) (x : V) (v : Value) (Q : VK), Inv X pins σ H s → RelV x v → r x H Q →
    wpAny (model X.prog X.w) X.A (f v) (EP X pins σ Q) X.xe s
/-- a call of a value that is known (a builtin, a type) with values -/
def CallR (X : Cx) (f : Value) (r : List V → Hp → VK → Prop) : Prop :=
  ∀ (pins : List (Addr × Obj)) (s : Shared) (σ : St) (H : Hp) (xs : List V) (us : List Value) (Q : VK), Inv X pins σ H s → Vals xs us → r xs H Q →
    wpAny (model X.prog X.w) X.A (call f us) (EP X pins σ Q) X.xe s
/-- a value's truth -/
def TruR (X : Cx) (r : V → Hp → (Bool → Hp → Prop) → Prop) : Prop :=
  ∀ (pins : List (Addr × Obj)) (s : Shared) (σ : St) (H : Hp) (x : V) (v : Value) (Q : Bool → Hp → Prop), Inv X pins σ H s → RelV x v → r x H Q →
    wpAny (model X.prog X.w) X.A (truthy v) (TP X pins σ Q) X.xe s

def tOp (r : R2) (ta tb : TE) : TE := fun σ H Q => ta σ H fun x H1 => tb σ H1 fun y H2 => r x y H2 Q
def tUn (r : V → Hp → VK → Prop) (ta : TE) : TE := fun σ H Q => ta σ H fun x H1 => r x H1 Q
/-- ints in, under C, and a value out -/
def rI (C : Int → Int → Prop) (g : Int → Int → V) : R2 := fun x y H Q => ∃ i j, x = .int i ∧ y = .int j ∧ C i j ∧ Q (g i j) H
def rI0 (g : Int → Int → V) : R2 := fun x y H Q => ∃ i j, x = .int i ∧ y = .int j ∧ Q (g i j) H
def rU (g : Int → V) : V → Hp → VK → Prop := fun x H Q => ∃ i, x = .int i ∧ Q (g i) H

section
variable {X : Cx} {a b c : Expr} {ta tb tc : TE} {pos : Pos}

theorem binT (ha : PE X a ta) (hb : PE X b tb) {pins : List (Addr × Obj)} {s : Shared} {σ : St} {H : Hp} {R : V → V → Hp → Prop} (I : Inv X pins σ H s)
    (h : ta σ H fun x H1 => tb σ H1 fun y H2 => R x y H2) {Q : Value → Shared → Prop} {f : Value → Value → Sem Value}
    (hf : ∀ v u s2 x y H2, Inv X pins σ H2 s2 → RelV x v → RelV y u → R x y H2 → wpAny (model X.prog X.w) X.A (f v u) Q X.xe s2) :
    wpAny (model X.prog X.w) X.A (eval a X.env) (fun v s₁ => wpAny (model X.prog X.w) X.A (eval b X.env) (fun u s₂ => wpAny (model X.prog X.w) X.A (f v u) Q X.xe s₂) X.xe s₁) X.xe s := by
  refine thn (ha pins s σ H _ I h) fun v s1 ⟨x, H1, I1, r1, q1⟩ => ?_
  refine thn (hb pins s1 σ H1 _ I1 q1) fun u s2 ⟨y, H2, I2, r2, q2⟩ => ?_
  exact hf v u s2 x y H2 I2 r1 r2 q2

theorem pe_op {op : Operator} {r : R2} (ho : OpR X (binaryOp op) r) (ha : PE X a ta) (hb : PE X b tb) : PE X (.BinOp a op b pos) (tOp r ta tb) := by
  intro pins s σ H Q I h
  exact wpAny_BinOp (binT ha hb I h fun v u s2 x y H2 I2 rx ry q => ho pins s2 σ H2 x y v u Q I2 rx ry q)
theorem pe_un {op : UnaryOp} {r : V → Hp → VK → Prop} (ho : UnR X (unaryOp op) r) (ha : PE X a ta) : PE X (.UnaryOp op a pos) (tUn r ta) := by
  intro pins s σ H Q I h
  exact UnaryOp_ (thn (ha pins s σ H _ I h) fun v s1 ⟨x, H1, I1, r1, q1⟩ => ho pins s1 σ H1 x v Q I1 r1 q1)

/-! ### ints -/
theorem opI {f : Value → Value → Sem Value} {C : Int → Int → Prop} {g : Int → Int → Int}
    (rule : ∀ (i j : Int) (t u : Tok) (s : Shared) (Q : Value → Shared → Prop) (E : Value → Shared → Prop), C i j → Q (.int (g i j) s.toks) { s with toks := s.toks + 1 } → wpAny (model X.prog X.w) X.A (f (.int i t) (.int j u)) Q E s) :
    OpR X f (rI C fun i j => .int (g i j)) := by
  intro pins s σ H x y v u Q I rx ry h
  obtain ⟨i, j, rfl, rfl, hc, q⟩ := h
  obtain ⟨t, rfl⟩ := rx
  obtain ⟨t', rfl⟩ := ry
  exact rule i j t t' s _ _ hc ⟨.int (g i j), H, I.tok _, ⟨_, rfl⟩, q⟩
theorem opI0 {f : Value → Value → Sem Value} {g : Int → Int → Int}
    (rule : ∀ (i j : Int) (t u : Tok) (s : Shared) (Q : Value → Shared → Prop) (E : Value → Shared → Prop), Q (.int (g i j) s.toks) { s with toks := s.toks + 1 } → wpAny (model X.prog X.w) X.A (f (.int i t) (.int j u)) Q E s) :
    OpR X f (rI0 fun i j => .int (g i j)) := by
  intro pins s σ H x y v u Q I rx ry h
  obtain ⟨i, j, rfl, rfl, q⟩ := h
  obtain ⟨t, rfl⟩ := rx
  obtain ⟨t', rfl⟩ := ry
  exact rule i j t t' s _ _ ⟨.int (g i j), H, I.tok _, ⟨_, rfl⟩, q⟩
theorem opB0 {f : Value → Value → Sem Value} {g : Int → Int → Bool}
    (rule : ∀ (i j : Int) (t u : Tok) (s : Shared) (Q : Value → Shared → Prop) (E : Value → Shared → Prop), Q (.bool (g i j)) s → wpAny (model X.prog X.w) X.A (f (.int i t) (.int j u)) Q E s) :
    OpR X f (rI0 fun i j => .bl (g i j)) := by
  intro pins s σ H x y v u Q I rx ry h
  obtain ⟨i, j, rfl, rfl, q⟩ := h
  obtain ⟨t, rfl⟩ := rx
  obtain ⟨t', rfl⟩ := ry
  exact rule i j t t' s _ _ ⟨.bl (g i j), H, I, rfl, q⟩

def CDiv (i j : Int) : Prop := 0 < j ∧ j < 1073741824
def CDivN (i j : Int) : Prop := j ≠ 0 ∧ j.natAbs < 1073741824
def CPow (i j : Int) : Prop := 0 ≤ j ∧ j ≤ 1000000 ∧ i.natAbs < 2 ^ 64
def CMul (i j : Int) : Prop := (-(2 ^ 64) < i ∧ i < 2 ^ 64) ∨ (-(2 ^ 64) < j ∧ j < 2 ^ 64)
theorem CMul.ok {i j : Int} (h : CMul i j) : IntMulOk i j := by
  rcases h with ⟨h1, h2⟩ | ⟨h1, h2⟩
  · exact .of_left (intBits_le_64 h1 h2)
  · exact .of_right (intBits_le_64 h1 h2)

theorem op_add : OpR X (binaryOp .Add) (rI0 fun i j => .int (i + j)) := opI0 fun _ _ _ _ _ _ _ q => add_int q
theorem op_sub : OpR X (binaryOp .Sub) (rI0 fun i j => .int (i - j)) := opI0 fun _ _ _ _ _ _ _ q => sub_int q
theorem op_modN : OpR X (binaryOp .Mod) (rI (fun _ j => j ≠ 0) fun i j => .int (i.fmod j)) := opI fun _ _ _ _ _ _ _ hc q => mod_int' hc q
theorem op_pow : OpR X (binaryOp .Pow) (rI CPow fun i j => .int (i ^ j.toNat)) := opI fun _ _ _ _ _ _ _ hc q => pow_int_small hc.1 hc.2.1 hc.2.2 q


theorem unI {f : Value → Sem Value} {g : Int → Int}
    (rule : ∀ (i : Int) (t : Tok) (s : Shared) (Q : Value → Shared → Prop) (E : Value → Shared → Prop), Q (.int (g i) s.toks) { s with toks := s.toks + 1 } → wpAny (model X.prog X.w) X.A (f (.int i t)) Q E s) :
    UnR X f (rU fun i => .int (g i)) := by
  intro pins s σ H x v Q I rx h
  obtain ⟨i, rfl, q⟩ := h
  obtain ⟨t, rfl⟩ := rx
  exact rule i t s _ _ ⟨.int (g i), H, I.tok _, ⟨_, rfl⟩, q⟩
theorem un_neg : UnR X (unaryOp .USub) (rU fun i => .int (-i)) := unI fun _ _ _ _ _ q => neg_int q

/-! ### bools among ints: n += (a < b) -/
end

/-! ### comparisons -/
/-- the scalars that == tells apart as data does -/
def scal : V → V → Bool
  | .non, .non => true | .non, .int _ => true | .int _, .non => true | .non, .bl _ => true | .bl _, .non => true | .non, .str _ => true | .str _, .non => true
  | .int _, .int _ => true | .bl _, .bl _ => true | .str _, .str _ => true | .byt _, .byt _ => true
  | .int _, .str _ => true | .str _, .int _ => true | .bl _, .str _ => true | .str _, .bl _ => true
  | _, _ => false
def rEq : R2 := fun x y H Q => scal x y = true ∧ Q (.bl (decide (x = y))) H
def rNe : R2 := fun x y H Q => scal x y = true ∧ Q (.bl (!decide (x = y))) H


section
variable {X : Cx} {a b c : Expr} {ta tb tc : TE} {pos : Pos}

theorem op_lt : OpR X (compareOp .Lt) (rI0 fun i j => .bl (decide (i < j))) := opB0 fun _ _ _ _ _ _ _ q => lt_int q
theorem op_le : OpR X (compareOp .LtE) (rI0 fun i j => .bl (decide (i ≤ j))) := opB0 fun _ _ _ _ _ _ _ q => le_int q
theorem op_gt : OpR X (compareOp .Gt) (rI0 fun i j => .bl (decide (j < i))) := opB0 fun _ _ _ _ _ _ _ q => gt_int q
theorem op_ge : OpR X (compareOp .GtE) (rI0 fun i j => .bl (decide (j ≤ i))) := opB0 fun _ _ _ _ _ _ _ q => ge_int q


/-- is, is not of two objects that are tracked lists or instances -/
def isObj : HO → Bool
  | .lst _ => true
  | .ins _ _ _ => true
  | _ => false

/-- two rules for one operation: by cases -/
theorem OpR.or {f : Value → Value → Sem Value} {r r' : R2} (h : OpR X f r) (h' : OpR X f r') : OpR X f (fun x y H Q => r x y H Q ∨ r' x y H Q) := by
  intro pins s σ H x y v u Q I rx ry q
  rcases q with q | q
  · exact h pins s σ H x y v u Q I rx ry q
  · exact h' pins s σ H x y v u Q I rx ry q

theorem nomark (b : Expr) {op : CmpOp} (h : op ≠ .In := by decide) (h2 : op ≠ .NotIn := by decide) : behindInMarks op b = false := by
  have e1 : (op == CmpOp.In) = false := by cases op <;> first | rfl | exact absurd rfl h
  have e2 : (op == CmpOp.NotIn) = false := by cases op <;> first | rfl | exact absurd rfl h2
  cases b <;> simp [behindInMarks, e1, e2]
/-- a comparison as a value; hm: nomark b, or (for in, not in) by with_unfolding_all rfl -/
theorem pe_cmpR {op : CmpOp} {r : R2} (ho : OpR X (compareOp op) r) (ha : PE X a ta) (hb : PE X b tb) (hm : behindInMarks op b = false) : PE X (.Compare a [op] [b] pos) (tOp r ta tb) := by
  intro pins s σ H Q I h
  exact wpAny_Compare1 (binT ha hb I h fun v u s2 x y H2 I2 rx ry q => ho pins s2 σ H2 x y v u Q I2 rx ry q) hm
/-- a reading of a value as a test -/
def tTest (t : TE) : TT := fun σ H Q => t σ H fun x H' => ∃ k, x = .bl k ∧ Q k H'
theorem pt_cmpR {op : CmpOp} {r : R2} (ho : OpR X (compareOp op) r) (ha : PE X a ta) (hb : PE X b tb) (hm : behindInMarks op b = false) : PT X (.Compare a [op] [b] pos) (tTest (tOp r ta tb)) := by
  intro pins s σ H Q I h
  refine wpAny_isTrue_Compare1 (thn (ha pins s σ H _ I h) fun v s1 ⟨x, H1, I1, r1, q1⟩ => thn (hb pins s1 σ H1 _ I1 q1) fun u s2 ⟨y, H2, I2, r2, q2⟩ =>
    thn (ho pins s2 σ H2 x y v u _ I2 r1 r2 q2) fun c s3 ⟨z, H3, I3, r3, k, e, q3⟩ => ?_) hm
  subst e
  cases r3
  exact wpAny_truthy_bool ⟨H3, I3, q3⟩
/-- a op1 b op2 c -/
def tChain (r r' : R2) (ta tb tc : TE) : TE := fun σ H Q => ta σ H fun x H1 => tb σ H1 fun y H2 => r x y H2 fun z H3 => ∃ k, z = .bl k ∧
  (if k = true then tc σ H3 fun w' H4 => r' y w' H4 Q else Q (.bl false) H3)
theorem pe_chain {op op' : CmpOp} {r r' : R2} (ho : OpR X (compareOp op) r) (ho' : OpR X (compareOp op') r') (ha : PE X a ta) (hb : PE X b tb) (hc : PE X c tc)
    (hm : lastMarks [op, op'] [b, c] = false := by with_unfolding_all rfl) : PE X (.Compare a [op, op'] [b, c] pos) (tChain r r' ta tb tc) := by
  intro pins s σ H Q I h
  refine Compare_chain (thn (ha pins s σ H _ I h) fun v s1 ⟨x, H1, I1, r1, q1⟩ => chain_link (thn (hb pins s1 σ H1 _ I1 q1) fun u s2 ⟨y, H2, I2, r2, q2⟩ =>
    thn (ho pins s2 σ H2 x y v u _ I2 r1 r2 q2) fun d s3 ⟨z, H3, I3, r3, k, e, q3⟩ => ?_)) hm
  subst e
  cases r3
  refine wpAny_truthy_bool ?_
  cases k with
  | false => exact ite_ff ⟨.bl false, H3, I3, rfl, q3⟩
  | true => exact ite_tt (chain_last (thn (hc pins s3 σ H3 _ I3 q3) fun w' s4 ⟨z', H4, I4, r4, q4⟩ => ho' pins s4 σ H4 y z' u w' Q I4 r2 r4 q4))

/-! ### truth -/
/-- a value's truth by the abstract heap -/
def TruV (K : PySem.W.Frag) (x : V) (H : Hp) (k : Bool) : Prop :=
  match x with
  | .non => k = false
  | .bl b => k = b
  | .int i => k = (i != 0)
  | .str y => y.length ≤ sizeLine ∧ k = ((y.length : Int) != 0)
  | .byt y => y.size ≤ sizeLine ∧ k = ((y.size : Int) != 0)
  | .ref p => (∃ xs, SqL K H p xs ∧ k = !xs.isEmpty) ∨ (∃ xs, SqT K H p xs ∧ k = !xs.isEmpty) ∨ ∃ kvs, H p = some (.dK kvs) ∧ k = !kvs.isEmpty
  | _ => False
theorem line63 : (sizeLine : Nat) < 2 ^ 63 := by rw [sizeLine_eq]; decide

/-! ### strs and bytes -/

def PlainIxT (b : Expr) : Prop := ∀ o i, subscripted b false o i = operate [o, i] (getItem o i)

/-! ### scalar builtins, by CallR -/
theorem vals1 {x : V} {us : List Value} (r : Vals [x] us) : ∃ u, us = [u] ∧ RelV x u := by
  cases r with
  | cons r1 r2 => cases r2; exact ⟨_, rfl, r1⟩
theorem vals2 {x y : V} {us : List Value} (r : Vals [x, y] us) : ∃ u w', us = [u, w'] ∧ RelV x u ∧ RelV y w' := by
  cases r with
  | cons r1 r2 =>
    cases r2 with
    | cons r3 r4 => cases r4; exact ⟨_, _, rfl, r1, r3⟩
theorem call_abs : CallR X (.builtin "abs") (fun xs H Q => ∃ i, xs = [.int i] ∧ Q (.int (if i < 0 then -i else i)) H) := by
  intro pins s σ H xs us Q I r h
  obtain ⟨i, rfl, q⟩ := h
  obtain ⟨u, rfl, t, rfl⟩ := vals1 r
  exact call_abs_int fun u tk => ⟨.int (if i < 0 then -i else i), H, I.tok _, ⟨_, rfl⟩, q⟩
theorem call_max2 (hc : X.calm = true) : CallR X (.builtin "max") (fun xs H Q => ∃ i j, xs = [.int i, .int j] ∧ Q (.int (if j > i then j else i)) H) := by
  intro pins s σ H xs us Q I r h
  obtain ⟨i, j, rfl, q⟩ := h
  obtain ⟨u, w', rfl, ⟨t, rfl⟩, ⟨t', rfl⟩⟩ := vals2 r
  refine max_two_ints (I.ok.hd hc) fun h' tk k => ⟨_, H, I.kept k, ?_, q⟩
  by_cases hj : j > i
  · rw [if_pos hj, if_pos hj]; exact ⟨_, rfl⟩
  · rw [if_neg hj, if_neg hj]; exact ⟨_, rfl⟩
theorem call_min2 (hc : X.calm = true) : CallR X (.builtin "min") (fun xs H Q => ∃ i j, xs = [.int i, .int j] ∧ Q (.int (if j < i then j else i)) H) := by
  intro pins s σ H xs us Q I r h
  obtain ⟨i, j, rfl, q⟩ := h
  obtain ⟨u, w', rfl, ⟨t, rfl⟩, ⟨t', rfl⟩⟩ := vals2 r
  refine min_two_ints (I.ok.hd hc) fun h' tk k => ⟨_, H, I.kept k, ?_, q⟩
  by_cases hj : j < i
  · rw [if_pos hj, if_pos hj]; exact ⟨_, rfl⟩
  · rw [if_neg hj, if_neg hj]; exact ⟨_, rfl⟩
theorem call_int1 : CallR X (.type "int") (fun xs H Q => (∃ i, xs = [.int i] ∧ Q (.int i) H) ∨ ∃ k, xs = [.bl k] ∧ Q (.int (if k then 1 else 0)) H) := by
  intro pins s σ H xs us Q I r h
  rcases h with ⟨i, rfl, q⟩ | ⟨k, rfl, q⟩
  · obtain ⟨u, rfl, t, rfl⟩ := vals1 r
    exact call_int_int ⟨.int i, H, I, ⟨_, rfl⟩, q⟩
  · obtain ⟨u, rfl, r1⟩ := vals1 r
    cases r1
    exact call_int_bool ⟨.int (if k then 1 else 0), H, I.tok _, ⟨_, rfl⟩, q⟩
/-- len of a str, a bytes, a list, a tuple -/
def LenV (K : PySem.W.Frag) (x : V) (H : Hp) (n : Nat) : Prop :=
  match x with
  | .str y => y.length ≤ sizeLine ∧ n = y.length
  | .byt y => y.size ≤ sizeLine ∧ n = y.size
  | .ref p => (∃ xs, SqL K H p xs ∧ n = xs.length) ∨ ∃ xs, SqT K H p xs ∧ n = xs.length
  | _ => False
end
end L2

namespace L2
open PySem PySem.Spec PyProof.Rows

/-! ### an instance, its attributes a map -/
structure ObjM (h : Heap) (x dx C : Addr) (mA : Str → Option Value) : Prop where
  obj : h.get? x = some (PySem.W.instObj C dx)
  ns : h.Ns1 dx mA
  ne : dx ≠ x



section
variable {prog : Program} {w : World} {A : Around} {E : Value → Shared → Prop} {s : Shared} {K : PySem.W.Frag} {x dx C f : Addr} {mA : Str → Option Value} {name : Str} {v : Value}





end

/-! ### the attributes as a list of pairs -/
def putF (f : Str) (v : V) : List (Str × V) → List (Str × V)
  | [] => [(f, v)]
  | (g, x) :: r => if g = f then (g, v) :: r else (g, x) :: putF f v r


section
variable {P : Program} {w : World} {H H' : Hp} {h h' : Heap} {a C dx : Addr} {fs fs' : List (Str × V)}
end

/-! ### what of the text a class must have -/
structure Cls (K : PySem.W.Frag) (C : Addr) : Prop where
  pg : PySem.W.plainGet K C Str.empty = true
  hd : PySem.W.hasDictIn K C = true
  po : PySem.W.plainOver K C = true
  sa : PySem.W.findIn K (.ref C) "__setattr__" = some (some (.builtin "object.__setattr__"))
theorem Cls.get {K : PySem.W.Frag} {C : Addr} (c : Cls K C) (f : Str) : PySem.W.plainGet K C f = true := c.pg
/-- no class of it has the name -/
def NoAttr (K : PySem.W.Frag) (C : Addr) (f : Str) : Prop := PySem.W.findIn K (.ref C) f = some none
/-- a constant of the class -/
structure Con (K : PySem.W.Frag) (C : Addr) (f : Str) (v : V) (u : Value) : Prop where
  at_ : PySem.W.findIn K (.ref C) f = some (some u)
  rel : RelV v u
  get : PySem.W.specialIn K u "__get__" = some none
  cp : PySem.W.copiedNames.contains f = false
/-- a method: a plain def of the class or of one above it -/
structure Meth (K : PySem.W.Frag) (C : Addr) (m : Str) (f : Addr) : Prop where
  at_ : PySem.W.findIn K (.ref C) m = some (some (.ref f))
  fn : PySem.W.isFn K (.ref f) = true
  kp : PySem.W.keepIn K (.ref f) = true

section
variable {X : Cx} {pins : List (Addr × Obj)} {σ : St} {H : Hp} {s : Shared} {a C dx : Addr} {fs : List (Str × V)} {f : Str} {v : V} {A : Around} {E : Value → Shared → Prop}





/-- a new instance, tracked, without attributes -/
theorem Inv.made (I : Inv X pins σ H s) : Inv X pins σ (upd (upd H s.heap.objs.size (.own (s.heap.objs.size + 1))) (s.heap.objs.size + 1) (.ins C s.heap.objs.size []))
    { s with heap := (s.heap.push PySem.W.emptyDict).push (PySem.W.instObj C s.heap.objs.size) } := by
  have e1 : (s.heap.push PySem.W.emptyDict).get? s.heap.objs.size = some PySem.W.emptyDict := Heap.get?_push_size s.heap rfl
  have e2 : ((s.heap.push PySem.W.emptyDict).push (PySem.W.instObj C s.heap.objs.size)).get? (s.heap.objs.size + 1) = some (PySem.W.instObj C s.heap.objs.size) := by
    have := Heap.get?_push_size (s.heap.push PySem.W.emptyDict) (o := PySem.W.instObj C s.heap.objs.size) rfl
    rwa [Heap.size_push] at this
  have e3 : (s.heap.push PySem.W.emptyDict).Ns s.heap.objs.size (fun _ => none) := ⟨PySem.W.emptyDict, #[], _, e1, rfl, (fun e he => absurd he (by simp)), fun _ => rfl⟩
  have I1 := I.laid (a := s.heap.objs.size) (o := .own (s.heap.objs.size + 1)) (h' := s.heap.push PySem.W.emptyDict) (t' := s.toks) (fun b u q => Heap.get?_push_of_some _ q) (Nat.le_refl _) ⟨_, e1⟩
  refine I1.laid (a := s.heap.objs.size + 1) (o := .ins C s.heap.objs.size []) (t' := s.toks) (fun b u q => Heap.get?_push_of_some _ q) (Nat.le_of_eq (Heap.size_push _ _)) ?_
  have ne : s.heap.objs.size ≠ s.heap.objs.size + 1 := Nat.ne_of_lt (Nat.lt_succ_self _)
  refine ⟨by rw [upd_ne ne, upd_same], Nat.zero_le _, ne, e2, fun _ => none, (Heap.Ns1.of_empty e3).at fun o q => Heap.get?_push_of_some _ q, fun _ => True.intro, fun y hy => absurd rfl hy⟩

end

/-! ### readings and rules -/
/-- e.f, an attribute of the instance -/
def tFld (K : PySem.W.Frag) (ta : TE) (f : Str) : TE := fun σ H Q => ta σ H fun x H1 => ∃ a C dx fs v, x = .ref a ∧ H1 a = some (.ins C dx fs) ∧ Cls K C ∧ NoAttr K C f ∧ fs.lookup f = some v ∧ Q v H1
/-- e.f, a constant of the class -/
def tCon (K : PySem.W.Frag) (ta : TE) (f : Str) : TE := fun σ H Q => ta σ H fun x H1 => ∃ a C dx fs v u, x = .ref a ∧ H1 a = some (.ins C dx fs) ∧ Cls K C ∧ Con K C f v u ∧ fs.lookup f = none ∧ Q v H1
/-- e.f = value -/
def sFld (K : PySem.W.Frag) (ta tv : TE) (f : Str) : TS := fun D σ H => tv σ H fun y H1 => ta σ H1 fun x H2 => ∃ a C dx fs, x = .ref a ∧ H2 a = some (.ins C dx fs) ∧ Cls K C ∧ NoAttr K C f ∧ fs.length < 1000 ∧
  D.nx σ (upd H2 a (.ins C dx (putF f y fs)))
/-- an augmented operator on two values -/
def InOp (X : Cx) (op : Operator) (rd : V → V → Hp → VK → Prop) : Prop :=
  ∀ (pins : List (Addr × Obj)) (s : Shared) (σ : St) (H : Hp) (x y : V) (u v : Value) (Q : VK), Inv X pins σ H s → RelV x u → RelV y v → rd x y H Q → wpAny (model X.prog X.w) X.A (inplaceOp op u v) (EP X pins σ Q) X.xe s
/-- e.f op= value -/
def sFldAug (K : PySem.W.Frag) (ta tv : TE) (rd : V → V → Hp → VK → Prop) (f : Str) : TS := fun D σ H => ta σ H fun x H1 => ∃ a C dx fs v, x = .ref a ∧ H1 a = some (.ins C dx fs) ∧ Cls K C ∧ NoAttr K C f ∧ fs.lookup f = some v ∧
  tv σ H1 fun y H2 => rd v y H2 fun z H3 => ∃ dx' fs', H3 a = some (.ins C dx' fs') ∧ fs'.length < 1000 ∧ D.nx σ (upd H3 a (.ins C dx' (putF f z fs')))

section
variable {X : Cx} {o e value : Expr} {f : Str} {pos pos' tpos : Pos} {ta tv : TE}
def rAdd : V → V → Hp → VK → Prop := fun x y H Q => ∃ i j, x = .int i ∧ y = .int j ∧ Q (.int (i + j)) H
def rSub : V → V → Hp → VK → Prop := fun x y H Q => ∃ i j, x = .int i ∧ y = .int j ∧ Q (.int (i - j)) H

end

/-! ### isinstance -/
section
variable {X : Cx} {pins : List (Addr × Obj)} {σ : St} {H : Hp} {s : Shared} {A : Around} {E : Value → Shared → Prop} {Q : Value → Shared → Prop} {c : Value} {b : Bool}
/-- the type of a value, as the fragment's deciders take it; for an instance its class -/
inductive TyOf (K : PySem.W.Frag) (H : Hp) : V → Value → Prop where
  | non : TyOf K H .non (.type "NoneType")
  | bl (x : Bool) : TyOf K H (.bl x) (.type "bool")
  | int (i : Int) : TyOf K H (.int i) (.type "int")
  | str (x : Str) : TyOf K H (.str x) (.type "str")
  | flt (x : UInt64) : TyOf K H (.flt x) (.type "float")
  | lst {a : Addr} {xs : List V} (e : H a = some (.lst xs)) : TyOf K H (.ref a) (.type "list")
  | frz {a : Addr} {o : Obj} {xs : List V} (e : H a = some (.frz o (.lst xs))) : TyOf K H (.ref a) (.type "list")
  | tup {a : Addr} {xs : List V} (e : H a = some (.tup xs)) : TyOf K H (.ref a) (.type "tuple")
  | dK {a : Addr} {kvs : List (Key × V)} (e : H a = some (.dK kvs)) : TyOf K H (.ref a) (.type "dict")
  | dT {a : Addr} {kvs : List (List Key × V)} (e : H a = some (.dT kvs)) : TyOf K H (.ref a) (.type "dict")
  | ins {a C dx : Addr} {fs : List (Str × V)} (e : H a = some (.ins C dx fs)) (cl : Cls K C) (ha : PySem.W.findIn K (.ref C) "__class__" = some (some (.builtin "object.__class__")))
      (hn : PySem.W.specialIn K (.builtin "object.__class__") "__get__" = some (some (.builtin "getset_descriptor.__get__"))) (htk : PySem.W.takesIn K (.builtin "object.__class__") = some true)
      (hm : PySem.W.mroIn K C (.type "object") = some true) : TyOf K H (.ref a) (.ref C)
end
end L2

namespace L2
open PySem PySem.Spec PyProof.Rows

/-! ### room -/
structure Room (k : Nat) (A : Around) : Prop where
  hd : A.handled = none
  dp : A.depth + 3 * k + 5 < recursionLimit
  un : A.units + 16 * k + 200 < cLine
theorem Room.mono {j k : Nat} {A : Around} (r : Room k A) (h : j ≤ k) : Room j A := ⟨r.hd, by have := r.dp; omega, by have := r.un; omega⟩
theorem Room.deeper {k : Nat} {A : Around} (r : Room (k + 1) A) (env : Env) : Room k (A.deeper env) :=
  ⟨r.hd, by have := r.dp; show A.depth + 1 + 3 * k + 5 < _; omega, by have := r.un; show A.units + 3 + 16 * k + 200 < _; omega⟩
theorem Room.in1 {k : Nat} {A : Around} (r : Room (k + 1) A) : Room k A.in1 :=
  ⟨r.hd, by have := r.dp; show A.depth + 3 * k + 5 < _; omega, by have := r.un; show A.units + 1 + 16 * k + 200 < _; omega⟩
theorem Room.depth {k : Nat} {A : Around} (r : Room k A) : A.depth < recursionLimit := by have := r.dp; omega
theorem Room.units {k : Nat} {A : Around} (r : Room k A) : A.units + 64 < cLine := by have := r.un; omega

/-! ### argument lists and displays -/
def tNil : TA := fun _ H Q => Q [] H
def tCons (ta : TE) (tr : TA) : TA := fun σ H Q => ta σ H fun x H1 => tr σ H1 fun xs H2 => Q (x :: xs) H2
section
variable {X : Cx} {e : Expr} {es : List Expr} {te : TE} {t : TA} {pos : Pos}
theorem pa_nil : PA X [] tNil := fun _ _ _ _ H Q I h => Calls.spliced_nil ⟨[], H, I, .nil, h⟩
theorem pa_cons (ha : PE X e te) (hr : PA X es t) (hs : starEach (e :: es) X.env = (false, eval e X.env) :: starEach es X.env := by rfl) : PA X (e :: es) (tCons te t) := by
  intro pos pins s σ H Q I h
  rw [hs]
  show wpAny _ _ (spliced ((false, eval e X.env) :: backTo pos (starEach es X.env))) _ _ s
  refine Calls.spliced_cons (thn (ha pins s σ H _ I h) fun u s1 ⟨x, H1, I1, r1, q1⟩ => ?_)
  exact thn (hr pos pins s1 σ H1 _ I1 q1) fun us s2 ⟨xs, H2, I2, r2, q2⟩ => ⟨x :: xs, H2, I2, .cons r1 r2, q2⟩

/-- a tuple, a list of written items -/
def tTup (t : TA) : TE := fun σ H Q => t σ H fun xs H1 => xs.length ≤ sizeLine ∧ ∀ p, H1 p = none → Q (.ref p) (upd H1 p (.tup xs))
def tLst (t : TA) : TE := fun σ H Q => t σ H fun xs H1 => xs.length ≤ sizeLine ∧ ∀ p, H1 p = none → Q (.ref p) (upd H1 p (.lst xs))
theorem pe_tup {x1} (h : PA X es t) : PE X (.Tuple es x1 pos) (tTup t) := by
  intro pins s σ H Q I hq
  refine wpAny_Tuple_spliced (thn (h pos pins s σ H _ I hq) fun us s1 ⟨xs, H1, I1, r, z, q⟩ => ⟨by rw [← r.length]; exact z, ?_⟩)
  have hf : H1 s1.heap.objs.size = none := I1.hok.fresh (Nat.le_refl _)
  refine ⟨.ref s1.heap.objs.size, upd H1 s1.heap.objs.size (.tup xs), I1.laid (t' := s1.toks) (fun b u e => Heap.get?_push_of_some _ e) (Nat.le_refl _) ?_, rfl, q _ hf⟩
  exact ⟨z, us, r, ⟨_, Heap.get?_push_size _ rfl, rfl, _, rfl⟩⟩
theorem pe_lst (h : PA X es t) : PE X (.List es pos) (tLst t) := by
  intro pins s σ H Q I hq
  refine wpAny_List_spliced (thn (h pos pins s σ H _ I hq) fun us s1 ⟨xs, H1, I1, r, z, q⟩ => ⟨by rw [← r.length]; exact z, ?_⟩)
  have hf : H1 s1.heap.objs.size = none := I1.hok.fresh (Nat.le_refl _)
  refine ⟨.ref s1.heap.objs.size, upd H1 s1.heap.objs.size (.lst xs), I1.laid (t' := s1.toks) (fun b u e => Heap.get?_push_of_some _ e) (Nat.le_refl _) ?_, rfl, q _ hf⟩
  exact ⟨z, us, 0, r, Heap.get?_push_size _ rfl⟩
end

/-! ### what a def promises -/
/-- a def's promise: the bound arguments in the parameters' order, the heap, the wanted end, the wanted exception -/
abbrev Sp := List V → Hp → VK → XK → Prop
/-- how an exception lies behind a call (file 08 gives it): the callers' frames, abstract heap and state ahead of the call, the wish, the exception, the state -/
abbrev CXT := List Env → Hp → Shared → XK → Value → Shared → Prop

/-- the state at a call -/
structure Env0 (P : Program) (w : World) (K : PySem.W.Frag) (mg : Str → Option Value) (base : Heap) (A : Around) (outer : List Env) (s : Shared) (H : Hp) : Prop where
  frames : A.frames = some outer
  mod : Mod K mg base
  bs : ∀ b o, base.get? b = some o → s.heap.get? b = some o ∧ H b = none
  bsz : base.objs.size ≤ s.heap.objs.size
  funs : s.heap.FunFrames base outer
  frf : ∀ b ∈ frs outer, H b = none
  hok : HOk P w H s.heap
  bare : AllBare s.gens
/-- a call's end -/
def CE (outer : List Env) (P : Program) (w : World) (H : Hp) (s : Shared) (Q : VK) (u : Value) (s' : Shared) : Prop :=
  ∃ v H', s'.os = s.os ∧ AllBare s'.gens ∧ Un (frs outer) [] H H' s.heap s'.heap ∧ HOk P w H' s'.heap ∧ RelV v u ∧ Q v H'
def CR (CX : CXT) (outer : List Env) (P : Program) (w : World) (H : Hp) (s : Shared) (Q : VK) (E : XK) (r : Result) (s' : Shared) : Prop :=
  match r with
  | .ok (.ret u) => CE outer P w H s Q u s'
  | .ok _ => False
  | .error e => CX outer H s E e s'
structure FnOk (P : Program) (w : World) (K : PySem.W.Frag) (mg : Str → Option Value) (base : Heap) (CX : CXT) (k : Nat) (f : Addr) (fd : FuncData) (ps : List Str) (sp : Sp) : Prop where
  len : ∀ vs H Q E, sp vs H Q E → vs.length = ps.length
  run : ∀ (A : Around) (outer : List Env) (s : Shared) (H : Hp) (args : Args) (us : List Value) (vs : List V) (Q : VK) (E : XK), Room k A → Env0 P w K mg base A outer s H → BindsTo s fd args (ps.zip us) → Vals vs us → sp vs H Q E →
    codeAny (model P w) A (.call (.ref f) args) (CR CX outer P w H s Q E) s
theorem FnOk.mono {P : Program} {w : World} {K : PySem.W.Frag} {mg : Str → Option Value} {base : Heap} {CX : CXT} {j k : Nat} {f : Addr} {fd : FuncData} {ps : List Str} {sp : Sp} (F : FnOk P w K mg base CX j f fd ps sp) (h : j ≤ k) :
    FnOk P w K mg base CX k f fd ps sp := ⟨F.len, fun A outer s H args us vs Q E hr => F.run A outer s H args us vs Q E (hr.mono h)⟩

theorem Env0.in1 {P : Program} {w : World} {K : PySem.W.Frag} {mg : Str → Option Value} {base : Heap} {A : Around} {outer : List Env} {s : Shared} {H : Hp} (e : Env0 P w K mg base A outer s H) :
    Env0 P w K mg base A.in1 outer s H := ⟨e.frames, e.mod, e.bs, e.bsz, e.funs, e.frf, e.hok, e.bare⟩

section
variable {X : Cx} {pins : List (Addr × Obj)} {σ : St} {H : Hp} {s s' : Shared}
/-- from a body: what a callee wants -/
theorem Inv.env0 (I : Inv X pins σ H s) : Env0 X.prog X.w X.K X.mg X.base X.A X.stack s H :=
  ⟨I.ok.frames, I.ok.mod, I.bs, Nat.le_trans I.ok.bsz I.sz, I.stack, I.stkFree, I.hok, I.bare⟩
/-- behind a call -/
theorem Inv.after {Q : VK} {u : Value} (I : Inv X pins σ H s) (h : CE X.stack X.prog X.w H s Q u s') : EP X pins σ Q u s' := by
  obtain ⟨v, H', os, bare, un, hok, r, q⟩ := h
  obtain ⟨hh, g, d, t, os'⟩ := s'
  obtain rfl : os' = s.os := os
  exact ⟨v, H', I.call (h' := hh) (g' := g) (d' := d) (t' := t) (ch := []) un hok bare (fun b z => absurd z (by simp)), r, q⟩
end

/-! ### calls -/
/-- f(..): the written arguments, then the defaults dvs; E: what is wanted of an exception -/
def tCall (sp : Sp) (dvs : List V) (E : XK) (t : TA) : TE := fun σ H Q => t σ H fun vs H1 => sp (vs ++ dvs) H1 Q E
/-- o.m(..) of an instance of the class at C -/
def tMeth (C : Addr) (m : Str) (sp : Sp) (dvs : List V) (E : XK) (ta : TE) (t : TA) : TE := fun σ H Q => ta σ H fun x H1 => ∃ a dx fs, x = .ref a ∧ H1 a = some (.ins C dx fs) ∧ fs.lookup m = none ∧
  t σ H1 fun vs H2 => sp (x :: (vs ++ dvs)) H2 Q E
/-- C(..): a new instance and its dict, then __init__ -/
def tMake (C : Addr) (sp : Sp) (dvs : List V) (E : XK) (t : TA) : TE := fun σ H Q => t σ H fun vs H1 => ∀ x dx, H1 x = none → H1 dx = none → dx ≠ x →
  sp (.ref x :: (vs ++ dvs)) (upd (upd H1 dx (.own x)) x (.ins C dx [])) (fun v H2 => v = .non ∧ Q (.ref x) H2) E

/-- how the parameters are bound: us the positional arguments, kw the keywords' values by name, ds the defaults that fill up -/
def Binds (K : PySem.W.Frag) (fd : FuncData) (ps : List Str) (ds : List Value) : Prop :=
  ∀ (s : Shared) (us : List Value), K.In s.heap → (us ++ ds).length = ps.length → BindsTo s fd ⟨us, []⟩ (ps.zip (us ++ ds))
/-- every parameter is given -/
theorem Binds.all {K : PySem.W.Frag} {fd : FuncData} {ps : List Str} (h : ∀ us : List Value, us.length = ps.length → bindArgs fd ⟨us, []⟩ = pure (ps.zip us)) : Binds K fd ps [] := fun s us _ hl => by
  rw [List.append_nil] at hl ⊢
  exact .of_eq (h us hl)

/-- an exception of a callee reaches what this body wants of exceptions -/
def Passes (CX : CXT) (X : Cx) (E : XK) : Prop := ∀ (pins : List (Addr × Obj)) (σ : St) (H : Hp) (s : Shared) (e : Value) (s' : Shared), Inv X pins σ H s → CX X.stack H s E e s' → X.xe e s'

section
variable {X : Cx} {CX : CXT} {k : Nat} {f C : Addr} {fd : FuncData} {ps : List Str} {sp : Sp} {dvs : List V} {ds : List Value} {E : XK} {x m : Str} {p pos apos : Pos} {e o : Expr} {es : List Expr} {ta : TE} {t : TA}

/-- the callee runs -/
theorem run_fn {pins : List (Addr × Obj)} {σ : St} {H : Hp} {s : Shared} {Q : VK} {us : List Value} {vs : List V} (F : FnOk X.prog X.w X.K X.mg X.base CX k f fd ps sp) (hr : Room k X.A) (hb : Binds X.K fd ps ds) (hd : Vals dvs ds) (hx : Passes CX X E)
    (I : Inv X pins σ H s) (r : Vals vs us) (h : sp (vs ++ dvs) H Q E) : wpAny (model X.prog X.w) X.A (call (.ref f) us) (EP X pins σ Q) X.xe s := by
  have r2 : Vals (vs ++ dvs) (us ++ ds) := r.append hd
  have hl : (us ++ ds).length = ps.length := by rw [← r2.length]; exact F.len _ _ _ _ h
  refine wpAny_call (codeAny_mono (F.run X.A X.stack s H ⟨us, []⟩ (us ++ ds) (vs ++ dvs) Q E hr I.env0 (hb s us I.kIn hl) r2 h) fun r s' hq => ?_)
  cases r with
  | error e => exact hx pins σ H s e s' I hq
  | ok fl =>
    cases fl with
    | ret u => exact I.after hq
    | next => exact False.elim hq
    | brk => exact False.elim hq
    | cont => exact False.elim hq

theorem pe_call (F : FnOk X.prog X.w X.K X.mg X.base CX k f fd ps sp) (hr : Room k X.A) (hg : Gl X x) (hm : X.mg x = some (.ref f)) (hk : PySem.W.keepIn X.K (.ref f) = true) (hb : Binds X.K fd ps ds) (hd : Vals dvs ds) (hx : Passes CX X E)
    (ha : PA X (e :: es) t) (hdb : (x == ("__debug__" : Str)) = false := by decide) (he : starEach (e :: es) X.env = (false, eval e X.env) :: starEach es X.env := by rfl) (hpl : (backTo pos (starEach es X.env)).any (·.1) = false := by rfl) :
    PE X (.Call (.Name x p) (e :: es) [] pos) (tCall sp dvs E t) := by
  intro pins s σ H Q I h
  refine wpAny_Call_Name_kw (ld_glob I hg hm ?_ hdb)
  refine PySem.W.callWith_K (h₀ := X.base) I.ok.mod.kin hk (thn (ha pos pins s σ H _ I h) fun us s1 ⟨vs, H1, I1, r, q⟩ => ⟨I1.kIn, ?_⟩) he hpl
  exact run_fn F hr hb hd hx I1 r q


/-- what a class must have to be made -/
structure Mk (K : PySem.W.Frag) (C f : Addr) : Prop where
  makes : PySem.W.makesIn K C = true
  init : PySem.W.findIn K (.ref C) "__init__" = some (some (.ref f))
  fn : PySem.W.isFn K (.ref f) = true
  kp : PySem.W.keepIn K (.ref C) = true

end

/-! ### keywords -/
/-- the values of the keywords, from the left -/
def PK (X : Cx) (kws : List Keyword) (t : TA) : Prop :=
  ∀ (pos : Pos) (pins : List (Addr × Obj)) (s : Shared) (σ : St) (H : Hp) (Q : List V → Hp → Prop), Inv X pins σ H s → t σ H Q → wpAny (model X.prog X.w) X.A (evalAll ((backToKw pos (keywordEach kws X.env)).map (·.2))) (AP X pins σ Q) X.xe s
section
variable {X : Cx} {CX : CXT} {k : Nat} {f C : Addr} {fd : FuncData} {ps ks : List Str} {sp : Sp} {E : XK} {x m : Str} {p pos apos kpos : Pos} {e o : Expr} {es : List Expr} {kws : List Keyword} {te ta : TE} {t tk : TA} {nm : Option Str}

/-- how a call with keywords binds: g puts the positional values us and the keywords' values ws (names ks) in the parameters' order, defaults among them -/
structure KBinds (K : PySem.W.Frag) (fd : FuncData) (ps ks : List Str) (g : List Value → List Value → List Value) (gV : List V → List V → List V) : Prop where
  to : ∀ (s : Shared) (us ws : List Value), K.In s.heap → (g us ws).length = ps.length → BindsTo s fd ⟨us, ks.zip ws⟩ (ps.zip (g us ws))
  rel : ∀ {vs : List V} {us : List Value} {zs : List V} {ws : List Value}, Vals vs us → Vals zs ws → Vals (gV vs zs) (g us ws)
def tCallK (sp : Sp) (gV : List V → List V → List V) (E : XK) (t tk : TA) : TE := fun σ H Q => t σ H fun vs H1 => tk σ H1 fun zs H2 => sp (gV vs zs) H2 Q E
variable {g : List Value → List Value → List Value} {gV : List V → List V → List V}
end

/-! ### a def's body keeps its promise -/
/-- names: the parameters first -/
structure FnScope (N P : List Str) (sc : Scope) : Prop where
  kind : sc.kind = .function
  co : sc.isCoroutine = false
  gen : sc.isGenerator = false
  nd : N.Nodup
  pre : N.take P.length = P
  par : ∀ x ∈ P, sc.names.lookup x = some .local ∨ sc.names.lookup x = some .cell
  nofree : ∀ y ∈ sc.names, y.2 ≠ .free

theorem bindL_out {kindOf : Str → Option NameKind} {x : Str} : ∀ {binds : List (Str × Value)} {m : Str → Option Value}, (∀ v, (x, v) ∉ binds) → bindL kindOf binds m x = m x
  | [], _, _ => rfl
  | (n, v) :: r, m, h => by
    unfold bindL
    rw [bindL_out fun w hw => h w (List.mem_cons_of_mem _ hw)]
    split
    · have : x ≠ n := by rintro rfl; exact h v List.mem_cons_self
      simp [this]
    · rfl
theorem bindC_out {kindOf : Str → Option NameKind} {x : Str} : ∀ {binds : List (Str × Value)} {m : Str → Option Value}, (∀ v, (x, v) ∉ binds) → bindC kindOf binds m x = m x
  | [], _, _ => rfl
  | (n, v) :: r, m, h => by
    unfold bindC
    rw [bindC_out fun w hw => h w (List.mem_cons_of_mem _ hw)]
    split
    · rfl
    · have : x ≠ n := by rintro rfl; exact h v List.mem_cons_self
      simp [this]
theorem bindL_get {kindOf : Str → Option NameKind} {x : Str} {v : Value} : ∀ {P : List Str} {vs : List Value} {i : Nat} {m : Str → Option Value}, P.Nodup → P[i]? = some x → vs[i]? = some v → kindOf x = some .local →
    bindL kindOf (P.zip vs) m x = some v
  | [], _, _, _, _, h, _, _ => by simp at h
  | _ :: _, [], _, _, _, _, h, _ => by simp at h
  | p :: P, w :: vs, 0, m, nd, h1, h2, hk => by
    simp at h1 h2; subst h1; subst h2
    show bindL kindOf ((p, w) :: P.zip vs) m p = _
    unfold bindL
    rw [bindL_out fun v hv => (List.nodup_cons.mp nd).1 (List.of_mem_zip hv).1, if_pos hk]
    simp
  | p :: P, w :: vs, i + 1, m, nd, h1, h2, hk => by
    show bindL kindOf ((p, w) :: P.zip vs) m x = _
    unfold bindL
    exact bindL_get (i := i) (List.nodup_cons.mp nd).2 (by simpa using h1) (by simpa using h2) hk
theorem bindC_get {kindOf : Str → Option NameKind} {x : Str} {v : Value} : ∀ {P : List Str} {vs : List Value} {i : Nat} {m : Str → Option Value}, P.Nodup → P[i]? = some x → vs[i]? = some v → kindOf x ≠ some .local →
    bindC kindOf (P.zip vs) m x = some v
  | [], _, _, _, _, h, _, _ => by simp at h
  | _ :: _, [], _, _, _, _, h, _ => by simp at h
  | p :: P, w :: vs, 0, m, nd, h1, h2, hk => by
    simp at h1 h2; subst h1; subst h2
    show bindC kindOf ((p, w) :: P.zip vs) m p = _
    unfold bindC
    rw [bindC_out fun v hv => (List.nodup_cons.mp nd).1 (List.of_mem_zip hv).1, if_neg hk]
    simp
  | p :: P, w :: vs, i + 1, m, nd, h1, h2, hk => by
    show bindC kindOf ((p, w) :: P.zip vs) m x = _
    unfold bindC
    exact bindC_get (i := i) (List.nodup_cons.mp nd).2 (by simpa using h1) (by simpa using h2) hk

/-- the names' values at the entry -/
def start (N : List Str) (vs : List V) : St := vs.map some ++ List.replicate (N.length - vs.length) none

/-- the context of a def's body, at its entry; an exception leaves the frame, then lies as CX says -/
def cxOf (CX : CXT) (P : Program) (w : World) (K : PySem.W.Frag) (mg : Str → Option Value) (base : Heap) (N : List Str) (qual : Str) (scope : Scope) (f : Addr) (cd : Value) (A : Around) (outer : List Env) (s : Shared) (H : Hp) (E : XK) : Cx where
  prog := P
  w := w
  K := K
  mg := mg
  base := base
  A := A.deeper (envOfC qual scope s.heap.objs.size f cd)
  N := N
  s₀ := s
  H₀ := H
  env := envOfC qual scope s.heap.objs.size f cd
  outer := outer
  stack := envOfC qual scope s.heap.objs.size f cd :: outer
  ex := []
  calm := true
  fn := fun _ => true
  pn := []
  xe := fun e s' => wpAny (model P w) (A.deeper (envOfC qual scope s.heap.objs.size f cd)) (leaving (envOfC qual scope s.heap.objs.size f cd) e) (fun _ s'' => CX outer H s E e s'') (fun e' s'' => CX outer H s E e' s'') s'

theorem cell_has {sc : Scope} {n : Nat} {x : Str} (h : sc.names.lookup x = some .cell) : ∃ c, (cellsFrom n sc.names []).lookup x = some c := by
  have q := PySem.W.cellsFrom_some sc.names n [] (.inl h)
  exact Option.isSome_iff_exists.mp q

theorem inv_start {CX : CXT} {P : Program} {w : World} {K : PySem.W.Frag} {mg : Str → Option Value} {base : Heap} {N ps : List Str} {qual : Str} {scope : Scope} {f : Addr} {cd : Value} {A : Around} {outer : List Env} {s s1 : Shared} {H : Hp} {E : XK} {us : List Value} {vs : List V}
    (S : FnScope N ps scope) (hd : A.handled = none) (e0 : Env0 P w K mg base A outer s H) (hl : vs.length = ps.length) (r : Vals vs us)
    (x : InCallC s s.heap.objs.size (bindL (envOfC qual scope s.heap.objs.size f cd).kindOf (ps.zip us) fun _ => none) (cellsFrom (s.heap.objs.size + 1) scope.names []) (bindC (envOfC qual scope s.heap.objs.size f cd).kindOf (ps.zip us) fun _ => none) s1) :
    Inv (cxOf CX P w K mg base N qual scope f cd A outer s H E) [] (start N vs) H s1 := by
  have hpl : ps.length ≤ N.length := by have := congrArg List.length S.pre; rw [List.length_take] at this; omega
  obtain ⟨h1, tk, rfl, hk⟩ := x.done
  have noA : ∀ b : Addr, b ∉ (cxOf CX P w K mg base N qual scope f cd A outer s H E).ex := fun b z => absurd (show b ∈ ([] : List Addr) from z) (by simp)
  refine ⟨⟨e0.mod, S.kind, rfl, rfl, Nat.le_refl _, fun y z c h1 h2 => ?_, fun y hy => ?_, fun y c _ h => ?_, fun _ => hd, Around.frames_deeper e0.frames, .inr ⟨rfl, rfl⟩, fun b z => absurd z (noA b), e0.bs, e0.bsz, fun b _ _ => noA b, fun b z => absurd z (noA b), e0.funs, e0.frf⟩,
    rfl, e0.bare, Un.kept hk, ⟨_, x.toInCall.ns, fun i y v h1 h2 h3 => ?_⟩, fun y c h => ⟨_, x.cell y c h⟩, e0.hok.fresh (Nat.le_refl _), fun y c h => ?_, fun p hp => absurd (show p ∈ ([] : List (Addr × Obj)) from hp) (by simp), e0.hok.kept hk, ?_⟩
  · exact name_of_addr x.apart (PySem.mem_of_lookup h1) (PySem.mem_of_lookup h2)
  · have hy : scope.names.lookup y = some .cell ∨ scope.names.lookup y = some .free := hy
    rcases hy with hy | hy
    · exact cell_has hy
    · exact absurd rfl (S.nofree _ (PySem.mem_of_lookup hy))
  · exact Nat.le_of_lt (x.above y c (PySem.mem_of_lookup h))
  · have hi : i < vs.length := by
      unfold start at h2
      by_cases hi : i < vs.length
      · exact hi
      · rw [List.getElem?_append_right (by simpa using hi)] at h2
        rw [List.getElem?_replicate] at h2
        split at h2 <;> cases h2
    have ha : vs[i]? = some v := by
      unfold start at h2
      rw [List.getElem?_append_left (by simpa using hi), List.getElem?_map] at h2
      cases e : vs[i]? with
      | none => rw [e] at h2; cases h2
      | some a => rw [e] at h2; cases h2; rfl
    obtain ⟨u, hu, rv⟩ := r.get ha
    have hp : ps[i]? = some y := by
      rw [← S.pre, List.getElem?_take_of_lt (by omega)]; exact h1
    have ndP : ps.Nodup := by rw [← S.pre]; exact S.nd.sublist (List.take_sublist _ _)
    refine ⟨u, rv, ?_⟩
    rcases S.par y (List.mem_of_getElem? hp) with k | k
    · exact .inl ⟨k, bindL_get ndP hp hu k⟩
    · obtain ⟨c, e⟩ := cell_has (n := s.heap.objs.size + 1) k
      refine .inr ⟨.inl k, c, e, ?_⟩
      have q := x.cell y c e
      rw [bindC_get ndP hp hu (by show scope.names.lookup y ≠ _; rw [k]; decide)] at q
      exact q
  · exact e0.hok.fresh (Nat.le_of_lt (x.above y c (PySem.mem_of_lookup h)))
  · unfold start
    show _ = N.length
    rw [List.length_append, List.length_map, List.length_replicate]
    omega

/-- THE RULE: a def (or a method) of the text, by its body. The body's reading t is chosen for each entry; it is run at the parameters' values -/
theorem fn_of {CX : CXT} {P : Program} {w : World} {K : PySem.W.Frag} {mg : Str → Option Value} {base : Heap} {k : Nat} {f : Addr} {name qual : Str} {params : Arguments} {body : List Stmt} {scope : Scope} {dV kV doc pm cdv ct oc : Value} {an od : Option Addr}
    {osl : Array (Option Value)} {N ps : List Str} {sp : Sp} (lk : K.lookup f = some ⟨oc, od, .func (PySem.W.fnOf name qual params body scope dV kV doc pm an cdv ct), osl⟩) (hcd : PySem.W.codeIn K cdv qual = true) (S : FnScope N ps scope)
    (len : ∀ vs H Q E, sp vs H Q E → vs.length = ps.length)
    (hbody : ∀ (A : Around) (outer : List Env) (s : Shared) (H : Hp) (vs : List V) (Q : VK) (E : XK), Room k (A.deeper (envOfC qual scope s.heap.objs.size f cdv)) → sp vs H Q E →
      ∃ t, PSs (cxOf CX P w K mg base N qual scope f cdv A outer s H E) body t ∧ t { nx := fun _ H' => Q .non H', rt := Q } (start N vs) H) :
    FnOk P w K mg base CX (k + 1) f (PySem.W.fnOf name qual params body scope dV kV doc pm an cdv ct) ps sp := by
  refine ⟨len, fun A outer s H args us vs Q E hr e0 hb r hsp => ?_⟩
  have hl := len _ _ _ _ hsp
  have KX : K.In s.heap := e0.mod.kin.keeps fun b o e => (e0.bs b o e).1
  have lim : s.heap.NoLimit := e0.mod.nolimit.keeps fun b o e => (e0.bs b o e).1
  have hkind : ∀ y ∈ ps.zip us, scope.names.lookup y.1 = some .local ∨ (scope.names.lookup y.1 = some .cell ∧ ((cellsFrom (s.heap.objs.size + 1) scope.names []).lookup y.1).isSome = true) := fun ⟨n, v⟩ hy => by
    rcases S.par n (List.of_mem_zip hy).1 with q | q
    · exact .inl q
    · exact .inr ⟨q, PySem.W.cellsFrom_some _ _ _ (.inl q)⟩
  refine codeAny_call_function hr.depth (KX _ _ lk) rfl S.co S.gen rfl (PySem.W.codeRec_of KX hcd) (hb _ _ _ _ ?_)
  refine wpAny_newFunctionEnv_cells S.kind hkind fun env he s1 x => ?_
  subst he
  refine ⟨lim.keeps x.toInCall.keep, codeAny_func ?_⟩
  obtain ⟨t, ht, hq⟩ := hbody A outer s H vs Q E (hr.deeper _) hsp
  have I : Inv (cxOf CX P w K mg base N qual scope f cdv A outer s H E) [] (start N vs) H s1 := inv_start S hr.hd e0 hl r x
  refine wpAny_mono (ht [] s1 (start N vs) H _ I hq) (fun fl s' hs => ?_) fun e s' hs => hs
  have fin : ∀ {σ' : St} {H' : Hp} {v : V} {u : Value}, Inv (cxOf CX P w K mg base N qual scope f cdv A outer s H E) [] σ' H' s' → RelV v u → Q v H' → CE outer P w H s Q u s' :=
    fun {σ' H' v u} J rv q => ⟨v, H', J.os, J.bare, J.base, J.hok, rv, q⟩
  cases fl with
  | ret u =>
    obtain ⟨v, σ', H', J, rv, q⟩ := hs
    exact fin J rv q
  | next =>
    obtain ⟨σ', H', J, q⟩ := hs
    exact fin (v := V.non) (u := Value.none) J rfl q
  | brk =>
    obtain ⟨_, _, _, q⟩ := hs
    exact False.elim q
  | cont =>
    obtain ⟨_, _, _, q⟩ := hs
    exact False.elim q
end L2

namespace L2
open PySem PySem.Spec PyProof.Rows
section
variable {X : Cx} {x : Str} {p pos : Pos} {e : Expr} {es : List Expr} {t : TA} {id T : String} {r : List V → Hp → VK → Prop}

def tCB (r : List V → Hp → VK → Prop) (t : TA) : TE := fun σ H Q => t σ H fun vs H1 => r vs H1 Q
/-- f(e, ..), f a built-in function -/
theorem pe_callB (hc : CallR X (.builtin id) r) (hg : Gl X x) (hm : X.mg x = none) (hv : bootBuiltins x = some (.builtin id)) (ha : PA X (e :: es) t) (hn : x ≠ "__name__" := by decide) (hdb : (x == ("__debug__" : Str)) = false := by decide)
    (he : starEach (e :: es) X.env = (false, eval e X.env) :: starEach es X.env := by rfl) (hpl : (backTo pos (starEach es X.env)).any (·.1) = false := by rfl) : PE X (.Call (.Name x p) (e :: es) [] pos) (tCB r t) := by
  intro pins s σ H Q I h
  refine wpAny_Call_Name_kw (ld_blt I hg hm hv ?_ hn hdb)
  exact PyProof.Rows.callWith_builtin1 (thn (ha pos pins s σ H _ I h) fun us s1 ⟨vs, H1, I1, r1, q1⟩ => hc pins s1 σ H1 vs us Q I1 r1 q1) he hpl
/-- T(e, ..), T a built-in type -/
theorem pe_callTy (hc : CallR X (.type T) r) (hg : Gl X x) (hm : X.mg x = none) (hv : bootBuiltins x = some (.type T)) (ha : PA X (e :: es) t) (hn : x ≠ "__name__" := by decide) (hdb : (x == ("__debug__" : Str)) = false := by decide)
    (he : starEach (e :: es) X.env = (false, eval e X.env) :: starEach es X.env := by rfl) (hpl : (backTo pos (starEach es X.env)).any (·.1) = false := by rfl) : PE X (.Call (.Name x p) (e :: es) [] pos) (tCB r t) := by
  intro pins s σ H Q I h
  refine wpAny_Call_Name_kw (ld_blt I hg hm hv ?_ hn hdb)
  exact PyProof.Rows.callWith_type1 (thn (ha pos pins s σ H _ I h) fun us s1 ⟨vs, H1, I1, r1, q1⟩ => hc pins s1 σ H1 vs us Q I1 r1 q1) he hpl
end
end L2

namespace HT
open PySem PyProof.Rows

/-- t < u of tuples of ints -/
def lexLt : List Int → List Int → Bool
  | [], [] => false
  | [], _ :: _ => true
  | _ :: _, [] => false
  | x :: xs, y :: ys => if x = y then lexLt xs ys else decide (x < y)
theorem lexLt_cons (x y : Int) (xs ys : List Int) : lexLt (x :: xs) (y :: ys) = if x = y then lexLt xs ys else decide (x < y) := rfl
theorem lexLt_nil_nil : lexLt [] [] = false := rfl
theorem lexLt_nil_cons (y : Int) (ys : List Int) : lexLt [] (y :: ys) = true := rfl
theorem lexLt_cons_nil (x : Int) (xs : List Int) : lexLt (x :: xs) [] = false := rfl

theorem eqAt_int (A : Around) (s : Shared) (a : Int) (t : Tok) (c : Int) (u : Tok) : ∃ e, SeqAt.EqAt A s (.int a t) (.int c u) e ∧ (e = true ↔ a = c) :=
  ⟨(a == c), SeqAt.EqAt.int_int a t c u, by simp⟩
theorem rcLt_int (A : Around) (s : Shared) (a : Int) (t : Tok) (c : Int) (u : Tok) (prog : Program) (w : World) (E : Value → Shared → Prop) (Q : Value → Shared → Prop) (h : Q (.bool (decide (a < c))) s) :
    wpAny (model prog w) A (richCompare .Lt (.int a t) (.int c u)) Q E s :=
  (PyProof.Rows.lt_int h : wpAny (model prog w) A (compareOp .Lt (.int a t) (.int c u)) Q E s)

section
open PySem.SeqAt
open PySem.AutoSeq1 (wpAny_loadPart')
open PySem.MeetsSeq PySem.MeetsSeq2 PySem.MeetsSeq3

theorem tuple_lt_ints (l b : Addr) (items items2 : Array Value) (n n2 : Nat) (dd dd2 : Option Addr) (sl sl2 : Array (Option Value)) (ns ms : List Int) (hi : IntsAre items.toList ns) (hj : IntsAre items2.toList ms) :
    Meets (Builtin.«tuple.__lt__» ⟨[.ref l, .ref b], []⟩)
      (fun _ R s => s.heap.get? l = some { cls := .type "tuple", dict := dd, data := .seq items n, slots := sl } ∧ s.heap.get? b = some { cls := .type "tuple", dict := dd2, data := .seq items2 n2, slots := sl2 } ∧
        R (.ok (.ret (.bool (lexLt ns ms)))) s) :=
  .of_wp fun prog w A R s h => by
    obtain ⟨hp, g, d, tk, os⟩ := s; obtain ⟨hl, hb, h⟩ := h
    have f2 := AutoSeq1.sub_tuple_tuple
    have z1 : items.size = ns.length := by rw [← hi.length]; simp
    have z2 : items2.size = ms.length := by rw [← hj.length]; simp
    wp_walk using wpAny_loadPart' hl, wpAny_loadPart' hb, wpAny_forIn_list _ (fun rest b s' => b.1 = none ∧ s' = ⟨hp, g, d, tk, os⟩ ∧ ∃ (vs ws : List Value) (ns' ms' : List Int), rest = vs.zip ws ∧
      IntsAre vs ns' ∧ IntsAre ws ms' ∧ ns'.length + items2.size = ms'.length + items.size ∧ R (.ok (.ret (.bool (lexLt ns' ms')))) ⟨hp, g, d, tk, os⟩) _
    case turn =>
      rintro ⟨y, x⟩ rest b s' ⟨hb', rfl, vs, ws, ns', ms', hz, hvi, hwi, hlen, hR⟩
      cases hvi with
      | nil => rw [List.zip_nil_left] at hz; cases hz
      | cons a t hvi' =>
        cases hwi with
        | nil => rw [List.zip_nil_right] at hz; cases hz
        | cons c u hwi' =>
          rw [List.zip_cons_cons] at hz
          injection hz with hyx hrest
          injection hyx with hy hx
          subst hy hx
          rw [lexLt_cons] at hR
          simp only [List.length_cons] at hlen
          obtain ⟨e, he, hiff⟩ := eqAt_int A.in1 ⟨hp, g, d, tk, os⟩ a t c u
          refine wpAny_bind (he prog w _ _ ?_)
          cases e with
          | true =>
            rw [if_pos (hiff.mp rfl)] at hR
            wp_walk
            exact ⟨rfl, rfl, _, _, _, _, hrest, hvi', hwi', by omega, hR⟩
          | false =>
            rw [if_neg (fun q => absurd (hiff.mpr q) Bool.false_ne_true)] at hR
            have hri := rcLt_int A.in1 ⟨hp, g, d, tk, os⟩ a t c u prog w
            wp_walk using hri
            exact ⟨_, rfl, by simpa using hR⟩
    case fin =>
      rintro ⟨b1, b2⟩ s' ⟨hb', rfl, vs, ws, ns', ms', hz, hvi, hwi, hlen, hR⟩
      simp only at hb'
      subst hb'
      have hv : lexLt ns' ms' = decide (items.size < items2.size) := by
        cases hvi with
        | nil =>
          cases hwi with
          | nil =>
            simp only [List.length_nil] at hlen
            rw [lexLt_nil_nil]
            exact (decide_eq_false (by omega)).symm
          | cons c u hw =>
            simp only [List.length_nil, List.length_cons] at hlen
            rw [lexLt_nil_cons]
            exact (decide_eq_true (by omega)).symm
        | cons a t hv =>
          cases hwi with
          | nil =>
            simp only [List.length_nil, List.length_cons] at hlen
            rw [lexLt_cons_nil]
            exact (decide_eq_false (by omega)).symm
          | cons c u hw =>
            rw [List.zip_cons_cons] at hz
            cases hz
      rw [hv] at hR
      wp_walk
      exact ⟨_, rfl, by simpa [Builtin.Tuple.tupleCompareSizes] using hR⟩
    case h =>
      exact ⟨rfl, rfl, items.toList, items2.toList, ns, ms, rfl, hi, hj, by omega, h⟩
end

section
variable {prog : Program} {w : World} {A : Around} {E : Value → Shared → Prop} {s : Shared}

theorem lt_tupInts {l b : Addr} {items items2 : Array Value} {ns ms : List Int} {Q : Value → Shared → Prop} (hl : IsTup s.heap l items) (hb : IsTup s.heap b items2) (hi : IntsAre items.toList ns) (hj : IntsAre items2.toList ms)
    (hu : A.units < cLine) (h : Q (.bool (lexLt ns ms)) s) : wpAny (model prog w) A (compareOp .Lt (.ref l) (.ref b)) Q E s := by
  obtain ⟨⟨cls, dd, data, sl⟩, ho, hc, n, hd⟩ := id hl
  obtain ⟨⟨cls2, dd2, data2, sl2⟩, ho2, hc2, n2, hd2⟩ := id hb
  simp only at hc hd hc2 hd2
  subst hc hd hc2 hd2
  exact richCompare_meets_room (op := .Lt) ⟨_, ho, rfl⟩ ⟨_, ho2, rfl⟩ PySem.F.slot_tuple_lt PySem.F.entry_tuple_lt (PySem.F.args_tuple_lt_2 _ _) (tuple_lt_ints l b items items2 n n2 dd dd2 sl sl2 ns ms hi hj)
    ⟨ho, ho2, show Value.bool (lexLt ns ms) ≠ Value.notImplemented ∧ Q (.bool (lexLt ns ms)) s from ⟨(fun x => nomatch x), h⟩⟩ hu

/-- t + u, t not empty -/
theorem cat_tup {t b : Addr} {vs ws : List Value} {Q : Value → Shared → Prop} (ht : IsTup s.heap t vs.toArray) (hb : IsTup s.heap b ws.toArray) (hv : vs ≠ [])
    (h1 : ws = [] → Q (.ref t) s) (h2 : ws ≠ [] → Q (.ref s.heap.objs.size) { s with heap := s.heap.push { cls := .type "tuple", data := .seq (vs ++ ws).toArray } })
    (hsz : vs.length + ws.length ≤ sizeLine) : wpAny (model prog w) A (binaryOp .Add (.ref t) (.ref b)) Q E s := by
  obtain ⟨⟨cls, dd, data, sl⟩, ho, hc, n, hd⟩ := id ht
  obtain ⟨⟨cls2, dd2, data2, sl2⟩, ho2, hc2, n2, hd2⟩ := id hb
  simp only at hc hd hc2 hd2
  subst hc hd hc2 hd2
  have e : vs.toArray ++ ws.toArray = (vs ++ ws).toArray := by simp
  by_cases hw : ws = []
  · exact concat_meets ⟨_, ho, rfl⟩ ⟨_, ho2, rfl⟩ noFill_tuple_add seq_tuple_add PySem.F.slot_tuple_add PySem.F.entry_tuple_add (PySem.F.args_tuple_add_2 _ _)
      (tuple_addW1 t b vs.toArray ws.toArray n n2 dd dd2 sl sl2 (by simpa using hv) (by simp [hw])) ⟨ho, ho2, h1 hw⟩
  · refine concat_meets ⟨_, ho, rfl⟩ ⟨_, ho2, rfl⟩ noFill_tuple_add seq_tuple_add PySem.F.slot_tuple_add PySem.F.entry_tuple_add (PySem.F.args_tuple_add_2 _ _)
      (tuple_addW2 t b vs.toArray ws.toArray n n2 dd dd2 sl sl2 (by simpa using hv) (by simpa using hw) (by rw [List.size_toArray, List.size_toArray]; exact hsz)) ⟨ho, ho2, ?_⟩
    rw [e]
    exact h2 hw

/-! ### t[a:b], not the whole -/
/-- a slice's bound as a place among n (d where it is left out) -/
def sIx (n d : Nat) : Option Int → Nat
  | none => d
  | some v => if v < 0 then (v + (n : Int)).toNat else min v.toNat n

end
end HT

namespace L2
open PySem PySem.Spec PyProof.Rows

/-! ### the parts of a slice -/
abbrev TO := St → Hp → (Option Int → Hp → Prop) → Prop
/-- a slice's part (left out, or an int) -/
def PO (X : Cx) (e : Option Expr) (t : TO) : Prop :=
  ∀ (pins : List (Addr × Obj)) (s : Shared) (σ : St) (H : Hp) (Q : Option Int → Hp → Prop), Inv X pins σ H s → t σ H Q →
    wpAny (model X.prog X.w) X.A (evalPart e X.env) (fun u s' => ∃ o H', Inv X pins σ H' s' ∧ IsPart u o ∧ Q o H') X.xe s
def tNoPart : TO := fun _ H Q => Q none H
def tPart (t : TE) : TO := fun σ H Q => t σ H fun x H1 => ∃ i, x = .int i ∧ Q (some i) H1

theorem intsAre_of {ns : List Int} : ∀ {us : List Value}, Vals (ns.map V.int) us → IntsAre us ns := by
  induction ns with
  | nil => intro us r; rw [List.map_nil] at r; cases r; exact .nil
  | cons n ns ih =>
    intro us r
    rw [List.map_cons] at r
    cases r with
    | cons r1 r2 =>
      obtain ⟨t, e⟩ := r1
      subst e
      exact .cons n t (ih r2)

section
variable {X : Cx} {e : Expr} {te : TE} {lo hi : Option Expr} {tl th : TO} {pos p2 : Pos}


/-- what a slice of a value is, by values: the slice object stands at sl -/
def SlR (X : Cx) (r : V → Option Int → Option Int → Hp → VK → Prop) : Prop :=
  ∀ (pins : List (Addr × Obj)) (s : Shared) (σ : St) (H : Hp) (x : V) (v vl vu : Value) (lo hi : Option Int) (sl : Addr) (Q : VK), Inv X pins σ H s → RelV x v → s.heap.IsSliceOf sl vl vu .none → IsPart vl lo → IsPart vu hi → r x lo hi H Q →
    ∃ T id, typeLookup (.type T) "__getitem__" = pure (some (.builtin id)) ∧ s.TypeIs v T ∧ wpAny (model X.prog X.w) X.A (getItem v (.ref sl)) (EP X pins σ Q) X.xe s
theorem SlR.or {r r' : V → Option Int → Option Int → Hp → VK → Prop} (h : SlR X r) (h' : SlR X r') : SlR X (fun x lo hi H Q => r x lo hi H Q ∨ r' x lo hi H Q) := by
  intro pins s σ H x v vl vu lo hi sl Q I rx hs pl pu q
  rcases q with q | q
  · exact h pins s σ H x v vl vu lo hi sl Q I rx hs pl pu q
  · exact h' pins s σ H x v vl vu lo hi sl Q I rx hs pl pu q
def tSl (r : V → Option Int → Option Int → Hp → VK → Prop) (te : TE) (tl th : TO) : TE := fun σ H Q => te σ H fun x H1 => tl σ H1 fun l H2 => th σ H2 fun u H3 => r x l u H3 Q

/-- the items of xs[lo:hi] -/
def cutV (xs : List V) (lo hi : Option Int) : List V := (xs.drop (HT.sIx xs.length 0 lo)).take (HT.sIx xs.length xs.length hi - HT.sIx xs.length 0 lo)
/-- t[lo:hi], not the whole of it (the whole would be t itself) -/
def rSlT (K : PySem.W.Frag) : V → Option Int → Option Int → Hp → VK → Prop := fun x lo hi H Q => ∃ a xs, x = .ref a ∧ SqT K H a xs ∧
  ¬ (HT.sIx xs.length 0 lo = 0 ∧ HT.sIx xs.length xs.length hi = xs.length) ∧ ∀ p, H p = none → Q (.ref p) (upd H p (.tup (cutV xs lo hi)))

/-! ### t < u, t + u -/
def rLtT (K : PySem.W.Frag) : R2 := fun x y H Q => ∃ a b ns ms, x = .ref a ∧ y = .ref b ∧ SqT K H a (ns.map V.int) ∧ SqT K H b (ms.map V.int) ∧ Q (.bl (HT.lexLt ns ms)) H
theorem op_ltT (hu : X.A.units < cLine) : OpR X (compareOp .Lt) (rLtT X.K) := by
  intro pins s σ H x y v u Q I rx ry h
  obtain ⟨a, b, ns, ms, rfl, rfl, ha, hb, q⟩ := h
  cases rx
  cases ry
  obtain ⟨its, r1, p1, _⟩ := I.tuple ha
  obtain ⟨its2, r2, p2, _⟩ := I.tuple hb
  have i1 : IntsAre its.toArray.toList ns := intsAre_of r1
  have i2 : IntsAre its2.toArray.toList ms := intsAre_of r2
  exact HT.lt_tupInts p1 p2 i1 i2 hu ⟨.bl (HT.lexLt ns ms), H, I, rfl, q⟩
/-- t + u, t not empty: u empty gives t itself -/
def rCatT (K : PySem.W.Frag) : R2 := fun x y H Q => ∃ a b xs ys, x = .ref a ∧ y = .ref b ∧ SqT K H a xs ∧ SqT K H b ys ∧ xs ≠ [] ∧ xs.length + ys.length ≤ sizeLine ∧
  (ys = [] → Q (.ref a) H) ∧ (ys ≠ [] → ∀ p, H p = none → Q (.ref p) (upd H p (.tup (xs ++ ys))))
theorem Vals.nil_iff {xs : List V} {us : List Value} (r : Vals xs us) : us = [] ↔ xs = [] := by
  cases r with
  | nil => simp
  | cons _ _ => simp
theorem op_catT : OpR X (binaryOp .Add) (rCatT X.K) := by
  intro pins s σ H x y v u Q I rx ry h
  obtain ⟨a, b, xs, ys, rfl, rfl, ha, hb, hx, hz, q1, q2⟩ := h
  cases rx
  cases ry
  obtain ⟨its, r1, p1, _⟩ := I.tuple ha
  obtain ⟨its2, r2, p2, _⟩ := I.tuple hb
  refine HT.cat_tup p1 p2 (fun z => hx (r1.nil_iff.mp z)) (fun z => ⟨.ref a, H, I, rfl, q1 (r2.nil_iff.mp z)⟩) (fun z => ?_) (by rw [← r1.length, ← r2.length]; exact hz)
  refine ⟨.ref s.heap.objs.size, _, I.laid (t' := s.toks) (o := .tup (xs ++ ys)) (fun b ob q => Heap.get?_push_of_some _ q) (Nat.le_refl _) ?_, rfl, q2 (fun w => z (r2.nil_iff.mpr w)) _ (I.hok.fresh (Nat.le_refl _))⟩
  exact ⟨by rw [List.length_append]; exact hz, _, r1.append r2, IsTup.new _ _⟩
end
end L2

namespace L2
open PySem PySem.Spec PyProof.Rows

/-! ### places -/
/-- the place that an index of any sign means -/
def ixN (n : Nat) (i : Int) : Option Nat := if 0 ≤ i then (if i < n then some i.toNat else none) else if -(n : Int) ≤ i then some (i + n).toNat else none
def atI {α : Type} (xs : List α) (i : Int) : Option α := (ixN xs.length i).bind fun j => xs[j]?
theorem ixN_seq {n : Nat} {i : Int} {j : Nat} (h : ixN n i = some j) : seqIndex? i n = some j ∧ j < n ∧ -(n : Int) ≤ i ∧ i < n := by
  unfold ixN at h
  by_cases h0 : 0 ≤ i
  · rw [if_pos h0] at h
    by_cases h1 : i < n
    · rw [if_pos h1] at h
      have e : i.toNat = j := Option.some.inj h
      exact ⟨by rw [seqIndex_of h0 h1, e], by omega, by omega, h1⟩
    · rw [if_neg h1] at h; cases h
  · rw [if_neg h0] at h
    by_cases h1 : -(n : Int) ≤ i
    · rw [if_pos h1] at h
      have e : (i + n).toNat = j := Option.some.inj h
      exact ⟨by rw [seqIndex_neg (by omega) h1, e], by omega, h1, by omega⟩
    · rw [if_neg h1] at h; cases h
theorem atI_get {α : Type} {xs : List α} {i : Int} {v : α} (h : atI xs i = some v) : ∃ j, seqIndex? i xs.length = some j ∧ xs[j]? = some v ∧ j < xs.length ∧ -(xs.length : Int) ≤ i ∧ i < xs.length := by
  unfold atI at h
  cases e : ixN xs.length i with
  | none => rw [e] at h; cases h
  | some j =>
    rw [e] at h
    obtain ⟨h1, h2, h3, h4⟩ := ixN_seq e
    exact ⟨j, h1, h, h2, h3, h4⟩
theorem atI_nat {α : Type} {xs : List α} {j : Nat} {v : α} (h : xs[j]? = some v) : atI xs (j : Int) = some v := by
  have hj : j < xs.length := (List.getElem?_eq_some_iff.mp h).1
  have e : ixN xs.length (j : Int) = some j := by
    unfold ixN
    rw [if_pos (by omega), if_pos (by omega)]; simp
  unfold atI; rw [e]; exact h

/-! ### what may be subscripted -/
/-- what stands as an index of a plain subscript -/
def PlainIx (b : Expr) : Prop := ∀ o i, subscripted b false o i = operate [o, i] (getItem o i)
/-- a subscript by values -/
def IxR (X : Cx) (r : R2) : Prop :=
  ∀ (value slice : Expr) (pins : List (Addr × Obj)) (s : Shared) (σ : St) (H : Hp) (x y : V) (v u : Value) (Q : VK), Inv X pins σ H s → RelV x v → RelV y u → r x y H Q →
    subscripted slice false v u = operate [v, u] (getItem v u) → wpAny (model X.prog X.w) X.A (subscriptTail value slice v u) (EP X pins σ Q) X.xe s
/-- a call of a builtin's method by values: the receiver, the arguments -/
def MtR (X : Cx) (id : String) (r : V → List V → Hp → VK → Prop) : Prop :=
  ∀ (pins : List (Addr × Obj)) (s : Shared) (σ : St) (H : Hp) (x : V) (xs : List V) (v : Value) (us : List Value) (Q : VK), Inv X pins σ H s → RelV x v → Vals xs us → r x xs H Q →
    wpAny (model X.prog X.w) X.A (call (.builtin id) (v :: us)) (EP X pins σ Q) X.xe s
section
variable {X : Cx} {a b : Expr} {ta tb : TE} {pos : Pos}
theorem IxR.or {r r' : R2} (h : IxR X r) (h' : IxR X r') : IxR X (fun x y H Q => r x y H Q ∨ r' x y H Q) := by
  intro value slice pins s σ H x y v u Q I rx ry q hs
  rcases q with q | q
  · exact h value slice pins s σ H x y v u Q I rx ry q hs
  · exact h' value slice pins s σ H x y v u Q I rx ry q hs
theorem MtR.or {id : String} {r r' : V → List V → Hp → VK → Prop} (h : MtR X id r) (h' : MtR X id r') : MtR X id (fun x xs H Q => r x xs H Q ∨ r' x xs H Q) := by
  intro pins s σ H x xs v us Q I rx rs q
  rcases q with q | q
  · exact h pins s σ H x xs v us Q I rx rs q
  · exact h' pins s σ H x xs v us Q I rx rs q
/-- a[b] -/
theorem pe_ix {r : R2} (hr : IxR X r) (ha : PE X a ta) (hb : PE X b tb) (hs : PlainIx b) : PE X (.Subscript a b pos) (tOp r ta tb) := by
  intro pins s σ H Q I h
  exact Subscript_ (binT ha hb I h fun v u s2 x y H2 I2 rx ry q => hr a b pins s2 σ H2 x y v u Q I2 rx ry q (hs _ _))

def rIxL (K : PySem.W.Frag) : R2 := fun x y H Q => ∃ p xs i v, x = .ref p ∧ y = .int i ∧ SqL K H p xs ∧ atI xs i = some v ∧ Q v H
def rIxT (K : PySem.W.Frag) : R2 := fun x y H Q => ∃ p xs i v, x = .ref p ∧ y = .int i ∧ SqT K H p xs ∧ atI xs i = some v ∧ Q v H
def rIxS : R2 := fun x y H Q => ∃ z i c, x = .str z ∧ y = .int i ∧ z.length ≤ sizeLine ∧ atI z.cps.toList i = some c ∧ Q (.str ⟨#[c]⟩) H
theorem ix_list : IxR X (rIxL X.K) := by
  intro value slice pins s σ H x y v u Q I rx ry h hs
  obtain ⟨p, xs, i, z, rfl, rfl, hq, he, q⟩ := h
  cases rx
  obtain ⟨t, rfl⟩ := ry
  obtain ⟨its, r, pl, hz⟩ := I.list hq
  obtain ⟨j, h1, h2, h3, h4, h5⟩ := atI_get he
  obtain ⟨w, ew, rw'⟩ := r.get h2
  have hl := r.length
  have hn := line63
  have fin : EP X pins σ Q w s := ⟨z, H, I, rw', q⟩
  by_cases h0 : 0 ≤ i
  · have hj : i.toNat = j := by
      rw [seqIndex_of h0 h5] at h1
      exact Option.some.inj h1
    exact item_listR pl.isList h0 (by omega) (by rw [hj]; simpa using ew) fin hs
  · have hj : (i + (its.toArray.size : Int)).toNat = j := by
      rw [seqIndex_neg (by omega) h4] at h1
      rw [List.size_toArray, ← hl]
      exact Option.some.inj h1
    exact subscriptTail_builtinR (x := w) pl.isList.typeIs slot_list_getitem.lookup
      (wpAny_getItem_list_neg (Q := fun r s' => r = w ∧ EP X pins σ Q r s') pl.isList (by omega) (by rw [List.size_toArray] <;> omega) (by omega) (by rw [hj]; simpa using ew) ⟨rfl, fin⟩) hs
theorem ix_tup : IxR X (rIxT X.K) := by
  intro value slice pins s σ H x y v u Q I rx ry h hs
  obtain ⟨p, xs, i, z, rfl, rfl, hq, he, q⟩ := h
  cases rx
  obtain ⟨t, rfl⟩ := ry
  obtain ⟨its, r, pl, hz⟩ := I.tuple hq
  obtain ⟨j, h1, h2, h3, h4, h5⟩ := atI_get he
  obtain ⟨w, ew, rw'⟩ := r.get h2
  have hl := r.length
  have hn := line63
  have fin : EP X pins σ Q w s := ⟨z, H, I, rw', q⟩
  exact subscriptTail_builtinR (x := w) pl.typeIs slot_tuple_getitem.lookup
    (getItem_tuple (j := j) (Q := fun r s' => r = w ∧ EP X pins σ Q r s') pl (by omega) (by omega) (by rw [List.size_toArray, ← hl]; exact h1) (by simpa using ew) ⟨rfl, fin⟩) hs
theorem ix_str : IxR X rIxS := by
  intro value slice pins s σ H x y v u Q I rx ry h hs
  obtain ⟨z, i, c, rfl, rfl, hz, he, q⟩ := h
  obtain ⟨t, rfl⟩ := rx
  obtain ⟨t', rfl⟩ := ry
  obtain ⟨j, h1, h2, h3, h4, h5⟩ := atI_get he
  have hl : z.cps.toList.length = z.length := by simp [Str.length]
  rw [hl] at h1 h4 h5
  have hn := line63
  exact tail_any (typeIs_str s z t) slot_str_getitem.lookup (getItem_str (c := c) (by
    have e1 : decide (i < -(2 ^ 63 : Int)) = false := decide_eq_false (by omega)
    have e2 : decide (i ≥ 2 ^ 63) = false := decide_eq_false (by omega)
    rw [e1, e2, Bool.or_false]) (by rw [h1]; simpa using h2) ⟨.str ⟨#[c]⟩, H, I.tok _, ⟨_, rfl⟩, q⟩) hs
/-- list, tuple or str -/
def rIx (K : PySem.W.Frag) : R2 := fun x y H Q => rIxL K x y H Q ∨ rIxT K x y H Q ∨ rIxS x y H Q
theorem ix_seq : IxR X (rIx X.K) := ix_list.or (ix_tup.or ix_str)

/-! ### xs[i] = v, any sign -/
/-- the list's object behind a store -/
theorem mapSeq_set (its : List Value) (n j : Nat) (u : Value) : Obj.mapSeq (·.setIfInBounds j u) { cls := .type "list", data := .seq its.toArray n } = { cls := .type "list", data := .seq (its.set j u).toArray n } := by
  simp [Obj.mapSeq]
theorem Inv.lst {pins : List (Addr × Obj)} {σ : St} {H : Hp} {s : Shared} {p : Addr} {xs : List V} (I : Inv X pins σ H s) (h : H p = some (.lst xs)) :
    ∃ (its : List Value) (n : Nat), Vals xs its ∧ s.heap.get? p = some { cls := .type "list", data := .seq its.toArray n } ∧ xs.length ≤ sizeLine := by
  obtain ⟨z, its, n, r, e⟩ := I.hok p _ h
  exact ⟨its, n, r, e, z⟩
/-- the list at p is written by an update of its object -/
theorem Inv.lstUpd {pins : List (Addr × Obj)} {σ : St} {H : Hp} {s : Shared} {p : Addr} {xs ys : List V} {its its' : List Value} {n n' : Nat} {f : Obj → Obj} (I : Inv X pins σ H s) (h : H p = some (.lst xs))
    (ho : s.heap.get? p = some { cls := .type "list", data := .seq its.toArray n }) (hf : f { cls := .type "list", data := .seq its.toArray n } = { cls := .type "list", data := .seq its'.toArray n' }) (r : Vals ys its') (hz : ys.length ≤ sizeLine) (t : Nat) :
    Inv X pins σ (upd H p (.lst ys)) { s with heap := s.heap.update p f, toks := t } := by
  have e : (s.heap.update p f).get? p = some { cls := .type "list", data := .seq its'.toArray n' } := by
    rw [Heap.get?_update_self f ho (by rw [hf] <;> rfl), hf]
  refine I.write (x := p) (e := p) (by rw [h]; trivial) (.inl rfl) (fun b u hb q => (Heap.get?_update_other _ _ (Ne.symm hb)).trans q) ⟨_, e⟩ ?_
  exact ⟨hz, its', n', r, e⟩
def rSetL : V → V → V → Hp → (Hp → Prop) → Prop := fun o i v H Q => ∃ p xs k j, o = .ref p ∧ i = .int k ∧ H p = some (.lst xs) ∧ ixN xs.length k = some j ∧ Q (upd H p (.lst (xs.set j v)))
theorem set_list : PSet X rSetL := by
  intro pins s σ H o i v ov iv u Q I ro ri rv h
  obtain ⟨p, xs, k, j, rfl, rfl, hp, hj, q⟩ := h
  cases ro
  obtain ⟨t, rfl⟩ := ri
  obtain ⟨its, n, r, ho, hz⟩ := I.lst hp
  obtain ⟨h1, h2, h3, h4⟩ := ixN_seq hj
  have hl := r.length
  have hn := line63
  have I' : Inv X pins σ (upd H p (.lst (xs.set j v))) { s with heap := s.heap.update p (Obj.mapSeq (·.setIfInBounds j u)) } :=
    I.lstUpd hp ho (mapSeq_set its n j u) (r.set rv j) (by rw [List.length_set]; exact hz) s.toks
  by_cases h0 : 0 ≤ k
  · have hk : k.toNat = j := by
      rw [seqIndex_of h0 h4] at h1
      exact Option.some.inj h1
    exact PySem.W.ki_setAt ho h0 (by omega) (by rw [List.size_toArray, ← hl]; exact h4) (by rw [hk]; exact ⟨_, I', q⟩)
  · have hk : (k + (its.toArray.size : Int)).toNat = j := by
      rw [seqIndex_neg (by omega) h3] at h1
      rw [List.size_toArray, ← hl]
      exact Option.some.inj h1
    exact PySem.W.ki_setBack ho (by omega) (by rw [List.size_toArray, ← hl]; exact h3) (by omega) (by rw [hk]; exact ⟨_, I', q⟩)

/-! ### slices -/
/-- xs[lo:hi] of a list: a new list -/
def rSlL (K : PySem.W.Frag) : V → Option Int → Option Int → Hp → VK → Prop := fun x lo hi H Q => ∃ a xs, x = .ref a ∧ SqL K H a xs ∧ ∀ p, H p = none → Q (.ref p) (upd H p (.lst (cutV xs lo hi)))

/-! ### in, not in: flat items -/
def flatV : V → Bool
  | .non => true
  | .bl _ => true
  | .int _ => true
  | .str _ => true
  | _ => false
/-- == of flat values -/
def eqV : V → V → Bool
  | .non, .non => true
  | .bl a, .bl b => a == b
  | .bl a, .int b => (if a then 1 else 0) == b
  | .int a, .bl b => a == (if b then 1 else 0)
  | .int a, .int b => a == b
  | .str a, .str b => a == b
  | _, _ => false
/-- the items' answers, read off the values (a value's own answer does not lean on its token) -/
def eqU (x : V) (u : Value) : Bool := match u with
  | .none => eqV .non x
  | .bool b => eqV (.bl b) x
  | .int i _ => eqV (.int i) x
  | .str z _ => eqV (.str z) x
  | _ => false
def inV (x : V) (xs : List V) : Bool := xs.any fun y => eqV y x
/-- x in a list or tuple of flat items -/
def rIn (K : PySem.W.Frag) (neg : Bool) : R2 := fun x y H Q => ∃ p xs, y = .ref p ∧ (SqL K H p xs ∨ SqT K H p xs) ∧ flatV x = true ∧ xs.all flatV = true ∧ Q (.bl (if neg then !inV x xs else inV x xs)) H

/-! ### len, list(x), tuple(x) of any list or tuple that is read -/
theorem call_len_seq : CallR X (.builtin "len") (fun xs H Q => ∃ p ys, xs = [.ref p] ∧ (SqL X.K H p ys ∨ SqT X.K H p ys) ∧ Q (.int ys.length) H) := by
  intro pins s σ H xs us Q I r h
  obtain ⟨p, ys, rfl, hq, q⟩ := h
  obtain ⟨u, rfl, rx⟩ := vals1 r
  cases rx
  have hn := line63
  rcases hq with hq | hq
  · obtain ⟨its, r', pl, hz⟩ := I.list hq
    have hlen := r'.length
    exact Calls.call_len_list pl.isList (by simp only [List.size_toArray] <;> omega) ⟨.int ys.length, H, I.tok _, ⟨s.toks + 1, by rw [List.size_toArray, hlen]⟩, q⟩
  · obtain ⟨its, r', pl, hz⟩ := I.tuple hq
    have hlen := r'.length
    exact len_tuple pl (by simp only [List.size_toArray] <;> omega) ⟨.int ys.length, H, I.tok _, ⟨s.toks + 1, by rw [List.size_toArray, hlen]⟩, q⟩
theorem CallR.or {f : Value} {r r' : List V → Hp → VK → Prop} (h : CallR X f r) (h' : CallR X f r') : CallR X f (fun xs H Q => r xs H Q ∨ r' xs H Q) := by
  intro pins s σ H xs us Q I rs q
  rcases q with q | q
  · exact h pins s σ H xs us Q I rs q
  · exact h' pins s σ H xs us Q I rs q
theorem call_list_of : CallR X (.type "list") (fun xs H Q => ∃ p ys, xs = [.ref p] ∧ (SqL X.K H p ys ∨ SqT X.K H p ys) ∧ ∀ l, H l = none → Q (.ref l) (upd H l (.lst ys))) := by
  intro pins s σ H xs us Q I r h
  obtain ⟨p, ys, rfl, hq, q⟩ := h
  obtain ⟨u, rfl, rx⟩ := vals1 r
  cases rx
  have fin : ∀ (its : List Value), Vals ys its → ys.length ≤ sizeLine → ∀ (h' : Heap) (c' : Nat), (∀ b o', s.heap.get? b = some o' → h'.get? b = some o') →
      h'.get? s.heap.objs.size = some { cls := .type "list", dict := none, data := .seq its.toArray c', slots := #[] } → EP X pins σ Q (.ref s.heap.objs.size) { s with heap := h' } := fun its r' hz h' c' kp e =>
    ⟨.ref s.heap.objs.size, _, I.laid (t' := s.toks) kp (Nat.le_refl _) (show ObjOk X.prog X.w _ h' _ (.lst ys) from ⟨hz, its, c', r', e⟩), rfl, q _ (I.hok.fresh (Nat.le_refl _))⟩
  rcases hq with hq | hq
  · obtain ⟨its, r', pl, hz⟩ := I.list hq
    have hlen := r'.length
    obtain ⟨o, ho, hc, n, hd⟩ := pl.isList
    exact call_list_seq p (.inl rfl) ho hc hd (fun h' c' kp e => fin its r' hz h' c' kp e) (by simp only [List.size_toArray] <;> omega)
  · obtain ⟨its, r', pl, hz⟩ := I.tuple hq
    have hlen := r'.length
    obtain ⟨o, ho, hc, n, hd⟩ := pl
    exact call_list_seq p (.inr rfl) ho hc hd (fun h' c' kp e => fin its r' hz h' c' kp e) (by simp only [List.size_toArray] <;> omega)
theorem call_tuple_of : CallR X (.type "tuple") (fun xs H Q => ∃ p ys, xs = [.ref p] ∧ ((SqL X.K H p ys ∧ ∀ l, H l = none → Q (.ref l) (upd H l (.tup ys))) ∨ (SqT X.K H p ys ∧ Q (.ref p) H))) := by
  intro pins s σ H xs us Q I r h
  obtain ⟨p, ys, rfl, h⟩ := h
  obtain ⟨u, rfl, rx⟩ := vals1 r
  cases rx
  rcases h with ⟨hq, q⟩ | ⟨hq, q⟩
  · obtain ⟨its, r', pl, hz⟩ := I.list hq
    have hlen := r'.length
    refine call_tuple_list pl.isList (fun h' kp => ?_) (by simp only [List.size_toArray] <;> omega)
    have I1 : Inv X pins σ H { s with heap := h' } := I.kept (t' := s.toks) kp
    have I2 : Inv X pins σ (upd H h'.objs.size (.tup ys)) { s with heap := h'.push { cls := .type "tuple", data := .seq its.toArray } } :=
      I1.laid (t' := s.toks) (fun b o e => Heap.get?_push_of_some _ e) (Nat.le_refl _) (show ObjOk X.prog X.w _ _ _ (.tup ys) from ⟨hz, its, r', IsTup.new _ _⟩)
    exact ⟨.ref h'.objs.size, _, I2, rfl, q _ (I1.hok.fresh (Nat.le_refl _))⟩
  · obtain ⟨its, r', pl, hz⟩ := I.tuple hq
    exact call_tuple_same pl ⟨.ref p, H, I, rfl, q⟩

/-! ### the call of a builtin's method: o.m(..) -/
/-- the value is of that builtin type -/
def tyV (K : PySem.W.Frag) (T : String) (x : V) (H : Hp) : Prop := match x with
  | .str _ => T = "str"
  | .int _ => T = "int"
  | .ref p => (T = "list" ∧ ∃ xs, SqL K H p xs) ∨ (T = "tuple" ∧ ∃ o, K.lookup p = some o ∧ o.cls = .type "tuple" ∧ o.dict = none) ∨
      (T = "dict" ∧ ((∃ kvs, H p = some (.dK kvs)) ∨ ∃ kvs, H p = some (.dT kvs))) ∨ (T = "set" ∧ ∃ S n, H p = some (.set S n))
  | _ => False
theorem tyV_is {pins : List (Addr × Obj)} {σ : St} {H : Hp} {s : Shared} {T : String} {x : V} {v : Value} (I : Inv X pins σ H s) (r : RelV x v) (ty : tyV X.K T x H) :
    s.TypeIs v T ∧ ∀ a, v = .ref a → ∃ ob, s.heap.get? a = some ob ∧ ob.dict = none := by
  cases x with
  | str z =>
    obtain ⟨t, rfl⟩ := r
    cases (show T = "str" from ty)
    exact ⟨typeIs_str s z t, fun _ e => nomatch e⟩
  | int i =>
    obtain ⟨t, rfl⟩ := r
    cases (show T = "int" from ty)
    exact ⟨typeIs_int s i t, fun _ e => nomatch e⟩
  | ref p =>
    cases r
    rcases ty with ⟨rfl, xs, hq⟩ | ⟨rfl, o, hk, hc, hd⟩ | ⟨rfl, hk⟩ | ⟨rfl, S, n, hk⟩
    · obtain ⟨its, _, pl, _⟩ := I.list hq
      refine ⟨pl.isList.typeIs, fun a e => ?_⟩
      cases e
      obtain ⟨o, n, e, c, hd, _⟩ := pl
      exact ⟨o, e, hd⟩
    · refine ⟨⟨o, I.kIn p o hk, hc⟩, fun a e => ?_⟩
      cases e
      exact ⟨o, I.kIn _ o hk, hd⟩
    · have z : ∃ o, s.heap.get? p = some o ∧ o.ExactDict := by
        rcases hk with ⟨kvs, hk⟩ | ⟨kvs, hk⟩
        · obtain ⟨_, _, _, _, o, _, _, e, ex, _⟩ := I.hok p _ hk
          exact ⟨o, e, ex⟩
        · obtain ⟨_, _, _, _, o, _, _, e, ex, _⟩ := I.hok p _ hk
          exact ⟨o, e, ex⟩
      obtain ⟨o, e, ex⟩ := z
      refine ⟨⟨o, e, ex.1⟩, fun a e2 => ?_⟩
      cases e2
      exact ⟨o, e, ex.2.1⟩
    · obtain ⟨o, _, _, _, e, ex, _⟩ := I.hok p _ hk
      refine ⟨⟨o, e, ex.1⟩, fun a e2 => ?_⟩
      cases e2
      exact ⟨o, e, ex.2.1⟩
  | _ => exact False.elim ty
def tBM0 (K : PySem.W.Frag) (T : String) (r : V → List V → Hp → VK → Prop) (to : TE) : TE := fun σ H Q => to σ H fun x H1 => tyV K T x H1 ∧ r x [] H1 Q
def tBM (K : PySem.W.Frag) (T : String) (r : V → List V → Hp → VK → Prop) (to : TE) (t : TA) : TE := fun σ H Q => to σ H fun x H1 => tyV K T x H1 ∧ t σ H1 fun xs H2 => r x xs H2 Q
variable {o e : Expr} {es : List Expr} {to : TE} {t : TA} {name : Str} {apos cpos : Pos} {T id : String} {r : V → List V → Hp → VK → Prop}
theorem pe_bm0 (pa : PlainAttrs T) (slot : Slot T name id) (hty : typeOf (.builtin id) = pure (.type "method_descriptor")) (hm : MtR X id r) (ho : PE X o to)
    (hbase : attributeBase o name X.env (eval o X.env) = eval o X.env := by rfl) (hline : (apos.endLine == cpos.line) = true := by rfl) : PE X (.Call (.Attribute o name apos) [] [] cpos) (tBM0 X.K T r to) := by
  intro pins s σ H Q I h
  refine wpAny_Call_method0_late hbase hline (thn (ho pins s σ H _ I h) fun v s1 ⟨x, H1, I1, r1, ty, q1⟩ => ?_)
  obtain ⟨h1, h2⟩ := tyV_is I1 r1 ty
  exact ⟨T, id, pa, slot, hty, h1, h2, Calls.callWith_builtin rfl (PySem.evalArgs_none (hm pins s1 σ H1 x [] v [] Q I1 r1 .nil q1))⟩
theorem pe_bm (pa : PlainAttrs T) (slot : Slot T name id) (hty : typeOf (.builtin id) = pure (.type "method_descriptor")) (hm : MtR X id r) (ho : PE X o to) (ha : PA X (e :: es) t)
    (hbase : attributeBase o name X.env (eval o X.env) = eval o X.env := by rfl)
    (hfew : ((backTo cpos (starEach (e :: es) X.env)).all (fun x => !x.1) && (backToKw cpos (keywordEach [] X.env)).all (fun x => x.1.isSome)
      && decide ((e :: es).length + ([] : List Keyword).length + (if ([] : List Keyword).isEmpty then 0 else 1) < 30)) = true := by rfl)
    (hline : (apos.endLine == cpos.line) = true := by rfl) (hs : starEach (e :: es) X.env = (false, eval e X.env) :: starEach es X.env := by rfl) (hplain : (backTo cpos (starEach es X.env)).any (·.1) = false := by rfl) :
    PE X (.Call (.Attribute o name apos) (e :: es) [] cpos) (tBM X.K T r to t) := by
  intro pins s σ H Q I h
  refine wpAny_Call_method_late hbase hfew hline rfl (thn (ho pins s σ H _ I h) fun v s1 ⟨x, H1, I1, r1, ty, q1⟩ => ?_)
  obtain ⟨h1, h2⟩ := tyV_is I1 r1 ty
  refine ⟨T, id, pa, slot, hty, h1, h2, ?_⟩
  have hA := ha cpos pins s1 σ H1 _ I1 q1
  rw [hs] at hA ⊢
  refine Calls.callWith_builtin (by show (false || (backTo cpos (starEach es X.env)).any (·.1)) = false; rw [hplain] <;> rfl) (Calls.evalArgs_plain ?_)
  exact thn hA fun us s2 ⟨vs, H2, I2, r2, q2⟩ => hm pins s2 σ H2 x vs v us Q I2 r1 r2 q2
/- xs.append(e), list.index on a module's tuple .. are MtR facts of 06m -/
end
end L2

namespace L2
open PySem PySem.Spec PyProof.Rows

def MtM (X : Cx) (id : String) (r : V → List V → Hp → VK → Prop) : Prop :=
  ∀ (pins : List (Addr × Obj)) (s : Shared) (σ : St) (H : Hp) (x : V) (xs : List V) (v : Value) (us : List Value) (Q : VK), Inv X pins σ H s → RelV x v → Vals xs us → r x xs H Q →
    wpAny (model X.prog X.w) X.A (call (.builtin id) (v :: us)) (EP X pins σ Q) X.xe s

/-! ### lists of values -/
theorem Vals.one : ∀ {x : V} {us : List Value}, Vals [x] us → ∃ u, us = [u] ∧ RelV x u
  | _, _, .cons r .nil => ⟨_, rfl, r⟩
theorem Vals.two : ∀ {x y : V} {us : List Value}, Vals [x, y] us → ∃ u v, us = [u, v] ∧ RelV x u ∧ RelV y v
  | _, _, _, .cons r (.cons q .nil) => ⟨_, _, rfl, r, q⟩
theorem Vals.zero : ∀ {us : List Value}, Vals [] us → us = []
  | _, .nil => rfl
theorem Vals.dropLast {xs : List V} {us : List Value} (h : Vals xs us) : Vals xs.dropLast us.dropLast := by
  induction h with
  | nil => exact .nil
  | cons r t ih =>
    cases t with
    | nil => exact .nil
    | cons q t' => exact .cons r ih
theorem Vals.eraseIdx : ∀ {xs : List V} {us : List Value} (i : Nat), Vals xs us → Vals (xs.eraseIdx i) (us.eraseIdx i)
  | _, _, _, .nil => .nil
  | _, _, 0, .cons _ t => t
  | _, _, i + 1, .cons r t => .cons r (Vals.eraseIdx i t)
theorem Vals.reverse {xs : List V} {us : List Value} (h : Vals xs us) : Vals xs.reverse us.reverse := by
  induction h with
  | nil => exact .nil
  | cons r t ih => rw [List.reverse_cons, List.reverse_cons]; exact Vals.append ih (.cons r .nil)

section
variable {X : Cx} {pins : List (Addr × Obj)} {σ : St} {H : Hp} {s : Shared} {l b : Addr} {xs ys zs : List V}

/-! ### the two steps: a tracked list is rewritten, a new list is laid -/
theorem Inv.lset {its its' : List Value} {n : Nat} {f : Array Value → Array Value} {t' : Nat} (I : Inv X pins σ H s) (hH : H l = some (.lst xs))
    (e : s.heap.get? l = some { cls := .type "list", data := .seq its.toArray n }) (hf : f its.toArray = its'.toArray) (hv : Vals ys its') (hz : ys.length ≤ sizeLine) :
    Inv X pins σ (upd H l (.lst ys)) { s with heap := s.heap.update l (Obj.mapSeq f), toks := t' } := by
  have q := PySem.IsL.update e f
  rw [hf] at q
  refine I.write (x := l) (e := l) (by rw [hH]; exact trivial) (.inl rfl) (fun b' u hb hu => (Heap.get?_update_other s.heap (Obj.mapSeq f) (Ne.symm hb)).trans hu) ⟨_, q⟩ ?_
  exact ⟨hz, its', _, hv, q⟩
theorem Inv.lnew {its : List Value} {t' : Nat} (I : Inv X pins σ H s) (hv : Vals ys its) (hz : ys.length ≤ sizeLine) :
    Inv X pins σ (upd H s.heap.objs.size (.lst ys)) { s with heap := s.heap.push { cls := .type "list", data := .seq its.toArray }, toks := t' } :=
  I.laid (fun _ _ q => Heap.get?_push_of_some _ q) (Nat.le_refl _) ⟨hz, its, 0, hv, Heap.get?_push_size _ rfl⟩
theorem Inv.fresh (I : Inv X pins σ H s) : H s.heap.objs.size = none := I.hok.fresh (Nat.le_refl _)
theorem Inv.lstM (I : Inv X pins σ H s) (hH : H l = some (.lst xs)) : xs.length ≤ sizeLine ∧ ∃ (its : List Value) (n : Nat), Vals xs its ∧ xs.length = its.length ∧ s.heap.get? l = some { cls := .type "list", data := .seq its.toArray n } := by
  obtain ⟨z, its, n, r, e⟩ := I.hok l _ hH
  exact ⟨z, its, n, r, r.length, e⟩

end

section
variable {X : Cx}

/-! ### methods -/
def rAppend : V → List V → Hp → VK → Prop := fun x vs H Q => ∃ l xs y, x = .ref l ∧ vs = [y] ∧ H l = some (.lst xs) ∧ xs.length < sizeLine ∧ Q .non (upd H l (.lst (xs ++ [y])))
theorem mt_append : MtM X "list.append" rAppend := by
  intro pins s σ H x vs v us Q I rx rv h
  obtain ⟨l, xs, y, rfl, rfl, hH, hz, q⟩ := h
  cases rx
  obtain ⟨u, rfl, ru⟩ := rv.one
  obtain ⟨z, its, n, r, hl, e⟩ := I.lstM hH
  refine call_meets F.slot_list_append ⟨_, e, rfl⟩ F.entry_list_append (F.args_list_append_2 _ _) (PySem.list_append l its.toArray n u (by rw [List.size_toArray]; omega)) ⟨e, ?_⟩
  refine ⟨.non, _, I.lset (its' := its ++ [u]) hH e (by simp) (r.append (.cons ru .nil)) ?_, rfl, q⟩
  rw [List.length_append, List.length_singleton]
  omega

def rExtend : V → List V → Hp → VK → Prop := fun x vs H Q => ∃ l b xs zs, x = .ref l ∧ vs = [.ref b] ∧ H l = some (.lst xs) ∧ H b = some (.lst zs) ∧ xs.length + zs.length ≤ sizeLine ∧ Q .non (upd H l (.lst (xs ++ zs)))

def rPop : V → List V → Hp → VK → Prop := fun x vs H Q => ∃ l xs y, x = .ref l ∧ vs = [] ∧ H l = some (.lst xs) ∧ xs[xs.length - 1]? = some y ∧ Q y (upd H l (.lst xs.dropLast))

def rPopAt : V → List V → Hp → VK → Prop := fun x vs H Q => ∃ l xs i k y, x = .ref l ∧ vs = [.int i] ∧ H l = some (.lst xs) ∧ -(2 ^ 63) ≤ i ∧ i < 2 ^ 63 ∧ seqIndex? i xs.length = some k ∧ xs[k]? = some y ∧ Q y (upd H l (.lst (xs.eraseIdx k)))

def rReverse : V → List V → Hp → VK → Prop := fun x vs H Q => ∃ l xs, x = .ref l ∧ vs = [] ∧ H l = some (.lst xs) ∧ Q .non (upd H l (.lst xs.reverse))
theorem mt_reverse : MtM X "list.reverse" rReverse := by
  intro pins s σ H x vs v us Q I rx rv h
  obtain ⟨l, xs, rfl, rfl, hH, q⟩ := h
  cases rx
  have hus := rv.zero
  subst hus
  obtain ⟨z, its, n, r, hl, e⟩ := I.lstM hH
  refine call_meets F.slot_list_reverse ⟨_, e, rfl⟩ F.entry_list_reverse (F.args_list_reverse_1 _) (AutoSeq1.list_reverse_list_0 l its.toArray n (by rw [List.size_toArray]; omega)) ⟨e, ?_⟩
  refine ⟨.non, _, I.lset (its' := its.reverse) hH e (by simp) r.reverse ?_, rfl, q⟩
  rw [List.length_reverse]
  omega

def rClear : V → List V → Hp → VK → Prop := fun x vs H Q => ∃ l xs, x = .ref l ∧ vs = [] ∧ H l = some (.lst xs) ∧ Q .non (upd H l (.lst []))

/-! ### list + list, list += list, list * int -/
def rCat : R2 := fun x y H Q => ∃ l b xs zs, x = .ref l ∧ y = .ref b ∧ H l = some (.lst xs) ∧ H b = some (.lst zs) ∧ xs.length + zs.length ≤ sizeLine ∧ ∀ p, H p = none → Q (.ref p) (upd H p (.lst (xs ++ zs)))
theorem op_cat : OpR X (binaryOp .Add) rCat := by
  intro pins s σ H x y v u Q I rx ry h
  obtain ⟨l, b, xs, zs, rfl, rfl, hH, hB, hz, q⟩ := h
  cases rx
  cases ry
  obtain ⟨z, its, n, r, hl, e⟩ := I.lstM hH
  obtain ⟨z2, its2, n2, r2, hl2, e2⟩ := I.lstM hB
  refine PySem.P.add_list e e2 ?_ (by rw [List.size_toArray, List.size_toArray]; omega)
  have ea : its.toArray ++ its2.toArray = (its ++ its2).toArray := by simp
  rw [ea]
  exact ⟨.ref _, _, I.lnew (t' := s.toks) (r.append r2) (by rw [List.length_append]; omega), rfl, q _ I.fresh⟩
/-- a list times an int (a negative one is nothing) -/
def rRep : R2 := fun x y H Q => ∃ l k xs, x = .ref l ∧ y = .int k ∧ H l = some (.lst xs) ∧ -(2 ^ 63) ≤ k ∧ k < 2 ^ 63 ∧ xs.length * k.toNat ≤ sizeLine ∧
  ∀ p, H p = none → Q (.ref p) (upd H p (.lst (List.replicate k.toNat xs).flatten))

/-! ### del xs[i] -/
end

/-! ### xs[a:b] = ys -/
section
variable {prog : Program} {w : World} {A : Around} {E : Value → Shared → Prop} {s : Shared}
end

section
variable {X : Cx}
end
end L2

namespace Att
open PySem PySem.W PySem.Calls PyProof.Rows

/-! ### the script -/
theorem ints_of_wellAll {P : Params} {h : Heap} : ∀ (ns : List Int) (vs : List Value), WellAll P h vs (ns.map WData.int) → IntsAre vs ns := by
  intro ns
  induction ns with
  | nil =>
    intro vs w
    rw [List.map_nil] at w
    cases w
    exact .nil
  | cons n ns ih =>
    intro vs w
    rw [List.map_cons] at w
    cases w with
    | cons a b =>
      cases a
      exact .cons _ _ (ih _ b)

theorem script_of {l : OpenLaw} {n : Nat} (hn : l.most = some n) {P : Params} {h : Heap} {args : List WData} {vals : List Value}
    (hpre : l.row.toRowW.claim.pre args = true) (hwl : WellAll P h vals args) :
    ∃ a vs ns, vals = [Value.ref a] ∧ args = [WData.list (ns.map WData.int)] ∧ h.get? a = some { cls := .type "list", data := .seq vs.toArray } ∧ IntsAre vs ns ∧ ns.length ≤ n := by
  have hsh : WShape.hasAll [] args [.list .int] = true := (pre_splitW hpre).1
  have hc : l.pre.holds [] { args := args } = true := (pre_splitW hpre).2
  obtain ⟨d, r, rfl, h1, h2⟩ := hasAllW_cons hsh
  obtain rfl := hasAllW_nil h2
  obtain ⟨xs, rfl, h3⟩ := hasW_list h1
  obtain ⟨ns, rfl⟩ := items_int h3
  have hlen : ns.length ≤ n := by
    unfold OpenLaw.pre at hc
    have h4 : (WTm.not (.lt (.lit (.int (n : Int))) (.len (.arg 0)))).holds [] { args := [.list (ns.map .int)] } = true := by
      have h4 := (holds_andW hc).1
      rw [hn] at h4
      exact h4
    have h5 := condW_of h4 (w_not (w_lt w_lit (w_len_list (w_arg rfl))))
    rw [List.length_map] at h5
    refine Nat.le_of_not_lt fun q => ?_
    have q' : (n : Int) < ((ns.length : Nat) : Int) := by omega
    first
      | (rw [decide_eq_true q'] at h5; exact absurd h5 (by decide))
      | (simp at h5; omega)
  cases hwl with
  | cons w1 w2 =>
    cases w2
    cases w1 with
    | list ho hall => exact ⟨_, _, ns, rfl, rfl, ho, ints_of_wellAll ns _ hall, hlen⟩

theorem post_true (l : OpenLaw) (args : List WData) : l.row.toRowW.claim.post args (.bool true) args = true :=
  postW_of (r := l.row.toRowW) (X := (true == true))
    (show WShape.has [] (.bool true) .bool = true by first | rfl | decide | simp [WShape.has, WShape.arms, WShape.armsAll])
    (show (WTm.eq .res (.lit (.bool true))).value [] { args := args, res := some (.bool true), after := args } = some (.bool (true == true)) from w_eq_bool (w_res rfl) w_lit) rfl

/-! ### the attachment: holds_open's last premise (the goal 'hc' behind k_head) from a wpAny of the law's body -/

/-- the same from a codeAny of the CALL (for a layer whose function contracts speak of calls) -/
theorem attach_call {l : OpenLaw} {n : Nat} {q : Program} {loose : List Str} {XP : (Str → Option Value) → Heap → Prop} {YP : World → Heap → Prop} {d : DefRec}
    (hn : l.most = some n) (hdf : d.params.defaults = [])
    (call : ∀ (w : World) (s₀ s₁ : Shared) (mg mb : Str → Option Value) (fa : Addr) (o : Obj) (pm cd doc : Value) (a : Addr) (vs : List Value) (ns : List Int),
      Ground q loose [] XP w s₀ mg mb s₁.heap → YP w s₁.heap →
      s₁.heap.get? fa = some o → o.data = .func (docDef d.name d.params d.body d.scope pm cd doc) → s₁.heap.CodeRec cd d.name → mg d.name = some (.ref fa) →
      s₁.heap.get? a = some { cls := .type "list", data := .seq vs.toArray } → IntsAre vs ns → ns.length ≤ n → s₁.gens = #[] →
      codeAny (model l.prog w) callerA (.call (.ref fa) ⟨[.ref a], []⟩) (fun r s' => r = .ok (.ret (.bool true)) ∧ OldK s₁.heap s'.heap ∧ s'.os = s₁.os ∧ AllBare s'.gens) s₁) :
    WalkO q loose XP YP l.row.toRowW d [] (fun f vs => PySem.call f vs) := by
  intro w s₀ s₁ mg mb G Y fa o pm cd doc dV kV ho hd hcd hD hmg hg args vals as hpre hlay hrd hwl hlo
  obtain rfl : dV = .none := Dflts.none hD hdf
  obtain rfl : kV = .none := Dflts.noKw hD
  obtain ⟨a, vs, ns, rfl, rfl, hobj, hints, hlen⟩ := script_of hn hpre hwl
  refine enter_call (codeAny_mono (call w s₀ s₁ mg mb fa o pm cd doc a vs ns G Y ho (fd_plain hd) hcd hmg hobj hints hlen hg) fun r s' hq => ?_)
  obtain ⟨rfl, h2, h3, h4⟩ := hq
  exact ⟨.inl ⟨.bool true, .bool true, [], rfl, fun _ => rfl, .bool true, post_true l _, fun _ => ⟨List.Pairwise.nil, fun _ hm => (nomatch hm)⟩⟩, h2, h3, h4⟩


/-! ### rules over ANY heap (no ledger) from facts about the written part K: the library's own take a ledger (News) for what they write -/
section
variable {prog : Program} {w : World} {A : Around} {E : Value → Shared → Prop} {s : Shared} {K : Frag}





/-! the whole heap as the ledger: makes every rule that writes through a ledger a rule over any heap -/
def noObjs (h : Heap) : Heap := { h with objs := #[] }
def ledger (h : Heap) (L d : Addr) : List (Addr × Obj) := (List.range h.objs.size).filterMap fun a => if a = L ∨ a = d then none else (h.get? a).map fun o => (a, o)

end
end Att

namespace L2
open PySem PySem.Spec PyProof.Rows

theorem vals_ints : ∀ {vs : List Value} {ns : List Int}, IntsAre vs ns → Vals (ns.map V.int) vs
  | _, _, .nil => .nil
  | _, _, .cons n t h => .cons ⟨t, rfl⟩ (vals_ints h)

/-- nothing is tracked but the script, known to the object (or it is an object of the module) -/
def Only (H : Hp) : Prop := ∀ b, H b = none ∨ ∃ o xs, H b = some (.frz o (.lst xs))

/-- THE HEAD: the law's promise, at the heap behind the top. F, the promise of the law's def, may use that base is part of the heap (so K.In base, base.Ns mainGlobals mg stand in Mod) -/
theorem law_call {P : Program} {w : World} {K : PySem.W.Frag} {mg mb : Str → Option Value} {CX : CXT} {k : Nat} {fa a : Addr} {fd : FuncData} {x : Str} {sp : Sp} {s₁ : Shared} {vs : List Value} {ns : List Int}
    (KX : K.In s₁.heap) (hns : s₁.heap.Ns mainGlobals mg) (hb : s₁.heap.Ns builtinsNs mb) (hbb : ∀ x : Str, x ≠ "__name__" → mb x = bootBuiltins x) (hlim : s₁.heap.NoLimit) (hg : s₁.gens = #[])
    (ha : s₁.heap.get? a = some { cls := .type "list", data := .seq vs.toArray }) (hi : IntsAre vs ns) (hl : ns.length ≤ sizeLine) (hr : Room k callerA)
    (F : ∀ base : Heap, K.In base → base.Ns mainGlobals mg → FnOk P w K mg base CX k fa fd [x] sp) (hbind : ∀ (s : Shared) (u : Value), BindsTo s fd ⟨[u], []⟩ [(x, u)])
    (hsp : ∀ H : Hp, Only H → SqL K H a (ns.map V.int) → sp [.ref a] H (fun v _ => v = .bl true) fun _ _ _ => False)
    (hCX : ∀ H e s', CX [] H s₁ (fun _ _ _ => False) e s' → False) :
    codeAny (model P w) callerA (.call (.ref fa) ⟨[.ref a], []⟩) (fun r s' => r = .ok (.ret (.bool true)) ∧ OldK s₁.heap s'.heap ∧ s'.os = s₁.os ∧ AllBare s'.gens) s₁ := by
  have rv := vals_ints hi
  have lenV := hi.length
  -- from an abstract heap in which nothing but the script may be tracked
  have core : ∀ H : Hp, Only H → SqL K H a (ns.map V.int) → HOk P w H s₁.heap → (∀ b, H b ≠ none → b = a) → (H a ≠ none → K.lookup a = none) →
      codeAny (model P w) callerA (.call (.ref fa) ⟨[.ref a], []⟩) (fun r s' => r = .ok (.ret (.bool true)) ∧ OldK s₁.heap s'.heap ∧ s'.os = s₁.os ∧ AllBare s'.gens) s₁ := by
    intro H hO hS hok hA hK
    have base_of : ∀ {b : Addr} {o : Obj}, s₁.heap.get? b = some o → H b = none → (hidT s₁.heap H).get? b = some o := fun e n => hidT_get e n
    have noA : ∀ {b : Addr} {o : Obj} {es : Array DictEntry} {ep : Nat}, s₁.heap.get? b = some o → o.data = .dict es ep → H b = none := fun {b o es ep} e d => by
      cases q : H b with
      | none => rfl
      | some u =>
        have e' : b = a := hA b (by rw [q]; simp)
        subst e'
        rw [ha] at e; cases e
        have d' : Data.seq vs.toArray _ = Data.dict es ep := d
        cases d'
    have nsK : ∀ {b : Addr} {m : Str → Option Value}, s₁.heap.Ns b m → (hidT s₁.heap H).Ns b m := fun {b m} ⟨o, es, ep, e, d, r⟩ => ⟨o, es, ep, base_of e (noA e d), d, r⟩
    have hKb : K.In (hidT s₁.heap H) := fun b o e => base_of (KX b o e) (by
      cases q : H b with
      | none => rfl
      | some u =>
        have e' : b = a := hA b (by rw [q]; simp)
        subst e'
        rw [hK (by rw [q]; simp)] at e; cases e)
    have hM : Mod K mg (hidT s₁.heap H) := ⟨hKb, nsK hns, ⟨mb, nsK hb, hbb⟩, let ⟨mc, h1, h2⟩ := hlim; ⟨mc, nsK h1, h2⟩⟩
    have e0 : Env0 P w K mg (hidT s₁.heap H) callerA [] s₁ H := ⟨rfl, hM, fun b o e => of_hidT e, Nat.le_of_eq (hidT_size _ _), trivial, fun b hb => absurd (show b ∈ ([] : List Addr) from hb) (by simp), hok, .of_eq hg⟩
    refine codeAny_mono ((F _ hKb (nsK hns)).run callerA [] s₁ H ⟨[.ref a], []⟩ [.ref a] [.ref a] _ _ hr e0 (hbind s₁ (.ref a)) (.cons rfl .nil) (hsp H hO hS)) fun r s' h => ?_
    cases r with
    | error e => exact (hCX H e s' h).elim
    | ok fl =>
      cases fl with
      | next => exact False.elim h
      | brk => exact False.elim h
      | cont => exact False.elim h
      | ret u =>
        obtain ⟨v, H', os, bare, un, hok', r', q⟩ := h
        have q' : v = .bl true := q
        subst q'
        obtain rfl : u = Value.bool true := r'
        refine ⟨rfl, OldK.of_keep fun b o e => ?_, os, bare⟩
        cases q : H b with
        | none => exact un.keep b o e q (by intro z; exact absurd (show b ∈ ([] : List Addr) from z) (by simp)) (by simp)
        | some u =>
          rcases hO b with z | ⟨ob, xs, z⟩
          · rw [q] at z; cases z
          · have z2 := un.frzs b ob _ z
            obtain ⟨e1, _⟩ := hok b _ z
            obtain ⟨e2, _⟩ := hok' b _ z2
            rw [e] at e1; cases e1
            exact e2
  cases hk : K.lookup a with
  | some o =>
    -- the script is one of the module's own objects
    have e := KX a o hk
    rw [ha] at e
    cases e
    refine core (fun _ => none) (fun _ => .inl rfl) (.inr ⟨_, vs.toArray, _, hk, rfl, rfl, rfl, by rw [List.size_toArray, lenV]; exact hl, by simpa using rv⟩) (fun b u z => by have z' : (none : Option HO) = some u := z; cases z') (fun b z => absurd rfl z) fun z => absurd rfl z
  | none =>
    refine core (fun b => if b = a then some (.frz { cls := .type "list", data := .seq vs.toArray } (.lst (ns.map V.int))) else none) (fun b => ?_) (.inl (.inr ⟨{ cls := .type "list", data := .seq vs.toArray }, if_pos rfl⟩)) (fun b u z => ?_) (fun b z => ?_) fun _ => hk
    · by_cases hb : b = a
      · exact .inr ⟨_, _, if_pos hb⟩
      · exact .inl (if_neg hb)
    · by_cases hb : b = a
      · have z' := (if_pos hb).symm.trans z
        cases z'
        subst hb
        exact ⟨ha, by rw [List.length_map]; exact hl, vs, _, rv, ha⟩
      · have z' := (if_neg hb).symm.trans z
        cases z'
    · by_cases hb : b = a
      · exact hb
      · exact absurd (if_neg hb) z
end L2

namespace L2
open PySem PySem.Spec PyProof.Rows

abbrev KOf {K : PySem.W.Frag} {h : Heap} (_ : K.In h) : PySem.W.Frag := K

/-- the goal that k_head leaves (case hc), from the law's promise. F gives the function object fd (K's own) once, then the promise over every base -/
theorem walk_of {l : PySem.W.OpenLaw} {n k : Nat} {q : Program} {loose : List Str} {XP : (Str → Option Value) → Heap → Prop} {YP : World → Heap → Prop} {d : DefRec} {K : Params → PySem.W.Frag} {CX : World → CXT} {sp : World → Sp} {x : Str}
    (hn : l.most = some n) (hn2 : n ≤ sizeLine) (hdf : d.params.defaults = []) (hr : Room k callerA)
    (hY : ∀ (w : World) (h : Heap), YP w h → (K w.params).In h)
    (F : ∀ (w : World) (mg : Str → Option Value) (fa : Addr) (h : Heap), (K w.params).In h → h.Ns mainGlobals mg → mg d.name = some (.ref fa) →
      ∃ fd : FuncData, (∀ (s : Shared) (u : Value), BindsTo s fd ⟨[u], []⟩ [(x, u)]) ∧
        ∀ base : Heap, (K w.params).In base → base.Ns mainGlobals mg → FnOk l.prog w (K w.params) mg base (CX w) k fa fd [x] (sp w))
    (hsp : ∀ (w : World) (H : Hp) (a : Addr) (ns : List Int), ns.length ≤ n → Only H → SqL (K w.params) H a (ns.map V.int) → sp w [.ref a] H (fun v _ => v = .bl true) fun _ _ _ => False)
    (hCX : ∀ (w : World) (H : Hp) (s : Shared) (e : Value) (s' : Shared), CX w [] H s (fun _ _ _ => False) e s' → False) :
    PySem.W.WalkO q loose XP YP l.row.toRowW d [] (fun f vs => PySem.call f vs) := by
  refine Att.attach_call hn hdf fun w s₀ s₁ mg mb fa o pm cd doc a vs ns G Y ho hd hcd hmg hobj hints hlen hg => ?_
  have KX := hY w _ Y
  obtain ⟨fd, hb, hF⟩ := F w mg fa _ KX G.T.g hmg
  exact law_call KX G.T.g G.T.b G.T.builtins G.T.nolimit hg hobj hints (Nat.le_trans hlen hn2) hr hF hb (fun H hO hS => hsp w H a ns hlen hO hS) fun H e s' => hCX w H s₁ e s'
end L2


/-! SHORT WORDS over the layer: a def of the text, its body, what a loop and a test want. -/
namespace L2
open PySem PySem.Spec PyProof.Rows

/-! ### the text by places -/
/-- the j-th statement of a class's body -/
def inClass (s : Stmt) (j : Nat) : Stmt := match s with
  | .ClassDef _ _ _ body _ _ _ _ _ _ _ => body.getD j (.Pass ⟨0, 0, 0, 0⟩)
  | _ => .Pass ⟨0, 0, 0, 0⟩
def defArgs (s : Stmt) : Arguments := match s with
  | .FunctionDef _ a _ _ _ _ _ _ _ _ => a
  | _ => { posonlyargs := [], args := [], vararg := none, kwonlyargs := [], kw_defaults := [], kwarg := none, defaults := [] }
def defBody (s : Stmt) : List Stmt := match s with
  | .FunctionDef _ _ b _ _ _ _ _ _ _ => b
  | _ => []
def defScope (s : Stmt) : Scope := match s with
  | .FunctionDef _ _ _ _ _ _ sc _ _ _ => sc
  | _ => { kind := .function, names := [], isGenerator := false, isCoroutine := false }

/-! ### no exception leaves a def -/
abbrev CX0 : CXT := fun _ _ _ _ _ _ => False
abbrev E0 : XK := fun _ _ _ => False
theorem pass0 {X : Cx} : Passes CX0 X E0 := fun _ _ _ _ _ _ _ h => h.elim

/-! ### a def (or method) of the text as it stands behind the top -/
structure Fun (K : PySem.W.Frag) (x qual : Str) (st : Stmt) (f : Addr) (fd : FuncData) : Prop where
  ex : ∃ (oc : Value) (od : Option Addr) (kV doc pm : Value) (an : Option Addr) (cdv ct : Value) (osl : Array (Option Value)),
    fd = PySem.W.fnOf x qual (defArgs st) (defBody st) (defScope st) .none kV doc pm an cdv ct ∧ K.lookup f = some ⟨oc, od, .func fd, osl⟩ ∧ PySem.W.codeIn K cdv qual = true
  kp : PySem.W.keepIn K (.ref f) = true
section
variable {P : Program} {w : World} {K : PySem.W.Frag} {mg : Str → Option Value} {base : Heap}
/-- THE RULE for a def: its body as a term of rules, and the reading of that term -/
theorem Fun.ok {x qual : Str} {st : Stmt} {f : Addr} {fd : FuncData} {N ps : List Str} {k : Nat} {sp : Sp} (F : Fun K x qual st f fd) (S : FnScope N ps (defScope st)) (len : ∀ vs H Q E, sp vs H Q E → vs.length = ps.length)
    (hbody : ∀ (cdv : Value) (A : Around) (outer : List Env) (s : Shared) (H : Hp) (vs : List V) (Q : VK) (E : XK), Room k (A.deeper (envOfC qual (defScope st) s.heap.objs.size f cdv)) → sp vs H Q E →
      ∃ t, PSs (cxOf CX0 P w K mg base N qual (defScope st) f cdv A outer s H E).nox (defBody st) t ∧ t { nx := fun _ H' => Q .non H', rt := Q } (start N vs) H) : FnOk P w K mg base CX0 (k + 1) f fd ps sp := by
  obtain ⟨oc, od, kV, doc, pm, an, cdv, ct, osl, rfl, lk, hcd⟩ := F.ex
  refine fn_of lk hcd S len fun A outer s H vs Q E hr hsp => ?_
  obtain ⟨t, h, q⟩ := hbody cdv A outer s H vs Q E hr hsp
  exact ⟨t, h.nox, q⟩
/-- how its arguments bind (no defaults): h is «fun _ _ _ _ _ _ us hl => match us, hl with | [_, _], _ => rfl», one _ a parameter -/
theorem Fun.binds {x qual : Str} {st : Stmt} {f : Addr} {fd : FuncData} {ps : List Str} (F : Fun K x qual st f fd)
    (h : ∀ (kV doc pm : Value) (an : Option Addr) (cdv ct : Value) (us : List Value), us.length = ps.length → bindArgs (PySem.W.fnOf x qual (defArgs st) (defBody st) (defScope st) .none kV doc pm an cdv ct) ⟨us, []⟩ = pure (ps.zip us)) : Binds K fd ps [] := by
  obtain ⟨oc, od, kV, doc, pm, an, cdv, ct, osl, rfl, lk, hcd⟩ := F.ex
  exact .all (h kV doc pm an cdv ct)
theorem fun_mk {x qual : Str} {st : Stmt} {f : Addr} {oc : Value} {od an : Option Addr} {osl : Array (Option Value)} {kV doc pm cdv ct : Value} (l : K.lookup f = some ⟨oc, od, .func (PySem.W.fnOf x qual (defArgs st) (defBody st) (defScope st) .none kV doc pm an cdv ct), osl⟩)
    (c : PySem.W.codeIn K cdv qual = true) (k : PySem.W.keepIn K (.ref f) = true) : Fun K x qual st f (PySem.W.fnOf x qual (defArgs st) (defBody st) (defScope st) .none kV doc pm an cdv ct) := ⟨⟨oc, od, kV, doc, pm, an, cdv, ct, osl, rfl, l, c⟩, k⟩
end

/-! ### expressions in short: the name that stands in the i-th slot -/
section
variable {X : Cx}
theorem pv (i : Nat) {x : Str} {pos : Pos} (hN : X.N[i]? = some x := by rfl) (hv : Vis X.env.scope x := by first | exact Or.inl rfl | exact Or.inr (Or.inl rfl) | exact Or.inr (Or.inr rfl)) (hd : (x == ("__debug__" : Str)) = false := by decide)
    (hcd : (x == ("__classdict__" : Str)) = false := by decide) : PE X (.Name x pos) (tVar i) := pe_var hN hv hd hcd
end

/-! ### tests -/
theorem iteT {A B : Prop} (h : A) : if true = true then A else B := by
  rw [if_pos rfl]
  exact h
theorem ite2 {c A B : Prop} [Decidable c] (h1 : c → A) (h2 : ¬ c → B) : if c then A else B := by
  by_cases h : c
  · rw [if_pos h]
    exact h1 h
  · rw [if_neg h]
    exact h2 h

/-! ### heaps -/
/-- all that was tracked is as it was -/
def Same (H H' : Hp) : Prop := ∀ b o, H b = some o → H' b = some o
theorem Same.refl (H : Hp) : Same H H := fun _ _ h => h
theorem Same.trans {H H1 H2 : Hp} (a : Same H H1) (b : Same H1 H2) : Same H H2 := fun c o h => b c o (a c o h)
theorem Same.free {H H' : Hp} (e : Same H H') {l : Addr} (h : H' l = Option.none) : H l = Option.none := by
  cases q : H l with
  | none => rfl
  | some o =>
    rw [e l o q] at h
    cases h
theorem Same.seq {K : PySem.W.Frag} {H H' : Hp} {a : Addr} {xs : List V} (e : Same H H') (h : SqL K H a xs) : SqL K H' a xs := by
  rcases h with (h | ⟨o, h⟩) | h
  · exact .inl (.inl (e _ _ h))
  · exact .inl (.inr ⟨o, e _ _ h⟩)
  · exact .inr h

end L2

namespace L2
open PySem PySem.Spec PyProof.Rows

/-! ### lists of pairs as tables -/
section
variable {κ : Type} [DecidableEq κ]
def valV (kvs : List (κ × V)) (k : κ) : Option V := (kvs.find? fun kv => decide (kv.1 = k)).map (·.2)
/-- in its place, or at the end -/
def putK (kvs : List (κ × V)) (k : κ) (v : V) : List (κ × V) :=
  if (kvs.any fun kv => decide (kv.1 = k)) = true then kvs.map (fun kv => if kv.1 = k then (kv.1, v) else kv) else kvs ++ [(k, v)]
def dropK (kvs : List (κ × V)) (k : κ) : List (κ × V) := kvs.filter fun kv => decide (kv.1 ≠ k)

theorem valV_pos {p : κ × V} {r : List (κ × V)} {k : κ} (e : p.1 = k) : valV (p :: r) k = some p.2 := by simp [valV, List.find?_cons, e]
theorem valV_neg {p : κ × V} {r : List (κ × V)} {k : κ} (e : ¬ p.1 = k) : valV (p :: r) k = valV r k := by simp [valV, List.find?_cons, e]
theorem valV_any (k : κ) : ∀ kvs : List (κ × V), (kvs.any fun kv => decide (kv.1 = k)) = (valV kvs k).isSome
  | [] => rfl
  | p :: r => by
    rw [List.any_cons]
    by_cases e : p.1 = k
    · simp only [valV_pos e, decide_eq_true e, Bool.true_or, Option.isSome_some]
    · rw [valV_neg e, decide_eq_false e, Bool.false_or]; exact valV_any k r

theorem RelO.isSome_eq {o : Option V} {u : Option Value} (r : RelO o u) : o.isSome = u.isSome := by
  cases o with
  | none => cases u with
    | none => rfl
    | some _ => exact (show False from r).elim
  | some _ => cases u with
    | none => exact (show False from r).elim
    | some _ => rfl
theorem RelO.getD {o : Option V} {u : Option Value} {d : V} {d' : Value} (r : RelO o u) (rd : RelV d d') : RelV (o.getD d) (u.getD d') := by
  cases o with
  | none => cases u with
    | none => exact rd
    | some _ => exact (show False from r).elim
  | some _ => cases u with
    | none => exact (show False from r).elim
    | some _ => exact r

/-- raw tables of the same keys -/
theorem KV.val {kvs : List (κ × V)} {vs : List (κ × Value)} (r : KV kvs vs) (k : κ) : RelO (valV kvs k) (valueAt vs k) := by
  unfold KV at r
  induction r with
  | nil => exact True.intro
  | @cons p q ps qs h t ih =>
    obtain ⟨h1, h2⟩ := h
    by_cases e : p.1 = k
    · have e' : q.1 = k := h1.symm.trans e
      have b : valueAt (q :: qs) k = some q.2 := by simp [valueAt, List.find?_cons, e']
      rw [valV_pos e, b]; exact h2
    · have e' : ¬ q.1 = k := fun z => e (h1.trans z)
      have b : valueAt (q :: qs) k = valueAt qs k := by simp [valueAt, List.find?_cons, e']
      rw [valV_neg e, b]; exact ih
theorem KV.any {kvs : List (κ × V)} {vs : List (κ × Value)} (r : KV kvs vs) (k : κ) : (kvs.any fun kv => decide (kv.1 = k)) = vs.any fun kv => decide (kv.1 = k) := by
  unfold KV at r
  induction r with
  | nil => rfl
  | cons h t ih => rw [List.any_cons, List.any_cons, ih, h.1]
theorem KV.repl {kvs : List (κ × V)} {vs : List (κ × Value)} (r : KV kvs vs) (k : κ) {y : V} {u : Value} (ry : RelV y u) :
    KV (kvs.map fun kv => if kv.1 = k then (kv.1, y) else kv) (vs.map fun kv => if kv.1 = k then (kv.1, u) else kv) := by
  unfold KV at r ⊢
  induction r with
  | nil => exact .nil
  | @cons p q ps qs h t ih =>
    rw [List.map_cons, List.map_cons]
    refine .cons ?_ ih
    obtain ⟨h1, h2⟩ := h
    by_cases e : p.1 = k
    · rw [if_pos e, if_pos (h1.symm.trans e)]; exact ⟨h1, ry⟩
    · rw [if_neg e, if_neg (fun z => e (h1.trans z))]; exact ⟨h1, h2⟩
theorem KV.put {kvs : List (κ × V)} {vs : List (κ × Value)} (r : KV kvs vs) (k : κ) {y : V} {u : Value} (ry : RelV y u) : KV (putK kvs k y) (stored vs k u) := by
  unfold putK stored
  rw [r.any k]
  by_cases e : (vs.any fun kv => decide (kv.1 = k)) = true
  · rw [if_pos e, if_pos e]; exact r.repl k ry
  · rw [if_neg e, if_neg e]; exact Paired.snoc r ⟨rfl, ry⟩
theorem KV.drop {kvs : List (κ × V)} {vs : List (κ × Value)} (r : KV kvs vs) (k : κ) : KV (dropK kvs k) (without vs k) := by
  unfold KV at r ⊢
  unfold dropK without
  induction r with
  | nil => exact .nil
  | @cons p q ps qs h t ih =>
    obtain ⟨h1, h2⟩ := h
    rw [List.filter_cons, List.filter_cons]
    by_cases e : p.1 = k
    · have a : ¬ decide (p.1 ≠ k) = true := by simp [e]
      have b : ¬ decide (q.1 ≠ k) = true := by simp [h1.symm.trans e]
      rw [if_neg a, if_neg b]; exact ih
    · have e' : ¬ q.1 = k := fun z => e (h1.trans z)
      have a : decide (p.1 ≠ k) = true := by simp [e]
      have b : decide (q.1 ≠ k) = true := by simp [e']
      rw [if_pos a, if_pos b]; exact .cons ⟨h1, h2⟩ ih
theorem KV.keys {kvs : List (κ × V)} {vs : List (κ × Value)} (r : KV kvs vs) : kvs.map (·.1) = vs.map (·.1) := by
  unfold KV at r
  induction r with
  | nil => rfl
  | cons h t ih => rw [List.map_cons, List.map_cons, ih, h.1]
theorem KV.length {kvs : List (κ × V)} {vs : List (κ × Value)} (r : KV kvs vs) : kvs.length = vs.length := Paired.length r
end


/-! ### a tracked dict, its keys ints and texts or tuples of these -/

/-- raw entries of a dict with tuple keys -/
abbrev KT (H : Hp) : List (List Key × V) → List (List Key × Addr × Value) → Prop := Paired fun p q => p.1 = q.1 ∧ H q.2.1 = some (.tup (p.1.map kV)) ∧ RelV p.2 q.2.2
theorem KT.val {H : Hp} {kvs : List (List Key × V)} {xs : List (List Key × Addr × Value)} (r : KT H kvs xs) (k : List Key) : RelO (valV kvs k) ((atKey xs k).map (·.2)) := by
  induction r with
  | nil => exact True.intro
  | @cons p q ps qs h t ih =>
    obtain ⟨h1, _, h2⟩ := h
    by_cases e : p.1 = k
    · have e' : q.1 = k := h1.symm.trans e
      have b : atKey (q :: qs) k = some q.2 := by simp [atKey, List.find?_cons, e']
      rw [valV_pos e, b]; exact h2
    · have e' : ¬ q.1 = k := fun z => e (h1.trans z)
      have b : atKey (q :: qs) k = atKey qs k := by simp [atKey, List.find?_cons, e']
      rw [valV_neg e, b]; exact ih
theorem KT.repl {H : Hp} {kvs : List (List Key × V)} {xs : List (List Key × Addr × Value)} (r : KT H kvs xs) (k : List Key) {y : V} {u : Value} (ry : RelV y u) :
    KT H (kvs.map fun kv => if kv.1 = k then (kv.1, y) else kv) (xs.map (putAt k u)) := by
  induction r with
  | nil => exact .nil
  | @cons p q ps qs h t ih =>
    rw [List.map_cons, List.map_cons]
    refine .cons ?_ ih
    obtain ⟨h1, h2, h3⟩ := h
    unfold putAt
    by_cases e : p.1 = k
    · rw [if_pos e, if_pos (h1.symm.trans e)]; exact ⟨h1, h2, ry⟩
    · rw [if_neg e, if_neg (fun z => e (h1.trans z))]; exact ⟨h1, h2, h3⟩
theorem KT.put {H : Hp} {kvs : List (List Key × V)} {xs : List (List Key × Addr × Value)} (r : KT H kvs xs) (k : List Key) {b : Addr} {y : V} {u : Value} (hb : H b = some (.tup (k.map kV))) (ry : RelV y u) :
    KT H (putK kvs k y) (storedH xs k b u) := by
  have e : (kvs.any fun kv => decide (kv.1 = k)) = (atKey xs k).isSome := by
    rw [valV_any, (r.val k).isSome_eq, Option.isSome_map]
  unfold putK storedH
  rw [e]
  by_cases q : (atKey xs k).isSome = true
  · rw [if_pos q, if_pos q]; exact r.repl k ry
  · rw [if_neg q, if_neg q]; exact Paired.snoc r ⟨rfl, hb, ry⟩
theorem KT.keeps {H H' : Hp} {kvs : List (List Key × V)} {xs : List (List Key × Addr × Value)} (r : KT H kvs xs) (ht : ∀ b ys, H b = some (.tup ys) → H' b = some (.tup ys)) : KT H' kvs xs :=
  Paired.mapP r fun _ _ z => ⟨z.1, ht _ _ z.2.1, z.2.2⟩

section
variable {P : Program} {w : World} {H : Hp} {h : Heap} {a : Addr}
end

/-- what the dict at a holds at the key y -/
def DGet (H : Hp) (a : Addr) (y : V) (r : Option V) : Prop :=
  (∃ kvs k, Rd H a (.dK kvs) ∧ y = kV k ∧ r = valV kvs k) ∨ ∃ kvs k b, Rd H a (.dT kvs) ∧ y = .ref b ∧ H b = some (.tup (k.map kV)) ∧ r = valV kvs k
/-- the heap behind a[y] = v -/
def DPut (H : Hp) (a : Addr) (y v : V) (H' : Hp) : Prop :=
  (∃ kvs k, H a = some (.dK kvs) ∧ y = kV k ∧ kvs.length < sizeLine ∧ H' = upd H a (.dK (putK kvs k v))) ∨
  ∃ kvs k b, H a = some (.dT kvs) ∧ y = .ref b ∧ H b = some (.tup (k.map kV)) ∧ kvs.length < sizeLine ∧ H' = upd H a (.dT (putK kvs k v))
theorem DGet.k {H : Hp} {a : Addr} {kvs : List (Key × V)} {k : Key} (e : H a = some (.dK kvs)) : DGet H a (kV k) (valV kvs k) := .inl ⟨kvs, k, .inl e, rfl, rfl⟩
theorem DGet.t {H : Hp} {a b : Addr} {kvs : List (List Key × V)} {k : List Key} (e : H a = some (.dT kvs)) (eb : H b = some (.tup (k.map kV))) : DGet H a (.ref b) (valV kvs k) := .inr ⟨kvs, k, b, .inl e, rfl, eb, rfl⟩
theorem DPut.k {H : Hp} {a : Addr} {kvs : List (Key × V)} {k : Key} {v : V} (e : H a = some (.dK kvs)) (hl : kvs.length < sizeLine) : DPut H a (kV k) v (upd H a (.dK (putK kvs k v))) := .inl ⟨kvs, k, e, rfl, hl, rfl⟩
theorem DPut.t {H : Hp} {a b : Addr} {kvs : List (List Key × V)} {k : List Key} {v : V} (e : H a = some (.dT kvs)) (eb : H b = some (.tup (k.map kV))) (hl : kvs.length < sizeLine) :
    DPut H a (.ref b) v (upd H a (.dT (putK kvs k v))) := .inr ⟨kvs, k, b, e, rfl, eb, hl, rfl⟩


section
variable {X : Cx} {pins : List (Addr × Obj)} {σ : St} {H : Hp} {s : Shared} {a : Addr} {y v : V} {u r : Value} {o : Option V} {A : Around} {E : Value → Shared → Prop}

theorem Inv.big (I : Inv X pins σ H s) : sysModules < s.heap.objs.size := by
  have h : mainGlobals < s.heap.objs.size := (I.mod.glob.keeps I.bk).lt
  exact Nat.lt_trans (by decide) h

/-- a dict's object is replaced -/
theorem d_write {h' : Heap} {t' : Nat} {ob : HO} (I : Inv X pins σ H s) (mu : Mut (H a)) (hs : Heap.SameBut a s.heap h') (he : ∃ q, h'.get? a = some q) (new : ObjOk X.prog X.w (upd H a ob) h' a ob) :
    Inv X pins σ (upd H a ob) { s with heap := h', toks := t' } :=
  I.write (x := a) (e := a) mu (.inl rfl) (fun b q hb z => (hs.2 b hb).trans z) he new
end

section
variable {X : Cx} {pins : List (Addr × Obj)} {σ : St} {H : Hp} {s : Shared} {a : Addr} {kvs : List (Key × V)} {k : Key} {u : Value} {A : Around} {E : Value → Shared → Prop}
end


/-! ### readings and rules -/
/-- the element of a subscription, not a slice -/
def NoSl (i : Expr) : Prop := ∀ ov iv, subscripted i false ov iv = operate [ov, iv] (getItem ov iv)


/-- d[y] -/
def tDGet (td ty : TE) : TE := fun σ H Q => td σ H fun x H1 => ty σ H1 fun y H2 => ∃ a v, x = .ref a ∧ DGet H2 a y (some v) ∧ Q v H2
/-- y in d, y not in d -/
def tDIn (ty td : TE) : TE := fun σ H Q => ty σ H fun y H1 => td σ H1 fun x H2 => ∃ a o, x = .ref a ∧ DGet H2 a y o ∧ Q (.bl o.isSome) H2
def tDNotIn (ty td : TE) : TE := fun σ H Q => ty σ H fun y H1 => td σ H1 fun x H2 => ∃ a o, x = .ref a ∧ DGet H2 a y o ∧ Q (.bl (!o.isSome)) H2
/-- d[y] = v -/
def sDPut (td ty tv : TE) : TS := fun D σ H => tv σ H fun v H1 => td σ H1 fun x H2 => ty σ H2 fun y H3 => ∃ a H4, x = .ref a ∧ DPut H3 a y v H4 ∧ D.nx σ H4
/-- d[y] op= v -/
def sDAug (td ty tv : TE) (rd : V → V → Hp → VK → Prop) : TS := fun D σ H => td σ H fun x H1 => ty σ H1 fun y H2 => ∃ a v, x = .ref a ∧ DGet H2 a y (some v) ∧
  tv σ H2 fun y2 H3 => rd v y2 H3 fun z H4 => ∃ H5, DPut H4 a y z H5 ∧ D.nx σ H5
/-- del d[y] -/
def sDDel (td ty : TE) : TS := fun D σ H => td σ H fun x H1 => ty σ H1 fun y H2 => ∃ a kvs k, x = .ref a ∧ H2 a = some (.dK kvs) ∧ y = kV k ∧ (valV kvs k).isSome = true ∧ D.nx σ (upd H2 a (.dK (dropK kvs k)))

section
variable {X : Cx} {o i e value : Expr} {pos pos' tpos : Pos} {td ty tv : TE}
end


/-! ### displays -/
/-- {}, to be a dict of the kind that is wanted -/
def tDNewK : TE := fun _ H Q => ∀ p, H p = none → Q (.ref p) (upd H p (.dK []))
def tDNewT : TE := fun _ H Q => ∀ p, H p = none → Q (.ref p) (upd H p (.dT []))
section
variable {X : Cx} {pos : Pos}
end

end L2
set_option Elab.async false
set_option linter.all false
set_option maxRecDepth 100000
/-! Data in place of tuples: a layer of our own over the hand layer. A value is data; tuples are data; lists that change lie in a store. -/
namespace SD
open PySem PySem.Spec PyProof.Rows L2

inductive D where
  | non | bl (b : Bool) | int (i : Int) | str (x : Str) | ty (n : String) | ref (a : Addr) | rol (ds : List D) | tup (ds : List D)

/-- a list that nobody changes: frozen, or the module's -/
def SqF (K : PySem.W.Frag) (H : Hp) (a : Addr) (xs : List V) : Prop :=
  (∃ o, H a = some (.frz o (.lst xs))) ∨
    ∃ (o : Obj) (its : Array Value) (n : Nat), K.lookup a = some o ∧ o.cls = .type "list" ∧ o.dict = none ∧ o.data = .seq its n ∧ its.size ≤ sizeLine ∧ Vals xs its.toList
theorem SqF.sql {K : PySem.W.Frag} {H : Hp} {a : Addr} {xs : List V} (h : SqF K H a xs) : SqL K H a xs := by
  rcases h with h | h
  · exact .inl (.inr h)
  · exact .inr h

mutual
def Rep (K : PySem.W.Frag) (H : Hp) : D → V → Prop
  | .non, v => v = .non
  | .bl b, v => v = .bl b
  | .int i, v => v = .int i
  | .str x, v => v = .str x
  | .ty n, v => v = .ty n
  | .ref a, v => v = .ref a
  | .rol ds, v => ∃ a xs, v = .ref a ∧ SqF K H a xs ∧ Reps K H ds xs
  | .tup ds, v => ∃ a xs, v = .ref a ∧ SqT K H a xs ∧ Reps K H ds xs
def Reps (K : PySem.W.Frag) (H : Hp) : List D → List V → Prop
  | [], xs => xs = []
  | d :: ds, xs => ∃ x r, xs = x :: r ∧ Rep K H d x ∧ Reps K H ds r
end

structure Grow (K : PySem.W.Frag) (H H' : Hp) : Prop where
  t : ∀ a xs, SqT K H a xs → SqT K H' a xs
  f : ∀ a xs, SqF K H a xs → SqF K H' a xs
theorem Grow.refl {K : PySem.W.Frag} {H : Hp} : Grow K H H := ⟨fun _ _ h => h, fun _ _ h => h⟩
theorem Grow.trans {K : PySem.W.Frag} {H H1 H2 : Hp} (a : Grow K H H1) (b : Grow K H1 H2) : Grow K H H2 := ⟨fun x y h => b.t x y (a.t x y h), fun x y h => b.f x y (a.f x y h)⟩
theorem Grow.put {K : PySem.W.Frag} {H : Hp} {p : Addr} {o : HO} (h1 : ∀ xs, H p ≠ some (.tup xs)) (h2 : ∀ u xs, H p ≠ some (.frz u xs)) : Grow K H (upd H p o) := by
  refine ⟨fun a xs h => ?_, fun a xs h => ?_⟩
  · rcases h with (h | ⟨u, h⟩) | h
    · exact .inl (.inl (by rw [upd_ne (by intro e; subst e; exact h1 _ h)]; exact h))
    · exact .inl (.inr ⟨u, by rw [upd_ne (by intro e; subst e; exact h2 _ _ h)]; exact h⟩)
    · exact .inr h
  · rcases h with ⟨u, h⟩ | h
    · exact .inl ⟨u, by rw [upd_ne (by intro e; subst e; exact h2 _ _ h)]; exact h⟩
    · exact .inr h
theorem Grow.new {K : PySem.W.Frag} {H : Hp} {p : Addr} {o : HO} (h : H p = none) : Grow K H (upd H p o) :=
  .put (fun xs e => by rw [h] at e; cases e) (fun u xs e => by rw [h] at e; cases e)
theorem Grow.lst {K : PySem.W.Frag} {H : Hp} {p : Addr} {o : HO} {xs : List V} (h : H p = some (.lst xs)) : Grow K H (upd H p o) :=
  .put (fun ys e => by rw [h] at e; cases e) (fun u ys e => by rw [h] at e; cases e)

mutual
theorem Rep.mono {K : PySem.W.Frag} {H H' : Hp} (g : Grow K H H') : ∀ {d : D} {v : V}, Rep K H d v → Rep K H' d v
  | .non, _, h => h
  | .bl _, _, h => h
  | .int _, _, h => h
  | .str _, _, h => h
  | .ty _, _, h => h
  | .ref _, _, h => h
  | .rol ds, _, h => by
    rw [Rep] at h ⊢
    obtain ⟨a, xs, e, h1, h2⟩ := h
    exact ⟨a, xs, e, g.f _ _ h1, Reps.mono g h2⟩
  | .tup ds, _, h => by
    rw [Rep] at h ⊢
    obtain ⟨a, xs, e, h1, h2⟩ := h
    exact ⟨a, xs, e, g.t _ _ h1, Reps.mono g h2⟩
theorem Reps.mono {K : PySem.W.Frag} {H H' : Hp} (g : Grow K H H') : ∀ {ds : List D} {xs : List V}, Reps K H ds xs → Reps K H' ds xs
  | [], _, h => h
  | d :: ds, _, h => by
    rw [Reps] at h ⊢
    obtain ⟨x, r, e, h1, h2⟩ := h
    exact ⟨x, r, e, Rep.mono g h1, Reps.mono g h2⟩
end
section
variable {K : PySem.W.Frag} {H H' : Hp}
theorem Reps.nil : Reps K H [] [] := by rw [Reps]
theorem Reps.cons {d : D} {ds : List D} {x : V} {r : List V} (a : Rep K H d x) (b : Reps K H ds r) : Reps K H (d :: ds) (x :: r) := by rw [Reps]; exact ⟨x, r, rfl, a, b⟩
theorem Reps.length : ∀ {ds : List D} {xs : List V}, Reps K H ds xs → ds.length = xs.length
  | [], xs, h => by rw [Reps] at h; subst h; rfl
  | d :: ds, xs, h => by
    rw [Reps] at h
    obtain ⟨x, r, rfl, _, h2⟩ := h
    simp [Reps.length h2]
theorem Reps.get : ∀ {ds : List D} {xs : List V} {i : Nat} {d : D}, Reps K H ds xs → ds[i]? = some d → ∃ x, xs[i]? = some x ∧ Rep K H d x
  | [], _, _, _, _, e => by simp at e
  | _ :: _, xs, 0, _, h, e => by
    rw [Reps] at h
    obtain ⟨x, r, rfl, h1, _⟩ := h
    simp at e; subst e
    exact ⟨x, rfl, h1⟩
  | _ :: ds, xs, i + 1, d, h, e => by
    rw [Reps] at h
    obtain ⟨x, r, rfl, _, h2⟩ := h
    simpa using Reps.get (i := i) (d := d) h2 (by simpa using e)
theorem Reps.set {d : D} {x : V} (a : Rep K H d x) : ∀ {ds : List D} {xs : List V} (i : Nat), Reps K H ds xs → Reps K H (ds.set i d) (xs.set i x)
  | [], _, _, h => by rw [Reps] at h; subst h; simp [Reps.nil]
  | _ :: _, _, 0, h => by
    rw [Reps] at h
    obtain ⟨y, r, rfl, _, h2⟩ := h
    exact .cons a h2
  | _ :: ds, _, i + 1, h => by
    rw [Reps] at h
    obtain ⟨y, r, rfl, h1, h2⟩ := h
    exact .cons h1 (Reps.set a i h2)
theorem Reps.append : ∀ {ds es : List D} {xs ys : List V}, Reps K H ds xs → Reps K H es ys → Reps K H (ds ++ es) (xs ++ ys)
  | [], _, _, _, h, k => by rw [Reps] at h; subst h; exact k
  | _ :: ds, _, _, _, h, k => by
    rw [Reps] at h
    obtain ⟨y, r, rfl, h1, h2⟩ := h
    exact .cons h1 (Reps.append h2 k)
theorem Reps.of_get : ∀ {ds : List D} {xs : List V}, ds.length = xs.length → (∀ (i : Nat) d x, ds[i]? = some d → xs[i]? = some x → Rep K H d x) → Reps K H ds xs
  | [], [], _, _ => .nil
  | [], _ :: _, h, _ => by simp at h
  | _ :: _, [], h, _ => by simp at h
  | d :: ds, x :: xs, h, k => .cons (k 0 d x rfl rfl) (Reps.of_get (by simpa using h) fun i d x a b => k (i + 1) d x (by simpa using a) (by simpa using b))
theorem Reps.take {ds : List D} {xs : List V} (n : Nat) (h : Reps K H ds xs) : Reps K H (ds.take n) (xs.take n) := by
  refine .of_get (by simp [h.length]) fun i d x a b => ?_
  have hi : i < n := by
    rw [List.getElem?_take] at a
    split at a
    · assumption
    · cases a
  rw [List.getElem?_take_of_lt hi] at a b
  obtain ⟨y, e, r⟩ := h.get a
  rw [e] at b; cases b
  exact r
theorem Reps.drop {ds : List D} {xs : List V} (n : Nat) (h : Reps K H ds xs) : Reps K H (ds.drop n) (xs.drop n) := by
  refine .of_get (by simp [h.length]) fun i d x a b => ?_
  rw [List.getElem?_drop] at a b
  obtain ⟨y, e, r⟩ := h.get a
  rw [e] at b; cases b
  exact r
theorem reps_ints : ∀ (ns : List Int), Reps K H (ns.map D.int) (ns.map V.int)
  | [] => .nil
  | n :: ns => .cons (by rw [Rep]) (reps_ints ns)
end

/-! ### the store -/
/-- an error of the class at C -/
def errF (a C : Addr) : Heap → Prop := fun h => ∃ o, h.get? a = some o ∧ o.cls = .ref C
inductive MO where
  | lst (ds : List D) | err (C : Addr)
  /-- a dict with tuples of ints as keys: at most n, which ones -/
  | dct (n : Nat) (P : List Int → Bool)
  /-- any other thing, by what is true of it in the store of values -/
  | gen (A : PySem.W.Frag → Hp → Addr → Prop)
abbrev MH := Addr → Option MO
def AbsO (K : PySem.W.Frag) (H : Hp) (a : Addr) : MO → Prop
  | .lst ds => ∃ xs, H a = some (.lst xs) ∧ Reps K H ds xs
  | .err C => H a = some (.ext (errF a C))
  | .dct n P => ∃ kvs : List (List Key × V), H a = some (.dT kvs) ∧ kvs.length ≤ n ∧ ∀ k : List Int, (kvs.any fun kv => decide (kv.1 = k.map Sum.inl)) = P k
  | .gen A => A K H a ∧ H a ≠ none ∧ ∀ H', Grow K H H' → H' a = H a → A K H' a
def Abs (K : PySem.W.Frag) (H : Hp) (M : MH) : Prop := ∀ a o, M a = some o → AbsO K H a o
def updM (M : MH) (a : Addr) (o : MO) : MH := fun b => if b = a then some o else M b
theorem updM_same {M : MH} {a : Addr} {o : MO} : updM M a o a = some o := by unfold updM; rw [if_pos rfl]
theorem updM_ne {M : MH} {a b : Addr} {o : MO} (h : b ≠ a) : updM M a o b = M b := by unfold updM; rw [if_neg h]
theorem updM_updM {M : MH} {a : Addr} {o u : MO} : updM (updM M a o) a u = updM M a u := by
  funext b; unfold updM; split <;> rfl
section
variable {K : PySem.W.Frag} {H H' : Hp} {M : MH}
theorem AbsO.some {a : Addr} {o : MO} (h : AbsO K H a o) : H a ≠ none := by
  cases o with
  | lst ds =>
    obtain ⟨xs, h1, _⟩ := h
    rw [h1]; simp
  | err C => rw [show H a = _ from h]; simp
  | dct n P =>
    obtain ⟨kvs, h1, _⟩ := h
    rw [h1]; simp
  | gen A => exact h.2.1
theorem Abs.fresh (h : Abs K H M) {p : Addr} (hp : H p = none) : M p = none := by
  cases e : M p with
  | none => rfl
  | some o => exact absurd hp (h p o e).some
theorem AbsO.stay {a : Addr} {o : MO} (g : Grow K H H') (e : H' a = H a) (h : AbsO K H a o) : AbsO K H' a o := by
  cases o with
  | lst ds =>
    obtain ⟨xs, h1, h2⟩ := h
    exact ⟨xs, e.trans h1, h2.mono g⟩
  | err C => exact e.trans h
  | dct n P =>
    obtain ⟨kvs, h1, h2⟩ := h
    exact ⟨kvs, e.trans h1, h2⟩
  | gen A => exact ⟨h.2.2 H' g e, fun z => h.2.1 (by rw [← e]; exact z), fun H2 g2 e2 => h.2.2 H2 (g.trans g2) (e2.trans e)⟩
theorem Abs.new {p : Addr} {o : HO} (h : Abs K H M) (hp : H p = none) : Abs K (upd H p o) M := fun a u e => by
  have ne : a ≠ p := fun z => by subst z; rw [h.fresh hp] at e; cases e
  exact (h a u e).stay (.new hp) (upd_ne ne)
theorem Abs.newL {p : Addr} {xs : List V} {ds : List D} (h : Abs K H M) (hp : H p = none) (r : Reps K H ds xs) : Abs K (upd H p (.lst xs)) (updM M p (.lst ds)) := fun a u e => by
  by_cases ne : a = p
  · subst ne
    rw [updM_same] at e; cases e
    exact ⟨xs, upd_same, r.mono (.new hp)⟩
  · rw [updM_ne ne] at e
    exact (h a u e).stay (.new hp) (upd_ne ne)
theorem Abs.setL {p : Addr} {xs ys : List V} {ds : List D} (h : Abs K H M) (hp : H p = some (.lst xs)) (r : Reps K H ds ys) : Abs K (upd H p (.lst ys)) (updM M p (.lst ds)) := fun a u e => by
  by_cases ne : a = p
  · subst ne
    rw [updM_same] at e; cases e
    exact ⟨ys, upd_same, r.mono (.lst hp)⟩
  · rw [updM_ne ne] at e
    exact (h a u e).stay (.lst hp) (upd_ne ne)
/-- forget -/
theorem Abs.sub {M' : MH} (h : Abs K H M) (s : ∀ a o, M' a = some o → M a = some o) : Abs K H M' := fun a o e => h a o (s a o e)
end

/-! ### the slots -/
abbrev DS := List (Option D)
structure Slots (K : PySem.W.Frag) (H : Hp) (δ : DS) (σ : L2.St) : Prop where
  len : δ.length = σ.length
  at' : ∀ (i : Nat) d, δ[i]? = some (some d) → ∃ v, σ[i]? = some (some v) ∧ Rep K H d v
section
variable {K : PySem.W.Frag} {H H' : Hp} {δ : DS} {σ : L2.St}
theorem Slots.mono (g : Grow K H H') (h : Slots K H δ σ) : Slots K H' δ σ := ⟨h.len, fun i d e => let ⟨v, a, b⟩ := h.at' i d e; ⟨v, a, b.mono g⟩⟩
theorem Slots.set {d : D} {v : V} (r : Rep K H d v) (i : Nat) (h : Slots K H δ σ) : Slots K H (δ.set i (some d)) (σ.set i (some v)) := by
  refine ⟨by simp [h.len], fun j e q => ?_⟩
  rw [List.getElem?_set] at q
  by_cases hij : i = j
  · subst hij
    rw [if_pos rfl] at q
    by_cases hl : i < δ.length
    · rw [if_pos hl] at q
      cases q
      exact ⟨v, by rw [List.getElem?_set, if_pos rfl, if_pos (by rw [← h.len]; exact hl)], r⟩
    · rw [if_neg hl] at q; cases q
  · rw [if_neg hij] at q
    obtain ⟨v', e1, e2⟩ := h.at' j e q
    exact ⟨v', by rw [List.getElem?_set, if_neg hij]; exact e1, e2⟩
theorem slots_start {N : List Str} {ds : List D} {vs : List V} (r : Reps K H ds vs) : Slots K H (ds.map some ++ List.replicate (N.length - ds.length) none) (L2.start N vs) := by
  have hl := r.length
  refine ⟨by unfold L2.start; simp [hl], fun i d e => ?_⟩
  unfold L2.start
  by_cases hi : i < ds.length
  · rw [List.getElem?_append_left (by simpa using hi), List.getElem?_map] at e
    cases q : ds[i]? with
    | none => rw [q] at e; cases e
    | some d' =>
      rw [q] at e; cases e
      obtain ⟨x, e1, e2⟩ := r.get q
      refine ⟨x, ?_, e2⟩
      rw [List.getElem?_append_left (by simp; omega), List.getElem?_map, e1]; rfl
  · rw [List.getElem?_append_right (by simpa using hi), List.getElem?_replicate] at e
    split at e <;> cases e
end

/-! ### the judgements -/
abbrev DK := D → MH → Prop
abbrev TD := DS → MH → DK → Prop
abbrev TTD := DS → MH → (Bool → MH → Prop) → Prop
abbrev TAD := DS → MH → (List D → MH → Prop) → Prop
structure EndsD where
  nx : DS → MH → Prop
  rt : DK
  bk : DS → MH → Prop := fun _ _ => False
  ct : DS → MH → Prop := fun _ _ => False
abbrev TSD := EndsD → DS → MH → Prop
section
variable (K : PySem.W.Frag)
def Fin (H : Hp) (R : DK) (Q : VK) : Prop := ∀ d M' v H', Grow K H H' → Rep K H' d v → Abs K H' M' → R d M' → Q v H'
def FinT (H : Hp) (R : Bool → MH → Prop) (Q : Bool → Hp → Prop) : Prop := ∀ b M' H', Grow K H H' → Abs K H' M' → R b M' → Q b H'
def FinA (H : Hp) (R : List D → MH → Prop) (Q : List V → Hp → Prop) : Prop := ∀ ds M' vs H', Grow K H H' → Reps K H' ds vs → Abs K H' M' → R ds M' → Q vs H'
def lift (t : TD) : TE := fun σ H Q => ∃ δ M R, Slots K H δ σ ∧ Abs K H M ∧ t δ M R ∧ Fin K H R Q
def liftT (t : TTD) : TT := fun σ H Q => ∃ δ M R, Slots K H δ σ ∧ Abs K H M ∧ t δ M R ∧ FinT K H R Q
def liftA (t : TAD) : TA := fun σ H Q => ∃ δ M R, Slots K H δ σ ∧ Abs K H M ∧ t δ M R ∧ FinA K H R Q
structure EndsOk (H : Hp) (B : EndsD) (E : Ends) : Prop where
  nx : ∀ δ M σ H', Grow K H H' → Slots K H' δ σ → Abs K H' M → B.nx δ M → E.nx σ H'
  rt : ∀ d M v H', Grow K H H' → Rep K H' d v → Abs K H' M → B.rt d M → E.rt v H'
  bk : ∀ δ M σ H', Grow K H H' → Slots K H' δ σ → Abs K H' M → B.bk δ M → E.bk σ H'
  ct : ∀ δ M σ H', Grow K H H' → Slots K H' δ σ → Abs K H' M → B.ct δ M → E.ct σ H'
def liftS (t : TSD) : TS := fun E σ H => ∃ δ M, Slots K H δ σ ∧ Abs K H M ∧ ∃ B, EndsOk K H B E ∧ t B δ M
end
def DE (X : Cx) (e : Expr) (t : TD) : Prop := PE X e (lift X.K t)
def DT (X : Cx) (e : Expr) (t : TTD) : Prop := PT X e (liftT X.K t)
def DW (X : Cx) (e : Expr) (t : TTD) : Prop := PW X e (liftT X.K t)
def DA (X : Cx) (es : List Expr) (t : TAD) : Prop := PA X es (liftA X.K t)
def DSt (X : Cx) (st : Stmt) (t : TSD) : Prop := PS X st (liftS X.K t)
def DSs (X : Cx) (st : List Stmt) (t : TSD) : Prop := PSs X st (liftS X.K t)

/-! ### weaker readings -/
theorem pe_imp {X : Cx} {e : Expr} {t t' : TE} (h : PE X e t) (k : ∀ σ H Q, t' σ H Q → t σ H Q) : PE X e t' := fun pins s σ H Q I q => h pins s σ H Q I (k σ H Q q)
theorem pt_imp {X : Cx} {e : Expr} {t t' : TT} (h : PT X e t) (k : ∀ σ H Q, t' σ H Q → t σ H Q) : PT X e t' := fun pins s σ H Q I q => h pins s σ H Q I (k σ H Q q)
theorem pw_imp {X : Cx} {e : Expr} {t t' : TT} (h : PW X e t) (k : ∀ σ H Q, t' σ H Q → t σ H Q) : PW X e t' := fun wh pins s σ H Q I q => h wh pins s σ H Q I (k σ H Q q)
theorem pa_imp {X : Cx} {e : List Expr} {t t' : TA} (h : PA X e t) (k : ∀ σ H Q, t' σ H Q → t σ H Q) : PA X e t' := fun pos pins s σ H Q I q => h pos pins s σ H Q I (k σ H Q q)
theorem ps_imp {X : Cx} {e : Stmt} {t t' : TS} (h : PS X e t) (k : ∀ D σ H, t' D σ H → t D σ H) : PS X e t' := fun pins s σ H D I q => h pins s σ H D I (k D σ H q)
theorem pss_imp {X : Cx} {e : List Stmt} {t t' : TS} (h : PSs X e t) (k : ∀ D σ H, t' D σ H → t D σ H) : PSs X e t' := fun pins s σ H D I q => h pins s σ H D I (k D σ H q)
end SD

set_option Elab.async false
set_option linter.all false
set_option maxRecDepth 100000
namespace SD
open PySem PySem.Spec PyProof.Rows L2
section
variable {K : PySem.W.Frag} {H H1 H' : Hp}
theorem Fin.go {R : DK} {Q : VK} (g : Grow K H H1) (h : Fin K H R Q) : Fin K H1 R Q := fun d M v H' g' => h d M v H' (g.trans g')
theorem FinT.go {R : Bool → MH → Prop} {Q : Bool → Hp → Prop} (g : Grow K H H1) (h : FinT K H R Q) : FinT K H1 R Q := fun b M H' g' => h b M H' (g.trans g')
theorem FinA.go {R : List D → MH → Prop} {Q : List V → Hp → Prop} (g : Grow K H H1) (h : FinA K H R Q) : FinA K H1 R Q := fun d M v H' g' => h d M v H' (g.trans g')
theorem EndsOk.go {B : EndsD} {E : Ends} (g : Grow K H H1) (h : EndsOk K H B E) : EndsOk K H1 B E :=
  ⟨fun d M v H' g' => h.nx d M v H' (g.trans g'), fun d M v H' g' => h.rt d M v H' (g.trans g'), fun d M v H' g' => h.bk d M v H' (g.trans g'), fun d M v H' g' => h.ct d M v H' (g.trans g')⟩
end

/-! ### names, constants -/
section
variable {X : Cx}
def tVarD (i : Nat) : TD := fun δ M Q => ∃ d, δ[i]? = some (some d) ∧ Q d M
def tCD (d : D) : TD := fun _ M Q => Q d M
theorem dv (i : Nat) {x : Str} {pos : Pos} (hN : X.N[i]? = some x := by rfl) (hv : Vis X.env.scope x := by first | exact Or.inl rfl | exact Or.inr (Or.inl rfl) | exact Or.inr (Or.inr rfl)) (hd : (x == ("__debug__" : Str)) = false := by decide)
    (hcd : (x == ("__classdict__" : Str)) = false := by decide) : DE X (.Name x pos) (tVarD i) :=
  pe_imp (pe_var hN hv hd hcd) fun σ H Q ⟨δ, M, R, hs, hM, ⟨d, e, r⟩, fin⟩ => by
    obtain ⟨v, e1, e2⟩ := hs.at' i d e
    exact ⟨v, e1, fin d M v H .refl e2 hM r⟩
theorem dc {e : Expr} {v : V} {d : D} (h : PE X e (tC v)) (r : ∀ H, Rep X.K H d v) : DE X e (tCD d) :=
  pe_imp h fun σ H Q ⟨δ, M, R, hs, hM, q, fin⟩ => fin d M v H .refl (r H) hM q
theorem de_int {i j pos} : DE X (.Constant (.int i) j pos) (tCD (.int i)) := dc pe_int fun _ => by rw [Rep]
theorem de_bl {i j pos} : DE X (.Constant (.bool i) j pos) (tCD (.bl i)) := dc pe_bl fun _ => by rw [Rep]
theorem de_non {j pos} : DE X (.Constant .none j pos) (tCD .non) := dc pe_non fun _ => by rw [Rep]
theorem de_ty {x : Str} {n : String} {pos : Pos} (hg : Gl X x) (hm : X.mg x = none) (hv : bootBuiltins x = some (.type n)) (hn : x ≠ "__name__" := by decide) (hd : (x == ("__debug__" : Str)) = false := by decide) : DE X (.Name x pos) (tCD (.ty n)) :=
  dc (pe_bltn (v := .ty n) hg hm hv rfl hn hd) fun _ => by rw [Rep]
end

/-! ### two-place operations -/
abbrev R2D := D → D → MH → DK → Prop
def liftR2 (K : PySem.W.Frag) (r : R2D) : R2 := fun v u H Q => ∃ x y M R, Rep K H x v ∧ Rep K H y u ∧ Abs K H M ∧ r x y M R ∧ Fin K H R Q
def OpD (X : Cx) (f : Value → Value → Sem Value) (r : R2D) : Prop := OpR X f (liftR2 X.K r)
def tOpD (r : R2D) (ta tb : TD) : TD := fun δ M Q => ta δ M fun x M1 => tb δ M1 fun y M2 => r x y M2 Q
theorem op_imp {X : Cx} {f : Value → Value → Sem Value} {r r' : R2} (h : OpR X f r) (k : ∀ x y H Q, r' x y H Q → r x y H Q) : OpR X f r' := fun pins s σ H x y v u Q I a b q => h pins s σ H x y v u Q I a b (k _ _ _ _ q)
theorem lift_op {K : PySem.W.Frag} {r : R2D} {ta tb : TD} {σ : L2.St} {H : Hp} {Q : VK} (h : lift K (tOpD r ta tb) σ H Q) : tOp (liftR2 K r) (lift K ta) (lift K tb) σ H Q := by
  obtain ⟨δ, M, R, hs, hM, q, fin⟩ := h
  refine ⟨δ, M, _, hs, hM, q, fun x M1 v H1 g1 r1 a1 q1 => ?_⟩
  exact ⟨δ, M1, _, hs.mono g1, a1, q1, fun y M2 u H2 g2 r2 a2 q2 => ⟨x, y, M2, R, r1.mono g2, r2, a2, q2, fin.go (g1.trans g2)⟩⟩
section
variable {X : Cx} {a b : Expr} {ta tb : TD} {pos : Pos}
theorem de_op {op : Operator} {r : R2D} (ho : OpD X (binaryOp op) r) (ha : DE X a ta) (hb : DE X b tb) : DE X (.BinOp a op b pos) (tOpD r ta tb) := pe_imp (pe_op ho ha hb) fun _ _ _ h => lift_op h
theorem de_cmp {op : CmpOp} {r : R2D} (ho : OpD X (compareOp op) r) (ha : DE X a ta) (hb : DE X b tb) (hm : behindInMarks op b = false := by exact nomark _) : DE X (.Compare a [op] [b] pos) (tOpD r ta tb) := pe_imp (pe_cmpR ho ha hb hm) fun _ _ _ h => lift_op h
/-- a value as a test -/
def tBD (t : TD) : TTD := fun δ M Q => t δ M fun x M1 => ∃ c, x = .bl c ∧ Q c M1
theorem lift_test {K : PySem.W.Frag} {t : TD} {t' : TE} (ht : ∀ σ H Q, lift K t σ H Q → t' σ H Q) {σ : L2.St} {H : Hp} {Q : Bool → Hp → Prop} (h : liftT K (tBD t) σ H Q) : tTest t' σ H Q := by
  obtain ⟨δ, M, R, hs, hM, q, fin⟩ := h
  refine ht _ _ _ ⟨δ, M, _, hs, hM, q, fun x M1 v H1 g1 r1 a1 ⟨c, e, q1⟩ => ?_⟩
  subst e
  rw [Rep] at r1
  exact ⟨c, r1, fin c M1 H1 g1 a1 q1⟩
theorem dt_cmp {op : CmpOp} {r : R2D} (ho : OpD X (compareOp op) r) (ha : DE X a ta) (hb : DE X b tb) (hm : behindInMarks op b = false := by exact nomark _) : DT X (.Compare a [op] [b] pos) (tBD (tOpD r ta tb)) :=
  pt_imp (pt_cmpR ho ha hb hm) fun _ _ _ h => lift_test (fun _ _ _ h => lift_op h) h
theorem dt_val {e : Expr} {t : TD} (h : DE X e t) (he : ∀ whole, isTrue e X.env whole = (do let v ← whole; standAt e.pos; holding [v] (truthy v)) := by intro _; rfl) : DT X e (tBD t) :=
  pt_imp (pt_val h he) fun _ _ _ h => lift_test (t' := lift X.K t) (fun _ _ _ h => h) h
end

/-! ### and, or, not, if-else -/
section
variable {X : Cx} {a b c : Expr} {ta tb : TD} {tA tB' : TTD} {rest : List Expr} {pos : Pos}
def tAndD (t u : TTD) : TTD := fun δ M Q => t δ M fun c M1 => if c = true then u δ M1 Q else Q false M1
def tOrD (t u : TTD) : TTD := fun δ M Q => t δ M fun c M1 => if c = true then Q true M1 else u δ M1 Q
def tNotD (t : TTD) : TTD := fun δ M Q => t δ M fun c M1 => Q (!c) M1
theorem dw_and1 (ha : DT X a tA) : DW X (.BoolOp .And [a] pos) tA := pw_and1 ha
theorem dw_or1 (ha : DT X a tA) : DW X (.BoolOp .Or [a] pos) tA := pw_or1 ha
theorem dw_and (ha : DT X a tA) (hb : DW X (.BoolOp .And (b :: rest) pos) tB') : DW X (.BoolOp .And (a :: b :: rest) pos) (tAndD tA tB') :=
  pw_imp (pw_and ha hb) fun σ H Q ⟨δ, M, R, hs, hM, q, fin⟩ => ⟨δ, M, _, hs, hM, q, fun c M1 H1 g1 a1 q1 => by
    cases c with
    | true => rw [if_pos rfl] at q1 ⊢; exact ⟨δ, M1, R, hs.mono g1, a1, q1, fin.go g1⟩
    | false => rw [if_neg Bool.false_ne_true] at q1 ⊢; exact fin _ _ _ g1 a1 q1⟩
theorem dw_or (ha : DT X a tA) (hb : DW X (.BoolOp .Or (b :: rest) pos) tB') : DW X (.BoolOp .Or (a :: b :: rest) pos) (tOrD tA tB') :=
  pw_imp (pw_or ha hb) fun σ H Q ⟨δ, M, R, hs, hM, q, fin⟩ => ⟨δ, M, _, hs, hM, q, fun c M1 H1 g1 a1 q1 => by
    cases c with
    | true => rw [if_pos rfl] at q1 ⊢; exact fin _ _ _ g1 a1 q1
    | false => rw [if_neg Bool.false_ne_true] at q1 ⊢; exact ⟨δ, M1, R, hs.mono g1, a1, q1, fin.go g1⟩⟩
theorem dt_w {e : Expr} {t : TTD} (h : DW X e t) : DT X e t := PW.pt h
theorem dt_not (ha : DT X a tA) : DT X (.UnaryOp .Not a pos) (tNotD tA) :=
  pt_imp (pt_not ha) fun σ H Q ⟨δ, M, R, hs, hM, q, fin⟩ => ⟨δ, M, _, hs, hM, q, fun c M1 H1 g1 a1 q1 => fin _ _ _ g1 a1 q1⟩
def tAndVD (ta tb : TD) : TD := fun δ M Q => ta δ M fun x M1 => ∃ c, x = .bl c ∧ if c = true then tb δ M1 Q else Q (.bl false) M1
def tOrVD (ta tb : TD) : TD := fun δ M Q => ta δ M fun x M1 => ∃ c, x = .bl c ∧ if c = true then Q (.bl true) M1 else tb δ M1 Q
def tNotVD (ta : TD) : TD := fun δ M Q => ta δ M fun x M1 => ∃ c, x = .bl c ∧ Q (.bl (!c)) M1
theorem de_one {op} {t : TD} (h : DE X a t) : DE X (.BoolOp op [a] pos) t := pe_one h
theorem de_and (ha : DE X a ta) (hb : DE X (.BoolOp .And (b :: rest) pos) tb) : DE X (.BoolOp .And (a :: b :: rest) pos) (tAndVD ta tb) :=
  pe_imp (pe_and ha hb) fun σ H Q ⟨δ, M, R, hs, hM, q, fin⟩ => ⟨δ, M, _, hs, hM, q, fun x M1 v H1 g1 r1 a1 ⟨c, e, q1⟩ => by
    subst e
    rw [Rep] at r1
    refine ⟨c, r1, ?_⟩
    cases c with
    | true => rw [if_pos rfl] at q1 ⊢; exact ⟨δ, M1, R, hs.mono g1, a1, q1, fin.go g1⟩
    | false => rw [if_neg Bool.false_ne_true] at q1 ⊢; exact fin _ _ _ _ g1 (by rw [Rep]) a1 q1⟩
theorem de_or (ha : DE X a ta) (hb : DE X (.BoolOp .Or (b :: rest) pos) tb) : DE X (.BoolOp .Or (a :: b :: rest) pos) (tOrVD ta tb) :=
  pe_imp (pe_or ha hb) fun σ H Q ⟨δ, M, R, hs, hM, q, fin⟩ => ⟨δ, M, _, hs, hM, q, fun x M1 v H1 g1 r1 a1 ⟨c, e, q1⟩ => by
    subst e
    rw [Rep] at r1
    refine ⟨c, r1, ?_⟩
    cases c with
    | true => rw [if_pos rfl] at q1 ⊢; exact fin _ _ _ _ g1 (by rw [Rep]) a1 q1
    | false => rw [if_neg Bool.false_ne_true] at q1 ⊢; exact ⟨δ, M1, R, hs.mono g1, a1, q1, fin.go g1⟩⟩
def tIfD (t : TTD) (ta tb : TD) : TD := fun δ M Q => t δ M fun c M1 => if c = true then ta δ M1 Q else tb δ M1 Q
end

/-! ### one-place operations -/
def tUnD (r : D → MH → DK → Prop) (ta : TD) : TD := fun δ M Q => ta δ M fun x M1 => r x M1 Q
def liftU (K : PySem.W.Frag) (r : D → MH → DK → Prop) : V → Hp → VK → Prop := fun v H Q => ∃ x M R, Rep K H x v ∧ Abs K H M ∧ r x M R ∧ Fin K H R Q
theorem de_un {X : Cx} {a : Expr} {ta : TD} {pos : Pos} {op : UnaryOp} {r : D → MH → DK → Prop} (ho : UnR X (unaryOp op) (liftU X.K r)) (ha : DE X a ta) : DE X (.UnaryOp op a pos) (tUnD r ta) :=
  pe_imp (pe_un ho ha) fun σ H Q ⟨δ, M, R, hs, hM, q, fin⟩ => ⟨δ, M, _, hs, hM, q, fun x M1 v H1 g1 r1 a1 q1 => ⟨x, M1, R, r1, a1, q1, fin.go g1⟩⟩

/-! ### argument lists, displays -/
def tNilD : TAD := fun _ M Q => Q [] M
def tConsD (ta : TD) (tr : TAD) : TAD := fun δ M Q => ta δ M fun x M1 => tr δ M1 fun xs M2 => Q (x :: xs) M2
section
variable {X : Cx} {e : Expr} {es : List Expr} {te : TD} {t : TAD} {pos : Pos}
theorem da_nil : DA X [] tNilD := pa_imp pa_nil fun σ H Q ⟨δ, M, R, hs, hM, q, fin⟩ => fin _ _ _ _ .refl .nil hM q
theorem da_cons (ha : DE X e te) (hr : DA X es t) (hs : starEach (e :: es) X.env = (false, eval e X.env) :: starEach es X.env := by rfl) : DA X (e :: es) (tConsD te t) :=
  pa_imp (pa_cons ha hr hs) fun σ H Q ⟨δ, M, R, hs, hM, q, fin⟩ => ⟨δ, M, _, hs, hM, q, fun x M1 v H1 g1 r1 a1 q1 =>
    ⟨δ, M1, _, hs.mono g1, a1, q1, fun xs M2 vs H2 g2 r2 a2 q2 => fin _ _ _ _ (g1.trans g2) (.cons (r1.mono g2) r2) a2 q2⟩⟩
def tTupD (t : TAD) : TD := fun δ M Q => t δ M fun xs M1 => xs.length ≤ sizeLine ∧ Q (.tup xs) M1
def tLstD (t : TAD) : TD := fun δ M Q => t δ M fun xs M1 => xs.length ≤ sizeLine ∧ ∀ p, M1 p = none → Q (.ref p) (updM M1 p (.lst xs))
theorem de_tup {x1} (h : DA X es t) : DE X (.Tuple es x1 pos) (tTupD t) :=
  pe_imp (pe_tup h) fun σ H Q ⟨δ, M, R, hs, hM, q, fin⟩ => ⟨δ, M, _, hs, hM, q, fun xs M1 vs H1 g1 r1 a1 ⟨z, q1⟩ =>
    ⟨by rw [← r1.length]; exact z, fun p hp => fin _ _ _ _ (g1.trans (.new hp)) (by rw [Rep]; exact ⟨p, vs, rfl, SqT.of upd_same, r1.mono (.new hp)⟩) (a1.new hp) q1⟩⟩
theorem de_lst (h : DA X es t) : DE X (.List es pos) (tLstD t) :=
  pe_imp (pe_lst h) fun σ H Q ⟨δ, M, R, hs, hM, q, fin⟩ => ⟨δ, M, _, hs, hM, q, fun xs M1 vs H1 g1 r1 a1 ⟨z, q1⟩ =>
    ⟨by rw [← r1.length]; exact z, fun p hp => fin _ _ _ _ (g1.trans (.new hp)) (by rw [Rep]) (a1.newL hp r1) (q1 p (a1.fresh hp))⟩⟩
end

/-! ### subscripts -/
def IxD (X : Cx) (r : R2D) : Prop := IxR X (liftR2 X.K r)
theorem ix_imp {X : Cx} {r r' : R2} (h : IxR X r) (k : ∀ x y H Q, r' x y H Q → r x y H Q) : IxR X r' := fun e1 e2 pins s σ H x y v u Q I a b q => h e1 e2 pins s σ H x y v u Q I a b (k _ _ _ _ q)
theorem de_ixR {X : Cx} {a b : Expr} {ta tb : TD} {pos : Pos} {r : R2D} (hr : IxD X r) (ha : DE X a ta) (hb : DE X b tb) (hs : PlainIx b) : DE X (.Subscript a b pos) (tOpD r ta tb) := pe_imp (pe_ix hr ha hb hs) fun _ _ _ h => lift_op h
def rIxD : R2D := fun x y M Q => match x, y with
  | .tup ds, .int i => ∃ d, atI ds i = some d ∧ Q d M
  | .rol ds, .int i => ∃ d, atI ds i = some d ∧ Q d M
  | .ref a, .int i => ∃ ds d, M a = some (.lst ds) ∧ atI ds i = some d ∧ Q d M
  | _, _ => False
theorem Reps.atI {K : PySem.W.Frag} {H : Hp} {ds : List D} {xs : List V} {i : Int} {d : D} (h : Reps K H ds xs) (e : L2.atI ds i = some d) : ∃ x, L2.atI xs i = some x ∧ Rep K H d x := by
  unfold L2.atI at e ⊢
  rw [← h.length]
  cases q : ixN ds.length i with
  | none => rw [q] at e; cases e
  | some j =>
    rw [q] at e
    exact h.get e
theorem rIxD_lift {K : PySem.W.Frag} {v u : V} {H : Hp} {Q : VK} (h : liftR2 K rIxD v u H Q) : rIx K v u H Q := by
  obtain ⟨x, y, M, R, r1, r2, a, q, fin⟩ := h
  unfold rIxD at q
  split at q
  · obtain ⟨d, e, q⟩ := q
    obtain rfl : u = .int _ := r2
    rw [Rep] at r1
    obtain ⟨p, xs, rfl, hq, rs⟩ := r1
    obtain ⟨x, e1, e2⟩ := rs.atI e
    exact .inr (.inl ⟨p, xs, _, x, rfl, rfl, hq, e1, fin _ _ _ _ .refl e2 a q⟩)
  · obtain ⟨d, e, q⟩ := q
    obtain rfl : u = .int _ := r2
    rw [Rep] at r1
    obtain ⟨p, xs, rfl, hq, rs⟩ := r1
    obtain ⟨x, e1, e2⟩ := rs.atI e
    exact .inl ⟨p, xs, _, x, rfl, rfl, hq.sql, e1, fin _ _ _ _ .refl e2 a q⟩
  · obtain ⟨ds, d, e0, e, q⟩ := q
    obtain rfl : u = .int _ := r2
    obtain rfl : v = .ref _ := r1
    obtain ⟨xs, hx, rs⟩ := a _ _ e0
    obtain ⟨x, e1, e2⟩ := rs.atI e
    exact .inl ⟨_, xs, _, x, rfl, rfl, SqL.of hx, e1, fin _ _ _ _ .refl e2 a q⟩
  · exact q.elim
theorem de_ix {X : Cx} {a b : Expr} {ta tb : TD} {pos : Pos} (ha : DE X a ta) (hb : DE X b tb) (hs : PlainIx b := by exact fun _ _ => rfl) : DE X (.Subscript a b pos) (tOpD rIxD ta tb) := de_ixR (ix_imp ix_seq fun _ _ _ _ h => rIxD_lift h) ha hb hs
end SD

set_option Elab.async false
set_option linter.all false
set_option maxRecDepth 100000
namespace SD
open PySem PySem.Spec PyProof.Rows L2

/-! ### how great a number is -/
def Bd (n : Nat) (i : Int) : Prop := i.natAbs < 2 ^ n
instance (n : Nat) (i : Int) : Decidable (Bd n i) := inferInstanceAs (Decidable (i.natAbs < 2 ^ n))
theorem Bd.mono {m n : Nat} {i : Int} (h : Bd m i) (l : m ≤ n) : Bd n i := Nat.lt_of_lt_of_le h (Nat.pow_le_pow_right (by decide) l)
theorem Bd.bits {n : Nat} {i : Int} (h : Bd n i) : Builtin.Int.intBits i ≤ n := by
  unfold Builtin.Int.intBits
  split
  · exact Nat.zero_le _
  · rename_i hz
    have h0 : i.natAbs ≠ 0 := fun e => hz (by simpa using Int.natAbs_eq_zero.mp e)
    exact (Nat.log2_lt h0).mpr h
theorem Bd.log2 {n : Nat} {i : Int} (h : Bd n i) (hn : 0 < n) : i.natAbs.log2 < n := by
  by_cases h0 : i.natAbs = 0
  · rw [h0]; simpa using hn
  · exact (Nat.log2_lt h0).mpr h
theorem Bd.mul {m n : Nat} {i j : Int} (a : Bd m i) (b : Bd n j) : Bd (m + n) (i * j) := by
  unfold Bd at *
  rw [Int.natAbs_mul, Nat.pow_add]
  exact Nat.mul_lt_mul'' a b
theorem Bd.add {n : Nat} {i j : Int} (a : Bd n i) (b : Bd n j) : Bd (n + 1) (i + j) := by
  unfold Bd at *
  rw [Nat.pow_succ]
  have := Int.natAbs_add_le i j
  omega
theorem Bd.sub {n : Nat} {i j : Int} (a : Bd n i) (b : Bd n j) : Bd (n + 1) (i - j) := by
  unfold Bd at *
  rw [Nat.pow_succ]
  have := Int.natAbs_sub_le i j
  omega
theorem Bd.neg {n : Nat} {i : Int} (a : Bd n i) : Bd n (-i) := by
  unfold Bd at *
  rw [Int.natAbs_neg]; exact a
theorem Bd.of_le {n : Nat} {i j : Int} (a : Bd n i) (b : j.natAbs ≤ i.natAbs) : Bd n j := Nat.lt_of_le_of_lt b a
theorem bd64 {n : Nat} {i : Int} (h : i.natAbs < 2 ^ 64) (l : 64 ≤ n := by decide) : Bd n i := Bd.mono (m := 64) h l
theorem mulOk {i j : Int} (a : Bd 1000000 i) (b : Bd 1000000 j) : IntMulOk i j := .of_bits (Nat.le_trans a.bits (by decide)) (Nat.le_trans b.bits (by decide))
theorem mulOk_l {i j : Int} (a : Bd 64 i) : IntMulOk i j := .of_left a.bits
theorem mulOk_r {i j : Int} (a : Bd 64 j) : IntMulOk i j := .of_right a.bits

/-! ### ints -/
def rI2 (C : Int → Int → Prop) (g : Int → Int → D) : R2D := fun x y M Q => match x, y with
  | .int i, .int j => C i j ∧ Q (g i j) M
  | _, _ => False
section
variable {X : Cx}
theorem opd_int {f : Value → Value → Sem Value} {C : Int → Int → Prop} {g : Int → Int → V} {g' : Int → Int → D} (h : OpR X f (rI C g)) (e : ∀ i j H, Rep X.K H (g' i j) (g i j)) : OpD X f (rI2 C g') :=
  op_imp h fun v u H Q ⟨x, y, M, R, r1, r2, a, q, fin⟩ => by
    unfold rI2 at q
    split at q
    · obtain rfl : v = .int _ := r1
      obtain rfl : u = .int _ := r2
      exact ⟨_, _, rfl, rfl, q.1, fin _ _ _ _ .refl (e _ _ _) a q.2⟩
    · exact q.elim
theorem ri0 {f : Value → Value → Sem Value} {g : Int → Int → V} (h : OpR X f (rI0 g)) : OpR X f (rI (fun _ _ => True) g) := op_imp h fun x y H Q ⟨i, j, a, b, _, q⟩ => ⟨i, j, a, b, q⟩
def rSubD : R2D := rI2 (fun _ _ => True) fun i j => .int (i - j)
def rMulD : R2D := rI2 IntMulOk fun i j => .int (i * j)
def CFd (i j : Int) : Prop := j ≠ 0 ∧ Bd 8000 j
def rFdD : R2D := rI2 CFd fun i j => .int (i.fdiv j)
def rModD : R2D := rI2 (fun _ j => j ≠ 0) fun i j => .int (i.fmod j)
def rPowD : R2D := rI2 CPow fun i j => .int (i ^ j.toNat)
def rLtD : R2D := rI2 (fun _ _ => True) fun i j => .bl (decide (i < j))
def rLeD : R2D := rI2 (fun _ _ => True) fun i j => .bl (decide (i ≤ j))
def rGtD : R2D := rI2 (fun _ _ => True) fun i j => .bl (decide (j < i))
def rGeD : R2D := rI2 (fun _ _ => True) fun i j => .bl (decide (j ≤ i))
theorem od_sub : OpD X (binaryOp .Sub) rSubD := opd_int (ri0 op_sub) fun _ _ _ => by rw [Rep]
theorem od_mul : OpD X (binaryOp .Mult) rMulD := opd_int (opI fun _ _ _ _ _ _ _ hc q => mul_int q hc) fun _ _ _ => by rw [Rep]
theorem od_fd : OpD X (binaryOp .FloorDiv) rFdD := opd_int (opI fun _ _ _ _ _ _ _ hc q => floordiv_int hc.1 q (.inl (PyProof.noPylong_of_log2 (Nat.lt_trans (hc.2.log2 (by decide)) (by decide))))) fun _ _ _ => by rw [Rep]
theorem od_mod : OpD X (binaryOp .Mod) rModD := opd_int op_modN fun _ _ _ => by rw [Rep]
theorem od_pow : OpD X (binaryOp .Pow) rPowD := opd_int op_pow fun _ _ _ => by rw [Rep]
theorem od_lt : OpD X (compareOp .Lt) rLtD := opd_int (ri0 op_lt) fun _ _ _ => by rw [Rep]
theorem od_le : OpD X (compareOp .LtE) rLeD := opd_int (ri0 op_le) fun _ _ _ => by rw [Rep]
theorem od_gt : OpD X (compareOp .Gt) rGtD := opd_int (ri0 op_gt) fun _ _ _ => by rw [Rep]
theorem od_ge : OpD X (compareOp .GtE) rGeD := opd_int (ri0 op_ge) fun _ _ _ => by rw [Rep]
def rNegD : D → MH → DK → Prop := fun x M Q => match x with
  | .int i => Q (.int (-i)) M
  | _ => False
theorem un_negD : UnR X (unaryOp .USub) (liftU X.K rNegD) := fun pins s σ H x v Q I r ⟨d, M, R, r1, a, q, fin⟩ => un_neg pins s σ H x v Q I r (by
  unfold rNegD at q
  split at q
  · obtain rfl : x = .int _ := r1
    exact ⟨_, rfl, fin _ _ _ _ .refl (by rw [Rep]) a q⟩
  · exact q.elim)
/-- +: ints, tuples, lists -/
def rAddD : R2D := fun x y M Q => match x, y with
  | .int i, .int j => Q (.int (i + j)) M
  | .tup a, .tup b => a ≠ [] ∧ a.length + b.length ≤ sizeLine ∧ Q (.tup (a ++ b)) M
  | .ref a, .ref b => ∃ xs ys, M a = some (.lst xs) ∧ M b = some (.lst ys) ∧ xs.length + ys.length ≤ sizeLine ∧ ∀ p, M p = none → Q (.ref p) (updM M p (.lst (xs ++ ys)))
  | _, _ => False
theorem od_add : OpD X (binaryOp .Add) rAddD := op_imp (op_add.or (op_catT.or op_cat)) fun v u H Q ⟨x, y, M, R, r1, r2, a, q, fin⟩ => by
  unfold rAddD at q
  split at q
  · obtain rfl : v = .int _ := r1
    obtain rfl : u = .int _ := r2
    exact .inl ⟨_, _, rfl, rfl, fin _ _ _ _ .refl (by rw [Rep]) a q⟩
  · rename_i da db
    obtain ⟨hn, hl, q⟩ := q
    rw [Rep] at r1
    obtain ⟨p, xs, rfl, hx, rx⟩ := r1
    obtain ⟨p', ys, rfl, hy, ry⟩ : ∃ a xs, u = V.ref a ∧ SqT X.K H a xs ∧ Reps X.K H db xs := by rw [Rep] at r2; exact r2
    have l1 := rx.length
    have l2 := ry.length
    refine .inr (.inl ⟨p, p', xs, ys, rfl, rfl, hx, hy, ?_, by omega, fun e => ?_, fun _ z hz => ?_⟩)
    · intro e; subst e; exact hn (List.length_eq_zero_iff.mp (by simpa using l1))
    · subst e
      obtain rfl : db = [] := List.length_eq_zero_iff.mp (by simpa using l2)
      exact fin _ _ _ _ .refl (by rw [Rep, List.append_nil]; exact ⟨p, xs, rfl, hx, rx⟩) a q
    · exact fin _ _ _ _ (.new hz) (by rw [Rep]; exact ⟨z, _, rfl, SqT.of upd_same, (rx.append ry).mono (.new hz)⟩) (a.new hz) q
  · obtain ⟨ds, es, e1, e2, hl, q⟩ := q
    obtain rfl : v = .ref _ := r1
    obtain rfl : u = .ref _ := r2
    obtain ⟨xs, hx, rx⟩ := a _ _ e1
    obtain ⟨ys, hy, ry⟩ := a _ _ e2
    have l1 := rx.length
    have l2 := ry.length
    exact .inr (.inr ⟨_, _, xs, ys, rfl, rfl, hx, hy, by omega, fun z hz => fin _ _ _ _ (.new hz) (by rw [Rep]) (a.newL hz (rx.append ry)) (q z (a.fresh hz))⟩)
  · exact q.elim
end

/-! ### equality -/
mutual
inductive Pd (M : MH) : D → PyData → Prop
  | non : Pd M .non .none
  | bl (b : Bool) : Pd M (.bl b) (.bool b)
  | int (i : Int) : Pd M (.int i) (.int i)
  | str (x : Str) : Pd M (.str x) (.str x)
  | tup {ds : List D} {ps : List PyData} : Pds M ds ps → Pd M (.tup ds) (.tuple ps)
  | rol {ds : List D} {ps : List PyData} : Pds M ds ps → Pd M (.rol ds) (.list ps)
  | lst {a : Addr} {ds : List D} {ps : List PyData} : M a = some (.lst ds) → Pds M ds ps → Pd M (.ref a) (.list ps)
inductive Pds (M : MH) : List D → List PyData → Prop
  | nil : Pds M [] []
  | cons {d : D} {ds : List D} {p : PyData} {ps : List PyData} : Pd M d p → Pds M ds ps → Pds M (d :: ds) (p :: ps)
end
mutual
def pdO : D → Option PyData
  | .non => some .none
  | .bl b => some (.bool b)
  | .int i => some (.int i)
  | .str x => some (.str x)
  | .tup ds => match pdsO ds with
    | some ps => some (.tuple ps)
    | none => none
  | _ => none
def pdsO : List D → Option (List PyData)
  | [] => some []
  | d :: ds => match pdO d, pdsO ds with
    | some p, some ps => some (p :: ps)
    | _, _ => none
end
mutual
theorem Pd.of {M : MH} : ∀ {d : D} {p : PyData}, pdO d = some p → Pd M d p
  | .non, p, h => by rw [pdO] at h; cases h; exact .non
  | .bl b, p, h => by rw [pdO] at h; cases h; exact .bl b
  | .int i, p, h => by rw [pdO] at h; cases h; exact .int i
  | .str x, p, h => by rw [pdO] at h; cases h; exact .str x
  | .ty _, p, h => by simp [pdO] at h
  | .ref _, p, h => by simp [pdO] at h
  | .rol _, p, h => by simp [pdO] at h
  | .tup ds, p, h => by
    rw [pdO] at h
    cases e : pdsO ds with
    | none => rw [e] at h; cases h
    | some ps => rw [e] at h; cases h; exact .tup (Pds.of e)
theorem Pds.of {M : MH} : ∀ {ds : List D} {ps : List PyData}, pdsO ds = some ps → Pds M ds ps
  | [], ps, h => by rw [pdsO] at h; cases h; exact .nil
  | d :: ds, ps, h => by
    rw [pdsO] at h
    cases e1 : pdO d with
    | none => rw [e1] at h; cases h
    | some p =>
      cases e2 : pdsO ds with
      | none => rw [e1, e2] at h; cases h
      | some qs => rw [e1, e2] at h; cases h; exact .cons (Pd.of e1) (Pds.of e2)
end
section
variable {X : Cx} {pins : List (Addr × Obj)} {σ : L2.St} {H : Hp} {s : Shared} {M : MH}
mutual
theorem pd_reads (I : Inv X pins σ H s) (hM : Abs X.K H M) : ∀ {d : D} {p : PyData} {v : V} {u : Value}, Pd M d p → Rep X.K H d v → L2.RelV v u → ∃ as, Reads s.heap u p as
  | _, _, _, _, .non, r, e => by rw [Rep] at r; subst r; cases e; exact ⟨_, .none⟩
  | _, _, _, _, .bl b, r, e => by rw [Rep] at r; subst r; cases e; exact ⟨_, .bool b⟩
  | _, _, _, _, .int i, r, e => by rw [Rep] at r; subst r; obtain ⟨t, rfl⟩ := e; exact ⟨_, .int i t⟩
  | _, _, _, _, .str x, r, e => by rw [Rep] at r; subst r; obtain ⟨t, rfl⟩ := e; exact ⟨_, .str x t⟩
  | _, _, _, _, .tup hp, r, e => by
    rw [Rep] at r
    obtain ⟨a, xs, rfl, hq, rs⟩ := r
    cases e
    obtain ⟨its, rv, ⟨o, h1, h2, n, h3⟩, _⟩ := I.tuple hq
    obtain ⟨as, hh⟩ := pds_reads I hM hp rs rv
    exact ⟨as, reads_tuple_at h1 h2 h3 (by simpa using hh)⟩
  | _, _, _, _, .rol hp, r, e => by
    rw [Rep] at r
    obtain ⟨a, xs, rfl, hq, rs⟩ := r
    cases e
    obtain ⟨its, rv, ⟨o, n, h1, h2, _, h3⟩, _⟩ := I.list hq.sql
    obtain ⟨as, hh⟩ := pds_reads I hM hp rs rv
    exact ⟨_, reads_list_at h1 h2 h3 (by simpa using hh)⟩
  | _, _, _, _, .lst ha hp, r, e => by
    rw [Rep] at r
    subst r
    cases e
    obtain ⟨xs, hx, rs⟩ := hM _ _ ha
    obtain ⟨its, rv, ⟨o, n, h1, h2, _, h3⟩, _⟩ := I.list (SqL.of hx)
    obtain ⟨as, hh⟩ := pds_reads I hM hp rs rv
    exact ⟨_, reads_list_at h1 h2 h3 (by simpa using hh)⟩
theorem pds_reads (I : Inv X pins σ H s) (hM : Abs X.K H M) : ∀ {ds : List D} {ps : List PyData} {vs : List V} {us : List Value}, Pds M ds ps → Reps X.K H ds vs → Vals vs us → ∃ as, ReadsAll s.heap us ps as
  | _, _, _, _, .nil, r, e => by rw [Reps] at r; subst r; cases e; exact ⟨_, .nil⟩
  | _, _, _, _, .cons h1 h2, r, e => by
    rw [Reps] at r
    obtain ⟨x, r, rfl, r1, r2⟩ := r
    cases e with
    | cons e1 e2 =>
      obtain ⟨as, q1⟩ := pd_reads I hM h1 r1 e1
      obtain ⟨bs, q2⟩ := pds_reads I hM h2 r2 e2
      exact ⟨_, .cons q1 q2⟩
end
end
def rEqG (g : Bool → Bool) : R2D := fun x y M Q => ∃ p q, Pd M x p ∧ Pd M y q ∧ SeqAt.shaped p = true ∧ SeqAt.shaped q = true ∧ Q (.bl (g (PyData.eqv p q))) M
def rEqD : R2D := fun x y M Q => match x, y with
  | .int i, .int j => Q (.bl (decide (i = j))) M
  | .bl i, .bl j => Q (.bl (decide (i = j))) M
  | x, y => rEqG (fun b => b) x y M Q
def rNeD : R2D := fun x y M Q => match x, y with
  | .int i, .int j => Q (.bl (!decide (i = j))) M
  | .bl i, .bl j => Q (.bl (!decide (i = j))) M
  | x, y => rEqG (fun b => !b) x y M Q
section
variable {X : Cx}
theorem od_eqG (hu : X.A.units + 64 < cLine) : OpD X (compareOp .Eq) (rEqG fun b => b) := by
  intro pins s σ H v u v' u' Q I rv ru h
  obtain ⟨x, y, M, R, r1, r2, a, ⟨p, q, p1, p2, s1, s2, hq⟩, fin⟩ := h
  obtain ⟨as, q1⟩ := pd_reads I a p1 r1 rv
  obtain ⟨bs, q2⟩ := pd_reads I a p2 r2 ru
  exact eq_dataH q1 q2 s1 s2 hu ⟨.bl _, H, I, rfl, fin _ _ _ _ .refl (by rw [Rep]) a hq⟩
theorem od_neG (hu : X.A.units + 64 < cLine) : OpD X (compareOp .NotEq) (rEqG fun b => !b) := by
  intro pins s σ H v u v' u' Q I rv ru h
  obtain ⟨x, y, M, R, r1, r2, a, ⟨p, q, p1, p2, s1, s2, hq⟩, fin⟩ := h
  obtain ⟨as, q1⟩ := pd_reads I a p1 r1 rv
  obtain ⟨bs, q2⟩ := pd_reads I a p2 r2 ru
  exact ne_dataH q1 q2 s1 s2 hu ⟨.bl _, H, I, rfl, fin _ _ _ _ .refl (by rw [Rep]) a hq⟩
theorem beq_dec {i j : Int} : (i == j) = decide (i = j) := by
  by_cases h : i = j <;> simp [h]
theorem beq_decB {i j : Bool} : (i == j) = decide (i = j) := by
  cases i <;> cases j <;> rfl
theorem od_eq (hu : X.A.units + 64 < cLine) : OpD X (compareOp .Eq) rEqD := op_imp (od_eqG hu) fun v u H Q ⟨x, y, M, R, r1, r2, a, q, fin⟩ => by
  refine ⟨x, y, M, R, r1, r2, a, ?_, fin⟩
  unfold rEqD at q
  split at q
  · exact ⟨_, _, .int _, .int _, rfl, rfl, by simpa [PyData.eqv, beq_dec] using q⟩
  · exact ⟨_, _, .bl _, .bl _, rfl, rfl, by simpa [PyData.eqv, beq_decB] using q⟩
  · exact q
theorem od_ne (hu : X.A.units + 64 < cLine) : OpD X (compareOp .NotEq) rNeD := op_imp (od_neG hu) fun v u H Q ⟨x, y, M, R, r1, r2, a, q, fin⟩ => by
  refine ⟨x, y, M, R, r1, r2, a, ?_, fin⟩
  unfold rNeD at q
  split at q
  · exact ⟨_, _, .int _, .int _, rfl, rfl, by simpa [PyData.eqv, beq_dec] using q⟩
  · exact ⟨_, _, .bl _, .bl _, rfl, rfl, by simpa [PyData.eqv, beq_decB] using q⟩
  · exact q
/-- is, is not: against None, True, False -/
def isC : D → D → Option Bool
  | .non, .non => some true
  | .non, .bl _ => some false
  | .bl _, .non => some false
  | .bl a, .bl b => some (decide (a = b))
  | _, .non => some false
  | _, .bl _ => some false
  | _, _ => none
def rIsG (g : Bool → Bool) : R2D := fun x y M Q => ∃ b, isC x y = some b ∧ Q (.bl (g b)) M
def rIsD : R2D := rIsG fun b => b
def rIsNotD : R2D := rIsG fun b => !b
end
end SD

set_option Elab.async false
set_option linter.all false
set_option maxRecDepth 100000
namespace SD
open PySem PySem.Spec PyProof.Rows L2

/-! ### built-in calls -/
abbrev RC := List D → MH → DK → Prop
def liftC (K : PySem.W.Frag) (r : RC) : List V → Hp → VK → Prop := fun vs H Q => ∃ ds M R, Reps K H ds vs ∧ Abs K H M ∧ r ds M R ∧ Fin K H R Q
def CallD (X : Cx) (f : Value) (r : RC) : Prop := CallR X f (liftC X.K r)
theorem call_imp {X : Cx} {f : Value} {r r' : List V → Hp → VK → Prop} (h : CallR X f r) (k : ∀ xs H Q, r' xs H Q → r xs H Q) : CallR X f r' := fun pins s σ H xs us Q I a q => h pins s σ H xs us Q I a (k _ _ _ q)
def tCBD (r : RC) (t : TAD) : TD := fun δ M Q => t δ M fun ds M1 => r ds M1 Q
theorem lift_cb {K : PySem.W.Frag} {r : RC} {t : TAD} {σ : L2.St} {H : Hp} {Q : VK} (h : lift K (tCBD r t) σ H Q) : tCB (liftC K r) (liftA K t) σ H Q := by
  obtain ⟨δ, M, R, hs, hM, q, fin⟩ := h
  exact ⟨δ, M, _, hs, hM, q, fun ds M1 vs H1 g1 r1 a1 q1 => ⟨ds, M1, R, r1, a1, q1, fin.go g1⟩⟩
section
variable {X : Cx} {x : Str} {p pos : Pos} {e : Expr} {es : List Expr} {t : TAD} {id T : String} {r : RC}
theorem de_callB (hc : CallD X (.builtin id) r) (hg : Gl X x) (hm : X.mg x = none) (hv : bootBuiltins x = some (.builtin id)) (ha : DA X (e :: es) t) (hn : x ≠ "__name__" := by decide) (hdb : (x == ("__debug__" : Str)) = false := by decide)
    (he : starEach (e :: es) X.env = (false, eval e X.env) :: starEach es X.env := by rfl) (hpl : (backTo pos (starEach es X.env)).any (·.1) = false := by rfl) : DE X (.Call (.Name x p) (e :: es) [] pos) (tCBD r t) :=
  pe_imp (pe_callB hc hg hm hv ha hn hdb he hpl) fun _ _ _ h => lift_cb h
theorem de_callTy (hc : CallD X (.type T) r) (hg : Gl X x) (hm : X.mg x = none) (hv : bootBuiltins x = some (.type T)) (ha : DA X (e :: es) t) (hn : x ≠ "__name__" := by decide) (hdb : (x == ("__debug__" : Str)) = false := by decide)
    (he : starEach (e :: es) X.env = (false, eval e X.env) :: starEach es X.env := by rfl) (hpl : (backTo pos (starEach es X.env)).any (·.1) = false := by rfl) : DE X (.Call (.Name x p) (e :: es) [] pos) (tCBD r t) :=
  pe_imp (pe_callTy hc hg hm hv ha hn hdb he hpl) fun _ _ _ h => lift_cb h
theorem reps1 {K : PySem.W.Frag} {H : Hp} {d : D} {vs : List V} (h : Reps K H [d] vs) : ∃ v, vs = [v] ∧ Rep K H d v := by
  rw [Reps] at h
  obtain ⟨x, r, rfl, h1, h2⟩ := h
  rw [Reps] at h2
  subst h2
  exact ⟨x, rfl, h1⟩
theorem reps2 {K : PySem.W.Frag} {H : Hp} {d e : D} {vs : List V} (h : Reps K H [d, e] vs) : ∃ v u, vs = [v, u] ∧ Rep K H d v ∧ Rep K H e u := by
  rw [Reps] at h
  obtain ⟨x, r, rfl, h1, h2⟩ := h
  obtain ⟨u, rfl, h3⟩ := reps1 h2
  exact ⟨x, u, rfl, h1, h3⟩
def rAbs : RC := fun ds M Q => match ds with
  | [.int i] => Q (.int (i.natAbs : Int)) M
  | _ => False
theorem cd_abs : CallD X (.builtin "abs") rAbs := call_imp call_abs fun vs H Q ⟨ds, M, R, rs, a, q, fin⟩ => by
  unfold rAbs at q
  split at q
  · rename_i i
    obtain ⟨v, rfl, r⟩ := reps1 rs
    rw [Rep] at r; subst r
    have e : (if i < 0 then -i else i) = (i.natAbs : Int) := by split <;> omega
    exact ⟨_, rfl, fin _ _ _ _ .refl (by rw [Rep, e]) a q⟩
  · exact q.elim
def rMax : RC := fun ds M Q => match ds with
  | [.int i, .int j] => Q (.int (max i j)) M
  | _ => False
def rMin : RC := fun ds M Q => match ds with
  | [.int i, .int j] => Q (.int (min i j)) M
  | _ => False
theorem cd_max (hc : X.calm = true) : CallD X (.builtin "max") rMax := call_imp (call_max2 hc) fun vs H Q ⟨ds, M, R, rs, a, q, fin⟩ => by
  unfold rMax at q
  split at q
  · rename_i i j
    obtain ⟨v, u, rfl, r, r'⟩ := reps2 rs
    rw [Rep] at r; subst r
    have r2 : u = .int j := by rw [Rep] at r'; exact r'
    subst r2
    have e : (if j > i then j else i) = max i j := by split <;> omega
    exact ⟨_, _, rfl, fin _ _ _ _ .refl (by rw [Rep, e]) a q⟩
  · exact q.elim
theorem cd_min (hc : X.calm = true) : CallD X (.builtin "min") rMin := call_imp (call_min2 hc) fun vs H Q ⟨ds, M, R, rs, a, q, fin⟩ => by
  unfold rMin at q
  split at q
  · rename_i i j
    obtain ⟨v, u, rfl, r, r'⟩ := reps2 rs
    rw [Rep] at r; subst r
    have r2 : u = .int j := by rw [Rep] at r'; exact r'
    subst r2
    have e : (if j < i then j else i) = min i j := by split <;> omega
    exact ⟨_, _, rfl, fin _ _ _ _ .refl (by rw [Rep, e]) a q⟩
  · exact q.elim
def rLen : RC := fun ds M Q => match ds with
  | [.tup xs] => Q (.int (xs.length : Int)) M
  | [.rol xs] => Q (.int (xs.length : Int)) M
  | [.ref l] => ∃ xs, M l = some (.lst xs) ∧ Q (.int (xs.length : Int)) M
  | _ => False
theorem cd_len : CallD X (.builtin "len") rLen := call_imp call_len_seq fun vs H Q ⟨ds, M, R, rs, a, q, fin⟩ => by
  unfold rLen at q
  split at q
  · obtain ⟨v, rfl, r⟩ := reps1 rs
    rw [Rep] at r
    obtain ⟨l, xs, rfl, h1, h2⟩ := r
    exact ⟨l, xs, rfl, .inr h1, fin _ _ _ _ .refl (by rw [Rep, h2.length]) a q⟩
  · obtain ⟨v, rfl, r⟩ := reps1 rs
    rw [Rep] at r
    obtain ⟨l, xs, rfl, h1, h2⟩ := r
    exact ⟨l, xs, rfl, .inl h1.sql, fin _ _ _ _ .refl (by rw [Rep, h2.length]) a q⟩
  · obtain ⟨v, rfl, r⟩ := reps1 rs
    rw [Rep] at r; subst r
    obtain ⟨xs, e, q⟩ := q
    obtain ⟨ys, h1, h2⟩ := a _ _ e
    exact ⟨_, ys, rfl, .inl (SqL.of h1), fin _ _ _ _ .refl (by rw [Rep, h2.length]) a q⟩
  · exact q.elim
def rTuple : RC := fun ds M Q => match ds with
  | [.tup xs] => Q (.tup xs) M
  | [.rol xs] => Q (.tup xs) M
  | [.ref l] => ∃ xs, M l = some (.lst xs) ∧ Q (.tup xs) M
  | _ => False
theorem cd_tuple : CallD X (.type "tuple") rTuple := call_imp call_tuple_of fun vs H Q ⟨ds, M, R, rs, a, q, fin⟩ => by
  unfold rTuple at q
  split at q
  · obtain ⟨v, rfl, r⟩ := reps1 rs
    rw [Rep] at r
    obtain ⟨l, xs, rfl, h1, h2⟩ := r
    exact ⟨l, xs, rfl, .inr ⟨h1, fin _ _ _ _ .refl (by rw [Rep]; exact ⟨l, xs, rfl, h1, h2⟩) a q⟩⟩
  · obtain ⟨v, rfl, r⟩ := reps1 rs
    rw [Rep] at r
    obtain ⟨l, xs, rfl, h1, h2⟩ := r
    exact ⟨l, xs, rfl, .inl ⟨h1.sql, fun p hp => fin _ _ _ _ (.new hp) (by rw [Rep]; exact ⟨p, xs, rfl, SqT.of upd_same, h2.mono (.new hp)⟩) (a.new hp) q⟩⟩
  · obtain ⟨v, rfl, r⟩ := reps1 rs
    rw [Rep] at r; subst r
    obtain ⟨xs, e, q⟩ := q
    obtain ⟨ys, h1, h2⟩ := a _ _ e
    exact ⟨_, ys, rfl, .inl ⟨SqL.of h1, fun p hp => fin _ _ _ _ (.new hp) (by rw [Rep]; exact ⟨p, ys, rfl, SqT.of upd_same, h2.mono (.new hp)⟩) (a.new hp) q⟩⟩
  · exact q.elim
def rInt1 : RC := fun ds M Q => match ds with
  | [.int i] => Q (.int i) M
  | [.bl k] => Q (.int (if k = true then 1 else 0)) M
  | _ => False
theorem cd_int : CallD X (.type "int") rInt1 := call_imp call_int1 fun vs H Q ⟨ds, M, R, rs, a, q, fin⟩ => by
  unfold rInt1 at q
  split at q
  · obtain ⟨v, rfl, r⟩ := reps1 rs
    rw [Rep] at r; subst r
    exact .inl ⟨_, rfl, fin _ _ _ _ .refl (by rw [Rep]) a q⟩
  · obtain ⟨v, rfl, r⟩ := reps1 rs
    rw [Rep] at r; subst r
    exact .inr ⟨_, rfl, fin _ _ _ _ .refl (by rw [Rep]) a q⟩
  · exact q.elim
/-- isinstance(x, T), T a built-in type, x no ref -/
def tyN : D → Option String
  | .non => some "NoneType"
  | .bl _ => some "bool"
  | .int _ => some "int"
  | .str _ => some "str"
  | .tup _ => some "tuple"
  | .rol _ => some "list"
  | _ => none
def rIsInst (K : PySem.W.Frag) : RC := fun ds M Q => match ds with
  | [x, .ty n] => ∃ t b, tyN x = some t ∧ PySem.W.kitOne K (.type t) (.type n) = some b ∧ Q (.bl b) M
  | _ => False
theorem cd_isinst : CallD X (.builtin "isinstance") (rIsInst X.K) := by
  intro pins s σ H vs us Q I rv ⟨ds, M, R, rs, a, q, fin⟩
  unfold rIsInst at q
  split at q
  · rename_i x n
    obtain ⟨v, u, rfl, r, r'⟩ := reps2 rs
    rw [Rep] at r'; subst r'
    obtain ⟨v', u', rfl, rw0, ru⟩ := vals2 rv
    cases (show u' = Value.type n from ru)
    obtain ⟨t, b, et, e, q⟩ := q
    have h : ∀ tk, EP X pins σ Q (.bool b) { s with toks := tk } := fun tk => ⟨.bl b, H, I.tok tk, rfl, fin _ _ _ _ .refl (by rw [Rep]) a q⟩
    cases x with
    | non => cases et; rw [Rep] at r; subst r; cases (show v' = Value.none from rw0); exact PySem.W.kia_one PySem.W.kitx_none I.kIn True.intro e (fun z => nomatch z) h
    | bl y => cases et; rw [Rep] at r; subst r; cases (show v' = Value.bool y from rw0); exact PySem.W.kia_one PySem.W.kitx_bool I.kIn True.intro e (fun z => nomatch z) h
    | int y => cases et; rw [Rep] at r; subst r; obtain ⟨t, q⟩ := (show ∃ t, v' = Value.int y t from rw0); cases q; exact PySem.W.kia_one PySem.W.kitx_int I.kIn True.intro e (fun z => nomatch z) h
    | str y => cases et; rw [Rep] at r; subst r; obtain ⟨t, q⟩ := (show ∃ t, v' = Value.str y t from rw0); cases q; exact PySem.W.kia_one PySem.W.kitx_str I.kIn True.intro e (fun z => nomatch z) h
    | tup y =>
      cases et; rw [Rep] at r
      obtain ⟨p, xs, rfl, h1, _⟩ := r
      cases (show v' = Value.ref p from rw0)
      obtain ⟨its, _, ⟨o, z1, z2, _⟩, _⟩ := I.tuple h1
      exact PySem.W.kia_one PySem.W.kitx_tuple I.kIn ⟨o, z1, z2⟩ e (fun z => nomatch z) h
    | rol y =>
      cases et; rw [Rep] at r
      obtain ⟨p, xs, rfl, h1, _⟩ := r
      cases (show v' = Value.ref p from rw0)
      obtain ⟨its, _, ⟨o, n, z1, z2, _⟩, _⟩ := I.list h1.sql
      exact PySem.W.kia_one PySem.W.kitx_list I.kIn ⟨o, z1, z2⟩ e (fun z => nomatch z) h
    | _ => cases et
  · exact q.elim
end

/-! ### targets -/
abbrev TGD := D → DS → MH → (DS → MH → Prop) → Prop
abbrev TGsD := List D → DS → MH → (DS → MH → Prop) → Prop
section
variable (K : PySem.W.Frag)
def FinG (H : Hp) (R : DS → MH → Prop) (Q : L2.St → Hp → Prop) : Prop := ∀ δ' M' σ' H', Grow K H H' → Slots K H' δ' σ' → Abs K H' M' → R δ' M' → Q σ' H'
def liftG (t : TGD) : TG := fun v σ H Q => ∃ d δ M R, Rep K H d v ∧ Slots K H δ σ ∧ Abs K H M ∧ t d δ M R ∧ FinG K H R Q
def liftGs (t : TGsD) : TGs := fun vs σ H Q => ∃ ds δ M R, Reps K H ds vs ∧ Slots K H δ σ ∧ Abs K H M ∧ t ds δ M R ∧ FinG K H R Q
end
theorem FinG.go {K : PySem.W.Frag} {H H1 : Hp} {R : DS → MH → Prop} {Q : L2.St → Hp → Prop} (g : Grow K H H1) (h : FinG K H R Q) : FinG K H1 R Q := fun d M v H' g' => h d M v H' (g.trans g')
def DG (X : Cx) (e : Expr) (t : TGD) : Prop := PG X e (liftG X.K t)
def DGs (X : Cx) (es : List Expr) (t : TGsD) : Prop := PGs X es (liftGs X.K t)
theorem pg_imp {X : Cx} {e : Expr} {t t' : TG} (h : PG X e t) (k : ∀ v σ H Q, t' v σ H Q → t v σ H Q) : PG X e t' := fun pins s σ H v u Q I r q => h pins s σ H v u Q I r (k _ _ _ _ q)
theorem pgs_imp {X : Cx} {e : List Expr} {t t' : TGs} (h : PGs X e t) (k : ∀ v σ H Q, t' v σ H Q → t v σ H Q) : PGs X e t' := fun pins s σ H v u Q I r q => h pins s σ H v u Q I r (k _ _ _ _ q)
section
variable {X : Cx} {pos : Pos}
def gNameD (i : Nat) : TGD := fun d δ M Q => Q (δ.set i (some d)) M
theorem dg_name (i : Nat) {x : Str} (hN : X.N.Nodup) (hi : X.N[i]? = some x := by rfl) (hx : Loc X.env.scope x := by first | exact Or.inl rfl | exact Or.inr rfl) (hf : X.fn x = true ∨ X.env.scope.names.lookup x = some .local := by first | exact .inl rfl | exact .inr rfl | assumption) : DG X (.Name x pos) (gNameD i) :=
  pg_imp (pg_name hN hi hx hf) fun v σ H Q ⟨d, δ, M, R, r, hs, a, q, fin⟩ => fin _ _ _ _ .refl (hs.set r i) a q
def gNilD : TGsD := fun ds δ M Q => ds = [] ∧ Q δ M
def gConsD (t : TGD) (u : TGsD) : TGsD := fun ds δ M Q => ∃ d r, ds = d :: r ∧ t d δ M fun δ' M' => u r δ' M' Q
theorem dgs_nil : DGs X [] gNilD := pgs_imp pgs_nil fun vs σ H Q ⟨ds, δ, M, R, rs, hs, a, ⟨e, q⟩, fin⟩ => by
  subst e
  rw [Reps] at rs
  exact ⟨rs, fin _ _ _ _ .refl hs a q⟩
theorem dgs_cons {e : Expr} {es : List Expr} {t : TGD} {u : TGsD} (h1 : DG X e t) (h2 : DGs X es u)
    (hs : (assignEach (e :: es) X.env).map (·.2) = assign e X.env :: (assignEach es X.env).map (·.2) := by rfl) : DGs X (e :: es) (gConsD t u) := pgs_imp (pgs_cons h1 h2 hs) fun vs σ H Q ⟨ds, δ, M, R, rs, hs, a, ⟨d, r, e, q⟩, fin⟩ => by
  subst e
  rw [Reps] at rs
  obtain ⟨x, xs, rfl, r1, r2⟩ := rs
  exact ⟨x, xs, rfl, d, δ, M, _, r1, hs, a, q, fun δ' M' σ' H' g' s' a' q' => ⟨r, δ', M', R, r2.mono g', s', a', q', fin.go g'⟩⟩
def gTupD (n : Nat) (t : TGsD) : TGD := fun d δ M Q => ∃ ds, d = .tup ds ∧ ds.length = n ∧ t ds δ M Q
theorem dg_tup {es : List Expr} {k : Nat} {t : TGsD} {n : Nat} (hc : X.calm = true) (h : DGs X es t)
    (hn : (assignEach es X.env).length = n := by rfl) (hst : (assignEach es X.env).findIdx? (·.1) = none := by rfl) : DG X (.Tuple es k pos) (gTupD n t) := pg_imp (pg_tup hc h hn hst) fun v σ H Q ⟨d, δ, M, R, r, hs, a, ⟨ds, e, hl, q⟩, fin⟩ => by
  subst e
  rw [Rep] at r
  obtain ⟨p, xs, rfl, h1, h2⟩ := r
  exact ⟨p, xs, rfl, h1, by rw [← h2.length]; exact hl, ds, δ, M, R, h2, hs, a, q, fin⟩
/-- o[i] = v -/
def rSetD : D → D → D → MH → (MH → Prop) → Prop := fun o i v M Q => match o, i with
  | .ref p, .int k => ∃ ds j, M p = some (.lst ds) ∧ ixN ds.length k = some j ∧ Q (updM M p (.lst (ds.set j v)))
  | _, _ => False
def gSubD (to ti : TD) : TGD := fun v δ M Q => to δ M fun o M1 => ti δ M1 fun i M2 => rSetD o i v M2 fun M3 => Q δ M3
theorem dg_sub {o i : Expr} {to ti : TD} (ho : DE X o to) (hi : DE X i ti)
    (ha : ∀ v, assign (.Subscript o i pos) X.env v = (do
      let ov ← holding [v] (eval o X.env)
      let iv ← holding [v, ov] (eval i X.env)
      standAt pos
      holding [v, ov, iv] (setItem ov iv v)
      release [v, ov, iv] []) := by intro _; rfl) : DG X (.Subscript o i pos) (gSubD to ti) :=
  pg_imp (pg_sub ho hi set_list ha) fun v σ H Q ⟨d, δ, M, R, r, hs, a, q, fin⟩ =>
    ⟨δ, M, _, hs, a, q, fun o M1 vo H1 g1 r1 a1 q1 => ⟨δ, M1, _, hs.mono g1, a1, q1, fun i M2 vi H2 g2 r2 a2 q2 => by
      unfold rSetD at q2
      split at q2
      · obtain ⟨ds, j, e1, e2, q2⟩ := q2
        obtain rfl : vo = .ref _ := r1
        obtain rfl : vi = .int _ := r2
        obtain ⟨xs, h1, h2⟩ := a2 _ _ e1
        refine ⟨_, xs, _, j, rfl, rfl, h1, by rw [← h2.length]; exact e2, ?_⟩
        have g3 : Grow X.K H2 (upd H2 _ (.lst (xs.set j v))) := .lst h1
        exact fin _ _ _ _ ((g1.trans g2).trans g3) (hs.mono ((g1.trans g2).trans g3)) (a2.setL h1 (h2.set (r.mono (g1.trans g2)) j)) q2
      · exact q2.elim⟩⟩
end

/-! ### statements -/
section
variable {X : Cx} {pos : Pos} {st : Stmt} {rest : List Stmt} {t u : TSD}
def tNextD : TSD := fun B δ M => B.nx δ M
def tSeqD (t u : TSD) : TSD := fun B δ M => t { B with nx := u B } δ M
theorem dss_nil : DSs X [] tNextD := pss_imp pss_nil fun E σ H ⟨δ, M, hs, a, B, ok, q⟩ => ok.nx _ _ _ _ .refl hs a q
theorem dss_cons (h1 : DSt X st t) (h2 : DSs X rest u) : DSs X (st :: rest) (tSeqD t u) := pss_imp (pss_cons h1 h2) fun E σ H ⟨δ, M, hs, a, B, ok, q⟩ =>
  ⟨δ, M, hs, a, { B with nx := u B }, ⟨fun δ' M' σ' H' g s' a' q' => ⟨δ', M', s', a', B, ok.go g, q'⟩, ok.rt, ok.bk, ok.ct⟩, q⟩
theorem dss_one (h1 : DSt X st t) : DSs X [st] t := pss_one h1
def tBreakD : TSD := fun B δ M => B.bk δ M
def tContD : TSD := fun B δ M => B.ct δ M
def tNeverD : TSD := fun _ _ _ => False
theorem ds_never : DSt X st tNeverD := ps_imp ps_never fun E σ H ⟨δ, M, hs, a, B, ok, q⟩ => q.elim
def tDropD (te : TD) : TSD := fun B δ M => te δ M fun _ M1 => B.nx δ M1
theorem ds_expr {e : Expr} {te : TD} (he : DE X e te) (hs : swapsWith e none pos.line X.env = pure false := by rfl) : DSt X (.Expr e pos) (tDropD te) :=
  ps_imp (ps_expr he hs) fun E σ H ⟨δ, M, hs, a, B, ok, q⟩ => ⟨δ, M, _, hs, a, q, fun d M1 v H1 g1 r1 a1 q1 => ok.nx _ _ _ _ g1 (hs.mono g1) a1 q1⟩
def tRetD (te : TD) : TSD := fun B δ M => te δ M B.rt
theorem ds_ret {e : Expr} {te : TD} (he : DE X e te) : DSt X (.Return (some e) pos) (tRetD te) :=
  ps_imp (ps_ret he) fun E σ H ⟨δ, M, hs, a, B, ok, q⟩ => ⟨δ, M, _, hs, a, q, fun d M1 v H1 g1 r1 a1 q1 => ok.rt _ _ _ _ g1 r1 a1 q1⟩
def tRetND : TSD := fun B _ M => B.rt .non M
def tIfSD (c : TTD) (t u : TSD) : TSD := fun B δ M => c δ M fun b M1 => if b = true then t B δ M1 else u B δ M1
theorem ds_if {c : Expr} {a b : List Stmt} {tc : TTD} (hc : DT X c tc) (ha : DSs X a t) (hb : DSs X b u) : DSt X (.If c a b pos) (tIfSD tc t u) :=
  ps_imp (ps_if hc ha hb) fun E σ H ⟨δ, M, hs, a, B, ok, q⟩ => ⟨δ, M, _, hs, a, q, fun c M1 H1 g1 a1 q1 => by
    cases c with
    | true => rw [if_pos rfl] at q1 ⊢; exact ⟨δ, M1, hs.mono g1, a1, B, ok.go g1, q1⟩
    | false => rw [if_neg Bool.false_ne_true] at q1 ⊢; exact ⟨δ, M1, hs.mono g1, a1, B, ok.go g1, q1⟩⟩
def tAsgD (te : TD) (g : TGD) : TSD := fun B δ M => te δ M fun d M1 => g d δ M1 B.nx
theorem ds_asg {tg e : Expr} {te : TD} {g : TGD} (he : DE X e te) (hg : DG X tg g) (hs : swapsWithSole [tg] e pos.line X.env = pure false := by rfl) (hw : swappedStores [tg] e X.env = pure none := by rfl)
    (h1 : (assignEach [tg] X.env).map (·.2) = [assign tg X.env] := by rfl) : DSt X (.Assign [tg] e pos) (tAsgD te g) :=
  ps_imp (ps_asg he hg hs hw h1) fun E σ H ⟨δ, M, hs, a, B, ok, q⟩ => ⟨δ, M, _, hs, a, q, fun d M1 v H1 g1 r1 a1 q1 =>
    ⟨d, δ, M1, B.nx, r1, hs.mono g1, a1, q1, fun δ' M' σ' H' g' s' a' q' => ok.nx _ _ _ _ (g1.trans g') s' a' q'⟩⟩
theorem ds_set (i : Nat) {x : Str} {e : Expr} {te : TD} {pos' : Pos} (hN : X.N.Nodup) (he : DE X e te) (hi : X.N[i]? = some x := by rfl) (hx : Loc X.env.scope x := by first | exact Or.inl rfl | exact Or.inr rfl) (hs : swapsWith e (some (.Name x pos')) pos.line X.env = pure false := by rfl)
    (hf : X.fn x = true ∨ X.env.scope.names.lookup x = some .local := by first | exact .inl rfl | exact .inr rfl | assumption) : DSt X (.Assign [.Name x pos'] e pos) (tAsgD te (gNameD i)) :=
  ps_imp (ps_set hN hi hx he hs hf) fun E σ H ⟨δ, M, hs, a, B, ok, q⟩ => ⟨δ, M, _, hs, a, q, fun d M1 v H1 g1 r1 a1 q1 => ok.nx _ _ _ _ g1 ((hs.mono g1).set r1 i) a1 q1⟩
def tParD (i j : Nat) (ta : TAD) : TSD := fun B δ M => ta δ M fun ds M1 => ∃ d e, ds = [d, e] ∧ B.nx ((δ.set i (some d)).set j (some e)) M1
theorem ds_par (i j : Nat) {x y : Str} {a b : Expr} {ta : TAD} {px py pt : Pos} {kt k2 pt2} (hc : X.calm = true) (hN : X.N.Nodup) (ha : DA X [a, b] ta) (hij : i ≠ j := by decide) (hi : X.N[i]? = some x := by rfl) (hj : X.N[j]? = some y := by rfl)
    (hx : X.env.scope.names.lookup x = some .local := by rfl) (hy : X.env.scope.names.lookup y = some .local := by rfl)
    (hw : swappedStores [.Tuple [.Name x px, .Name y py] kt pt] (.Tuple [a, b] k2 pt2) X.env = pure (some [x, y]) := by rfl)
    (hs : swapsWithSole [.Tuple [.Name x px, .Name y py] kt pt] (.Tuple [a, b] k2 pt2) pos.line X.env = pure false := by rfl) :
    DSt X (.Assign [.Tuple [.Name x px, .Name y py] kt pt] (.Tuple [a, b] k2 pt2) pos) (tParD i j ta) :=
  ps_imp (ps_par hc hN hi hj hij hx hy ha hw hs) fun E σ H ⟨δ, M, hs, a, B, ok, q⟩ => ⟨δ, M, _, hs, a, q, fun ds M1 vs H1 g1 r1 a1 ⟨d, e, z, q1⟩ => by
    subst z
    obtain ⟨v, u, rfl, r2, r3⟩ := reps2 r1
    exact ⟨v, u, rfl, ok.nx _ _ _ _ g1 (((hs.mono g1).set r2 i).set r3 j) a1 q1⟩⟩
/-- while, by a word and a measure -/
def tWhileD (c : TTD) (tb : TSD) : TSD := fun B δ M => ∃ W : Nat → DS → MH → Prop, (∃ m, W m δ M) ∧ ∀ m δ M, W m δ M →
  c δ M fun b M1 => if b = true then tb { B with nx := fun δ' M' => ∃ m', m' < m ∧ W m' δ' M', ct := fun δ' M' => ∃ m', m' < m ∧ W m' δ' M', bk := B.nx } δ M1 else B.nx δ M1
theorem ds_while {c : Expr} {body : List Stmt} {tc : TTD} {tb : TSD} (hp : PassesOwn (model X.prog X.w) X.A X.env X.xe) (hc : DT X c tc) (hb : DSs X body tb) : DSt X (.While c body [] pos) (tWhileD tc tb) :=
  ps_imp (ps_while hp hc hb) fun E σ H ⟨δ, M, hs, a, B, ok, W, ⟨m, w0⟩, turn⟩ => by
    refine ⟨fun m σ H' => Grow X.K H H' ∧ ∃ δ M, Slots X.K H' δ σ ∧ Abs X.K H' M ∧ W m δ M, ⟨m, .refl, δ, M, hs, a, w0⟩, ?_⟩
    rintro m σ H' ⟨g, δ, M, hs, a, w0⟩
    refine ⟨δ, M, _, hs, a, turn m δ M w0, fun b M1 H1 g1 a1 q1 => ?_⟩
    cases b with
    | true =>
      rw [if_pos rfl] at q1 ⊢
      refine ⟨fun σ2 H2 => ∃ m', m' < m ∧ (Grow X.K H H2 ∧ ∃ δ M, Slots X.K H2 δ σ2 ∧ Abs X.K H2 M ∧ W m' δ M), fun σ' H' h => h, δ, M1, hs.mono g1, a1, _, ?_, q1⟩
      refine ⟨fun δ' M' σ' H' g' s' a' ⟨m', l, w'⟩ => ⟨m', l, (g.trans g1).trans g', δ', M', s', a', w'⟩, fun d M v H' g' => ok.rt d M v H' ((g.trans g1).trans g'), fun δ' M' σ' H' g' s' a' q' => ok.nx _ _ _ _ ((g.trans g1).trans g') s' a' q', fun δ' M' σ' H' g' s' a' ⟨m', l, w'⟩ => ⟨m', l, (g.trans g1).trans g', δ', M', s', a', w'⟩⟩
    | false =>
      rw [if_neg Bool.false_ne_true] at q1 ⊢
      exact ok.nx _ _ _ _ (g.trans g1) (hs.mono g1) a1 q1
/-- for x in range(n) -/
def tForRD (ta : TAD) (g : TGD) (tb : TSD) : TSD := fun B δ M => ta δ M fun ds M1 => ∃ n : Nat, ds = [.int (n : Int)] ∧ n < 2 ^ 60 ∧ ∃ W : Nat → DS → MH → Prop, W 0 δ M1 ∧
  (∀ i δ M, i < n → W i δ M → g (.int (i : Int)) δ M fun δ2 M2 => tb { B with nx := W (i + 1), ct := W (i + 1), bk := B.nx } δ2 M2) ∧ ∀ δ M, W n δ M → B.nx δ M
theorem ds_forR {tg e : Expr} {body : List Stmt} {ta : TAD} {g : TGD} {tb : TSD} {p p2 : Pos} (hp : PassesOwn (model X.prog X.w) X.A X.env X.xe) (hc : X.calm = true) (hg : Gl X "range") (hm : X.mg "range" = none) (ha : DA X [e] ta) (hG : DG X tg g) (hb : DSs X body tb)
    (hs : starEach [e] X.env = [(false, eval e X.env)] := by rfl) (hf : ∀ x, foldedSetIterable (.Call (.Name "range" p) [e] [] p2) X.env x = pure x := by intro _; rfl) : DSt X (.For tg (.Call (.Name "range" p) [e] [] p2) body [] pos) (tForRD ta g tb) :=
  ps_imp (ps_for hp hc (pi_range1 hg hm ha hs) hG hb hf) fun E σ H ⟨δ, M, hs, a, B, ok, q⟩ => ⟨δ, M, _, hs, a, q, fun ds M1 vs H1 g1 r1 a1 ⟨n, e, hn, W, w0, turn, done⟩ => by
    subst e
    obtain ⟨v, rfl, r⟩ := reps1 r1
    rw [Rep] at r; subst r
    refine ⟨(n : Int), rfl, by omega, by omega, ?_⟩
    rw [show ((n : Int)).toNat = n from by simp]
    refine for_range (fun i σ H' => Grow X.K H H' ∧ ∃ δ M, Slots X.K H' δ σ ∧ Abs X.K H' M ∧ W i δ M) ⟨g1, δ, M1, hs.mono g1, a1, w0⟩ ?_ ?_
    · rintro i σ H2 hi ⟨g2, δ, M, s2, a2, w2⟩
      refine ⟨.int (i : Int), δ, M, _, by rw [Rep]; simp, s2, a2, turn i δ M hi w2, fun δ3 M3 σ3 H3 g3 s3 a3 q3 => ?_⟩
      refine ⟨δ3, M3, s3, a3, _, ?_, q3⟩
      exact ⟨fun δ' M' σ' H' g' s' a' w' => ⟨(g2.trans g3).trans g', δ', M', s', a', w'⟩, fun d M v H' g' => ok.rt d M v H' ((g2.trans g3).trans g'), fun δ' M' σ' H' g' s' a' q' => ok.nx _ _ _ _ ((g2.trans g3).trans g') s' a' q', fun δ' M' σ' H' g' s' a' w' => ⟨(g2.trans g3).trans g', δ', M', s', a', w'⟩⟩
    · rintro σ H2 ⟨g2, δ, M, s2, a2, w2⟩
      exact ok.nx _ _ _ _ g2 s2 a2 (done δ M w2)⟩
end

theorem iteA {b : Bool} {A B : Prop} (e : b = true) (h : A) : if b = true then A else B := by rw [if_pos e]; exact h
theorem iteB {b : Bool} {A B : Prop} (e : b = false) (h : B) : if b = true then A else B := by rw [if_neg (by rw [e]; exact Bool.false_ne_true)]; exact h
theorem orV {ta tb : TD} {δ : DS} {M : MH} {Q : DK} (c1 c2 : Bool) (ha : ∀ K : DK, K (.bl c1) M → ta δ M K) (hb : c1 = false → ∀ K : DK, K (.bl c2) M → tb δ M K) (hq : Q (.bl (c1 || c2)) M) : tOrVD ta tb δ M Q :=
  ha _ ⟨c1, rfl, by
    cases c1 with
    | true => rw [if_pos rfl]; exact hq
    | false => rw [if_neg Bool.false_ne_true]; exact hb rfl _ hq⟩
theorem andV {ta tb : TD} {δ : DS} {M : MH} {Q : DK} (c1 c2 : Bool) (ha : ∀ K : DK, K (.bl c1) M → ta δ M K) (hb : c1 = true → ∀ K : DK, K (.bl c2) M → tb δ M K) (hq : Q (.bl (c1 && c2)) M) : tAndVD ta tb δ M Q :=
  ha _ ⟨c1, rfl, by
    cases c1 with
    | true => rw [if_pos rfl]; exact hb rfl _ hq
    | false => rw [if_neg Bool.false_ne_true]; exact hq⟩
theorem orT {ta tb : TTD} {δ : DS} {M : MH} {Q : Bool → MH → Prop} (c1 c2 : Bool) (ha : ∀ K : Bool → MH → Prop, K c1 M → ta δ M K) (hb : c1 = false → ∀ K : Bool → MH → Prop, K c2 M → tb δ M K) (hq : Q (c1 || c2) M) : tOrD ta tb δ M Q :=
  ha _ (by
    cases c1 with
    | true => rw [if_pos rfl]; exact hq
    | false => rw [if_neg Bool.false_ne_true]; exact hb rfl _ hq)
theorem andT {ta tb : TTD} {δ : DS} {M : MH} {Q : Bool → MH → Prop} (c1 c2 : Bool) (ha : ∀ K : Bool → MH → Prop, K c1 M → ta δ M K) (hb : c1 = true → ∀ K : Bool → MH → Prop, K c2 M → tb δ M K) (hq : Q (c1 && c2) M) : tAndD ta tb δ M Q :=
  ha _ (by
    cases c1 with
    | true => rw [if_pos rfl]; exact hb rfl _ hq
    | false => rw [if_neg Bool.false_ne_true]; exact hq)
/-- a op b op c -/
def tChainD (r r' : R2D) (ta tb tc : TD) : TD := fun δ M Q => ta δ M fun x M1 => tb δ M1 fun y M2 => r x y M2 fun z M3 => ∃ k, z = .bl k ∧ if k = true then tc δ M3 fun u M4 => r' y u M4 Q else Q (.bl false) M3
theorem de_chain {X : Cx} {a b c : Expr} {ta tb tc : TD} {pos : Pos} {op op' : CmpOp} {r r' : R2D} (ho : OpD X (compareOp op) r) (ho' : OpD X (compareOp op') r') (ha : DE X a ta) (hb : DE X b tb) (hc : DE X c tc)
    (hm : lastMarks [op, op'] [b, c] = false := by with_unfolding_all rfl) : DE X (.Compare a [op, op'] [b, c] pos) (tChainD r r' ta tb tc) :=
  pe_imp (pe_chain ho ho' ha hb hc hm) fun σ H Q ⟨δ, M, R, hs, hM, q, fin⟩ => by
    refine ⟨δ, M, _, hs, hM, q, fun x M1 v H1 g1 r1 a1 q1 => ?_⟩
    refine ⟨δ, M1, _, hs.mono g1, a1, q1, fun y M2 u H2 g2 r2 a2 q2 => ?_⟩
    refine ⟨x, y, M2, _, r1.mono g2, r2, a2, q2, fun z M3 w H3 g3 r3 a3 ⟨k, e, q3⟩ => ?_⟩
    subst e
    rw [Rep] at r3
    refine ⟨k, r3, ?_⟩
    cases k with
    | true =>
      rw [if_pos rfl] at q3 ⊢
      exact ⟨δ, M3, _, hs.mono ((g1.trans g2).trans g3), a3, q3, fun u' M4 w' H4 g4 r4 a4 q4 => ⟨y, u', M4, R, r2.mono (g3.trans g4), r4, a4, q4, fin.go (((g1.trans g2).trans g3).trans g4)⟩⟩
    | false =>
      rw [if_neg Bool.false_ne_true] at q3 ⊢
      exact fin _ _ _ _ ((g1.trans g2).trans g3) (by rw [Rep]) a3 q3
/-- what holds between two statements -/
theorem seq_cut {t u : TSD} {B : EndsD} {δ : DS} {M : MH} (W : DS → MH → Prop) (hu : ∀ δ' M', W δ' M' → u B δ' M') (ht : (∀ δ' M', W δ' M' → u B δ' M') → t { B with nx := u B } δ M) : tSeqD t u B δ M := ht hu
/-! ### what may be forgotten when a def is left -/
def Sub (M' M : MH) : Prop := ∀ a o, M' a = some o → M a = some o
def SubX (r : Addr) (M' M : MH) : Prop := ∀ a o, a ≠ r → M' a = some o → M a = some o
theorem Sub.refl {M : MH} : Sub M M := fun _ _ h => h
theorem Sub.trans {M M1 M2 : MH} (a : Sub M M1) (b : Sub M1 M2) : Sub M M2 := fun x o h => b x o (a x o h)
theorem Sub.new {M M' : MH} {p : Addr} {o : MO} (hp : M p = none) (s : Sub M' M) : Sub M' (updM M p o) := fun a u h => by
  rw [updM_ne (fun e => by subst e; rw [s _ _ h] at hp; cases hp)]
  exact s _ _ h
theorem SubX.refl {M : MH} {r : Addr} : SubX r M M := fun _ _ _ h => h
theorem SubX.new {M M' : MH} {r p : Addr} {o : MO} (hp : M p = none) (s : SubX r M' M) : SubX r M' (updM M p o) := fun a u ne h => by
  rw [updM_ne (fun e => by subst e; rw [s _ _ ne h] at hp; cases hp)]
  exact s _ _ ne h
theorem SubX.same {M M' : MH} {r : Addr} {o : MO} (s : SubX r M' M) : SubX r M' (updM M r o) := fun a u ne h => by
  rw [updM_ne ne]
  exact s _ _ ne h
theorem Sub.updR {M M' : MH} {r : Addr} {o : MO} (s : SubX r M' M) : Sub (updM M' r o) (updM M r o) := fun a u h => by
  by_cases e : a = r
  · subst e
    rw [updM_same] at h ⊢
    exact h
  · rw [updM_ne e] at h ⊢
    exact s _ _ e h
def Ret (Q : DK) : DK := fun d M => ∃ M', Sub M' M ∧ Q d M'
theorem rtn {Q : DK} {d : D} {M : MH} (q : Q d M) : Ret Q d M := ⟨M, .refl, q⟩

/-! ### defs -/
abbrev SpD := List D → MH → DK → Prop
def liftSp (K : PySem.W.Frag) (sp : SpD) : Sp := fun vs H Q _ => ∃ ds M R, Reps K H ds vs ∧ Abs K H M ∧ sp ds M R ∧ Fin K H R Q
/-- a def that can be called by its name -/
def Cal (P : Program) (w : World) (K : PySem.W.Frag) (mg : Str → Option Value) (base : Heap) (k : Nat) (x : Str) (sp : SpD) : Prop :=
  ∃ f fd ps, FnOk P w K mg base CX0 k f fd ps (liftSp K sp) ∧ mg x = some (.ref f) ∧ PySem.W.keepIn K (.ref f) = true ∧ Binds K fd ps []
theorem Cal.mono {P : Program} {w : World} {K : PySem.W.Frag} {mg : Str → Option Value} {base : Heap} {j k : Nat} {x : Str} {sp : SpD} (h : Cal P w K mg base j x sp) (l : j ≤ k) : Cal P w K mg base k x sp :=
  let ⟨f, fd, ps, F, r⟩ := h; ⟨f, fd, ps, F.mono l, r⟩
section
variable {X : Cx} {k : Nat} {x : Str} {sp : SpD} {p pos : Pos} {e : Expr} {es : List Expr} {t : TAD}
def tCallD (sp : SpD) (t : TAD) : TD := fun δ M Q => t δ M fun ds M1 => sp ds M1 Q
theorem de_call (C : Cal X.prog X.w X.K X.mg X.base k x sp) (hr : Room k X.A) (ha : DA X (e :: es) t) (hg : Gl X x := by rfl) (hdb : (x == ("__debug__" : Str)) = false := by decide)
    (he : starEach (e :: es) X.env = (false, eval e X.env) :: starEach es X.env := by rfl) (hpl : (backTo pos (starEach es X.env)).any (·.1) = false := by rfl) : DE X (.Call (.Name x p) (e :: es) [] pos) (tCallD sp t) := by
  obtain ⟨f, fd, ps, F, hm, hk, hb⟩ := C
  refine pe_imp (pe_call F hr hg hm hk hb .nil pass0 ha hdb he hpl) fun σ H Q ⟨δ, M, R, hs, hM, q, fin⟩ => ?_
  refine ⟨δ, M, _, hs, hM, q, fun ds M1 vs H1 g1 r1 a1 q1 => ?_⟩
  show liftSp X.K sp (vs ++ []) H1 Q E0
  rw [List.append_nil]
  exact ⟨ds, M1, R, r1, a1, q1, fin.go g1⟩
end
def startD (N : List Str) (ds : List D) : DS := ds.map some ++ List.replicate (N.length - ds.length) none
section
variable {P : Program} {w : World} {K : PySem.W.Frag} {mg : Str → Option Value} {base : Heap}
theorem fnD {x qual : Str} {st : Stmt} {f : Addr} {fd : FuncData} {N ps : List Str} {k : Nat} {sp : SpD} (F : Fun K x qual st f fd) (S : FnScope N ps (defScope st)) (len : ∀ ds M Q, sp ds M Q → ds.length = ps.length)
    (hbody : ∀ X : Cx, X.prog = P → True) (body : ∀ (cdv : Value) (A : Around) (outer : List Env) (s : Shared) (H : Hp) (E : XK), Room k (A.deeper (envOfC qual (defScope st) s.heap.objs.size f cdv)) →
      ∃ t, DSs (cxOf CX0 P w K mg base N qual (defScope st) f cdv A outer s H E).nox (defBody st) t ∧ ∀ ds M Q, sp ds M Q → t { nx := fun _ M' => Ret Q .non M', rt := Ret Q } (startD N ds) M) : FnOk P w K mg base CX0 (k + 1) f fd ps (liftSp K sp) := by
  refine F.ok S (fun vs H Q E ⟨ds, M, R, rs, _, q, _⟩ => by rw [← rs.length]; exact len _ _ _ q) fun cdv A outer s H vs Q E hr ⟨ds, M, R, rs, a, q, fin⟩ => ?_
  obtain ⟨t, h, hq⟩ := body cdv A outer s H E hr
  refine ⟨_, h, startD N ds, M, slots_start rs, a, { nx := fun _ M' => Ret R .non M', rt := Ret R }, ⟨fun δ' M' σ' H' g s' a' q' => ?_, fun d M' v H' g r a' ⟨M2, s2, q'⟩ => fin _ _ _ _ g r (a'.sub s2) q', fun _ _ _ _ _ _ _ z => z, fun _ _ _ _ _ _ _ z => z⟩, hq ds M R q⟩
  obtain ⟨M2, s2, q'⟩ := q'
  exact fin .non M2 .non H' g (by rw [Rep]) (a'.sub s2) q'
/-- what the top has written of a def -/
def Txt (K : PySem.W.Frag) (mg : Str → Option Value) (x : Str) (st : Stmt) : Prop := ∃ f fd, Fun K x x st f fd ∧ mg x = some (.ref f)
theorem Txt.mk {h : Heap} {x : Str} {st : Stmt} {f : Addr} {oc : Value} {od an : Option Addr} {osl : Array (Option Value)} {kV doc pm cdv ct : Value} (X : K.In h) (G : h.Ns mainGlobals mg) (a : PySem.W.nsIn K mainGlobals x = some (some (.ref f)))
    (l : K.lookup f = some ⟨oc, od, .func (PySem.W.fnOf x x (defArgs st) (defBody st) (defScope st) .none kV doc pm an cdv ct), osl⟩)
    (c : PySem.W.codeIn K cdv x = true) (k : PySem.W.keepIn K (.ref f) = true) : Txt K mg x st := ⟨f, _, fun_mk l c k, PySem.W.mg_of X G a⟩
theorem calD {x : Str} {st : Stmt} {N ps : List Str} {k : Nat} {sp : SpD} (T : Txt K mg x st) (S : FnScope N ps (defScope st))
    (hb : ∀ (kV doc pm : Value) (an : Option Addr) (cdv ct : Value) (us : List Value), us.length = ps.length → bindArgs (PySem.W.fnOf x x (defArgs st) (defBody st) (defScope st) .none kV doc pm an cdv ct) ⟨us, []⟩ = pure (ps.zip us))
    (len : ∀ ds M Q, sp ds M Q → ds.length = ps.length)
    (body : ∀ (f : Addr) (cdv : Value) (A : Around) (outer : List Env) (s : Shared) (H : Hp) (E : XK), Room k (A.deeper (envOfC x (defScope st) s.heap.objs.size f cdv)) →
      ∃ t, DSs (cxOf CX0 P w K mg base N x (defScope st) f cdv A outer s H E).nox (defBody st) t ∧ ∀ ds M Q, sp ds M Q → t { nx := fun _ M' => Ret Q .non M', rt := Ret Q } (startD N ds) M) : Cal P w K mg base (k + 1) x sp := by
  obtain ⟨f, fd, F, hm⟩ := T
  exact ⟨f, fd, ps, fnD F S len (fun _ _ => trivial) (body f), hm, F.kp, F.binds hb⟩
end
end SD

set_option Elab.async false
set_option linter.all false
set_option maxRecDepth 100000
namespace SD
open PySem PySem.Spec PyProof.Rows L2
theorem bt_abs : bootBuiltins "abs" = some (.builtin "abs") := by decide +kernel
theorem bt_max : bootBuiltins "max" = some (.builtin "max") := by decide +kernel
theorem bt_min : bootBuiltins "min" = some (.builtin "min") := by decide +kernel
theorem bt_len : bootBuiltins "len" = some (.builtin "len") := by decide +kernel
theorem bt_all : bootBuiltins "all" = some (.builtin "all") := by decide +kernel
theorem bt_isinstance : bootBuiltins "isinstance" = some (.builtin "isinstance") := by decide +kernel
theorem bt_tuple : bootBuiltins "tuple" = some (.type "tuple") := by decide +kernel
theorem bt_list : bootBuiltins "list" = some (.type "list") := by decide +kernel
theorem bt_int : bootBuiltins "int" = some (.type "int") := by decide +kernel
section
variable {P : Program} {w : World} {K : PySem.W.Frag} {mg : Str → Option Value}
theorem lawD {x : Str} {st : Stmt} {N : List Str} {p : Str} {k : Nat} {sp : SpD} {fa : Addr} (T : Txt K mg x st) (hfa : mg x = some (.ref fa)) (S : FnScope N [p] (defScope st))
    (hb : ∀ (kV doc pm : Value) (an : Option Addr) (cdv ct : Value) (us : List Value), us.length = [p].length → bindArgs (PySem.W.fnOf x x (defArgs st) (defBody st) (defScope st) .none kV doc pm an cdv ct) ⟨us, []⟩ = pure ([p].zip us))
    (len : ∀ ds M Q, sp ds M Q → ds.length = [p].length)
    (body : ∀ (base : Heap) (f : Addr) (cdv : Value) (A : Around) (outer : List Env) (s : Shared) (H : Hp) (E : XK), Room k (A.deeper (envOfC x (defScope st) s.heap.objs.size f cdv)) →
      ∃ t, DSs (cxOf CX0 P w K mg base N x (defScope st) f cdv A outer s H E).nox (defBody st) t ∧ ∀ ds M Q, sp ds M Q → t { nx := fun _ M' => Ret Q .non M', rt := Ret Q } (startD N ds) M) :
    ∃ fd, (∀ (s : Shared) (u : Value), BindsTo s fd ⟨[u], []⟩ [(p, u)]) ∧ ∀ base : Heap, FnOk P w K mg base CX0 (k + 1) fa fd [p] (liftSp K sp) := by
  obtain ⟨f, fd, F, hm⟩ := T
  have e := hfa.symm.trans hm
  cases e
  refine ⟨fd, fun s u => ?_, fun base => fnD F S len (fun _ _ => trivial) (body base _)⟩
  obtain ⟨oc, od, kV, doc, pm, an, cdv, ct, osl, rfl, lk, hcd⟩ := F.ex
  exact .of_eq (hb kV doc pm an cdv ct [u] rfl)
end
theorem law_walk {l : PySem.W.OpenLaw} {k : Nat} {q : Program} {loose : List Str} {XP : (Str → Option Value) → Heap → Prop} {YP : World → Heap → Prop} {d : DefRec} {K : Params → PySem.W.Frag} {sp : SpD} {x : Str}
    (hn : l.most = some 63) (hdf : d.params.defaults = []) (hr : Room k callerA)
    (hY : ∀ (w : World) (h : Heap), YP w h → (K w.params).In h)
    (F : ∀ (w : World) (mg : Str → Option Value) (fa : Addr) (h : Heap), (K w.params).In h → h.Ns mainGlobals mg → mg d.name = some (.ref fa) →
      ∃ fd : FuncData, (∀ (s : Shared) (u : Value), BindsTo s fd ⟨[u], []⟩ [(x, u)]) ∧
        ∀ base : Heap, FnOk l.prog w (K w.params) mg base CX0 k fa fd [x] (liftSp (K w.params) sp))
    (hsp : ∀ (ns : List Int) (M : MH), ns.length ≤ 63 → sp [.rol (ns.map D.int)] M (fun d _ => d = .bl true)) :
    PySem.W.WalkO q loose XP YP l.row.toRowW d [] (fun f vs => PySem.call f vs) := by
  refine walk_of (x := x) (n := 63) (CX := fun _ => CX0) (sp := fun w => liftSp (K w.params) sp) hn (by decide) hdf hr hY (fun w mg fa h a b c => ?_) (fun w H a ns hl hO hS => ?_) fun _ _ _ _ _ z => z
  · obtain ⟨fd, h1, h2⟩ := F w mg fa h a b c
    exact ⟨fd, h1, fun base _ _ => h2 base⟩
  · have hF : SqF (K w.params) H a (ns.map V.int) := by
      rcases hS with (z | z) | z
      · rcases hO a with y | ⟨o, xs, y⟩
        · rw [z] at y; cases y
        · rw [z] at y; cases y
      · exact .inl z
      · exact .inr z
    refine ⟨[.rol (ns.map D.int)], fun _ => none, _, .cons (by rw [Rep]; exact ⟨a, _, rfl, hF, reps_ints ns⟩) .nil, (fun _ _ e => nomatch e : Abs (K w.params) H fun _ => none), hsp ns _ hl, fun d M' v H' g r a' e => ?_⟩
    subst e
    rw [Rep] at r
    exact r
end SD

set_option Elab.async false
set_option linter.all false
set_option maxRecDepth 100000
/-! Fractions as rational numbers. -/
namespace Ma
open PySem PySem.Spec PyProof.Rows L2 SD
abbrev fr (q : Rat) : D := .tup [.int q.num, .int (q.den : Int)]
theorem den_pos (q : Rat) : (0 : Int) < (q.den : Int) := by have := q.den_pos; omega
def Bq (n : Nat) (q : Rat) : Prop := Bd n q.num ∧ Bd n (q.den : Int)
theorem Bq.mono {m n : Nat} {q : Rat} (h : Bq m q) (l : m ≤ n) : Bq n q := ⟨h.1.mono l, h.2.mono l⟩
theorem fdiv_pos {t b : Int} (hb : 0 < b) : t.fdiv b = t / b := Int.fdiv_eq_ediv_of_nonneg _ (by omega)
theorem fdiv_neg {t b : Int} (hd : b ∣ t) (hb : 0 < b) : t.fdiv (-b) = -(t / b) := by
  obtain ⟨c, rfl⟩ := hd
  have hb' : b ≠ 0 := by omega
  rw [Int.mul_ediv_cancel_left _ hb']
  have : b * c = -b * -c := by rw [Int.neg_mul_neg]
  rw [this]
  exact Int.mul_fdiv_cancel_left _ (by omega)
theorem g_dvd_l (t b : Int) : ((Nat.gcd t.natAbs b.natAbs : Nat) : Int) ∣ t := Int.ofNat_dvd_left.mpr (Nat.gcd_dvd_left _ _)
theorem g_dvd_r (t b : Int) : ((Nat.gcd t.natAbs b.natAbs : Nat) : Int) ∣ b := Int.ofNat_dvd_left.mpr (Nat.gcd_dvd_right _ _)
theorem gcd_comm' (t b : Int) : Int.gcd b t = Nat.gcd t.natAbs b.natAbs := by
  unfold Int.gcd
  exact Nat.gcd_comm _ _
theorem g_pos {t b : Int} (hb : b ≠ 0) : 0 < Nat.gcd t.natAbs b.natAbs := Nat.gcd_pos_of_pos_right _ (by omega)
/-- the fraction's two numbers, the bottom above 0 -/
theorem low_pos {t b : Int} (hb : 0 < b) : t.fdiv (Nat.gcd t.natAbs b.natAbs : Nat) = (Rat.divInt t b).num ∧ b.fdiv (Nat.gcd t.natAbs b.natAbs : Nat) = ((Rat.divInt t b).den : Int) := by
  have hg := g_pos (t := t) (b := b) (by omega)
  rw [fdiv_pos (by omega), fdiv_pos (by omega), Rat.num_divInt, Rat.den_divInt, if_neg (by omega), Int.sign_eq_one_of_pos hb, Int.one_mul, gcd_comm']
  refine ⟨rfl, ?_⟩
  rw [Int.natCast_ediv]
  congr 1
  omega
theorem low_neg {t b : Int} (hb : b < 0) : t.fdiv (-((Nat.gcd t.natAbs b.natAbs : Nat) : Int)) = (Rat.divInt t b).num ∧ b.fdiv (-((Nat.gcd t.natAbs b.natAbs : Nat) : Int)) = ((Rat.divInt t b).den : Int) := by
  have hg := g_pos (t := t) (b := b) (by omega)
  rw [fdiv_neg (g_dvd_l t b) (by omega), fdiv_neg (g_dvd_r t b) (by omega), Rat.num_divInt, Rat.den_divInt, if_neg (by omega), Int.sign_eq_neg_one_of_neg hb, gcd_comm']
  constructor
  · rw [show (-1 : Int) * t = -t from by omega, Int.neg_ediv_of_dvd (g_dvd_l t b)]
  · rw [Int.natCast_ediv, show ((b.natAbs : Nat) : Int) = -b from by omega, Int.neg_ediv_of_dvd (g_dvd_r t b)]
theorem divInt_len {t b : Int} (hb : b ≠ 0) : (Rat.divInt t b).num.natAbs ≤ t.natAbs ∧ (Rat.divInt t b).den ≤ b.natAbs := by
  constructor
  · rw [Rat.num_divInt]
    refine Nat.le_trans (Int.natAbs_ediv_le_natAbs _ _) ?_
    rw [Int.natAbs_mul]
    rcases Int.lt_trichotomy b 0 with h | h | h
    · rw [Int.sign_eq_neg_one_of_neg h]; simp
    · exact absurd h hb
    · rw [Int.sign_eq_one_of_pos h]; simp
  · rw [Rat.den_divInt, if_neg hb]
    exact Nat.div_le_self _ _
theorem Bq.divInt {n : Nat} {t b : Int} (hb : b ≠ 0) (h1 : Bd n t) (h2 : Bd n b) : Bq n (Rat.divInt t b) := by
  obtain ⟨a1, a2⟩ := divInt_len (t := t) hb
  exact ⟨Nat.lt_of_le_of_lt a1 h1, Nat.lt_of_le_of_lt (by simpa using a2) h2⟩
theorem mod_nat (x y : Nat) : Int.fmod (x : Int) (y : Int) = ((x % y : Nat) : Int) := by
  rw [Int.fmod_eq_emod_of_nonneg _ (by omega)]
  rfl
/-- alike as data, alike as numbers -/
theorem eqv_fr (q r : Rat) : PyData.eqv (.tuple [.int q.num, .int (q.den : Int)]) (.tuple [.int r.num, .int (r.den : Int)]) = decide (q = r) := by
  simp only [PyData.eqv, PyData.eqvAll, Bool.and_true]
  by_cases h : q = r
  · subst h; simp
  · rw [decide_eq_false h]
    rw [Bool.eq_false_iff]
    intro z
    rw [Bool.and_eq_true, beq_iff_eq, beq_iff_eq] at z
    exact h (Rat.ext z.1 (by have := z.2; omega))
/-- the order -/
theorem lt_fr (q r : Rat) : decide (q.num * (r.den : Int) < r.num * (q.den : Int)) = decide (q < r) := by
  rw [decide_eq_decide, Rat.lt_iff]
abbrev spt (a b : Rat) : D := .tup [fr a, fr b]
theorem den_ne (q : Rat) : (q.den : Int) ≠ 0 := by have := q.den_pos; omega
theorem add_eq (q r : Rat) : Rat.divInt (q.num * (r.den : Int) + r.num * (q.den : Int)) ((q.den : Int) * (r.den : Int)) = q + r := by
  rw [← Rat.divInt_add_divInt _ _ (den_ne q) (den_ne r), Rat.num_divInt_den, Rat.num_divInt_den]
theorem sub_eq (q r : Rat) : Rat.divInt (q.num * (r.den : Int) - r.num * (q.den : Int)) ((q.den : Int) * (r.den : Int)) = q - r := by
  rw [← Rat.divInt_sub_divInt _ _ (den_ne q) (den_ne r), Rat.num_divInt_den, Rat.num_divInt_den]
theorem mul_eq (q r : Rat) : Rat.divInt (q.num * r.num) ((q.den : Int) * (r.den : Int)) = q * r := by
  rw [← Rat.divInt_mul_divInt, Rat.num_divInt_den, Rat.num_divInt_den]
theorem dd_ne (q r : Rat) : (q.den : Int) * (r.den : Int) ≠ 0 := Int.mul_ne_zero (den_ne q) (den_ne r)
theorem Bq.t_add {n : Nat} {q r : Rat} (a : Bq n q) (b : Bq n r) : Bd (2 * n + 1) (q.num * (r.den : Int) + r.num * (q.den : Int)) := ((a.1.mul b.2).add (b.1.mul a.2)).mono (by omega)
theorem Bq.t_sub {n : Nat} {q r : Rat} (a : Bq n q) (b : Bq n r) : Bd (2 * n + 1) (q.num * (r.den : Int) - r.num * (q.den : Int)) := ((a.1.mul b.2).sub (b.1.mul a.2)).mono (by omega)
theorem Bq.t_mul {n : Nat} {q r : Rat} (a : Bq n q) (b : Bq n r) : Bd (2 * n + 1) (q.num * r.num) := (a.1.mul b.1).mono (by omega)
theorem Bq.t_den {n : Nat} {q r : Rat} (a : Bq n q) (b : Bq n r) : Bd (2 * n + 1) ((q.den : Int) * (r.den : Int)) := (a.2.mul b.2).mono (by omega)
theorem Bq.add {n : Nat} {q r : Rat} (a : Bq n q) (b : Bq n r) : Bq (2 * n + 1) (q + r) := by rw [← add_eq]; exact .divInt (dd_ne q r) (a.t_add b) (a.t_den b)
theorem Bq.sub {n : Nat} {q r : Rat} (a : Bq n q) (b : Bq n r) : Bq (2 * n + 1) (q - r) := by rw [← sub_eq]; exact .divInt (dd_ne q r) (a.t_sub b) (a.t_den b)
theorem Bq.mul {n : Nat} {q r : Rat} (a : Bq n q) (b : Bq n r) : Bq (2 * n + 1) (q * r) := by rw [← mul_eq]; exact .divInt (dd_ne q r) (a.t_mul b) (a.t_den b)
theorem Bq.neg {n : Nat} {q : Rat} (a : Bq n q) : Bq n (-q) := ⟨by rw [Rat.neg_num]; exact a.1.neg, by rw [Rat.neg_den]; exact a.2⟩
/-- the side -/
def sgn (z : Rat) : Int := if 0 < z then 1 else if z < 0 then -1 else 0
def cr (a b c d x y : Rat) : Rat := (c - a) * (y - b) - (d - b) * (x - a)
abbrev wll (a b c d : Rat) : D := .tup [spt a b, spt c d]
def ah (a b c d : Rat) : Prop := a < c ∨ a = c ∧ b < d
instance (a b c d : Rat) : Decidable (ah a b c d) := inferInstanceAs (Decidable (_ ∨ _))
/-! the sixth law: a spot at a part p of the wall's length and s aside -/
def absq (q : Rat) : Rat := if q < 0 then -q else q
theorem Bq.absq {n : Nat} {q : Rat} (h : Bq n q) : Bq n (absq q) := by
  unfold Ma.absq
  split
  · exact h.neg
  · exact h
theorem pick {xs : List Int} {v : Int} (h0 : 0 ≤ v) (h1 : v < xs.length) {P : Int → Prop} (h : ∀ m ∈ xs, P m) : ∃ m, atI (xs.map D.int) v = some (.int m) ∧ P m := by
  obtain ⟨j, rfl⟩ : ∃ j : Nat, v = (j : Int) := ⟨v.toNat, by omega⟩
  have hj : j < xs.length := by omega
  exact ⟨xs[j], atI_nat (by simp [hj]), h _ (List.getElem_mem hj)⟩
end Ma

set_option Elab.async false
set_option linter.all false
set_option maxRecDepth 100000
namespace SD
open PySem PySem.Spec PyProof.Rows L2
def clOf (names : List (Str × NameKind)) (env : Env) : List (Str × Addr) := (names.filter fun y => y.2 == .free).reverse.map fun y => (y.1, (env.cells.lookup y.1).getD 0)
theorem closure_eq {scope : Scope} {env : Env} (h : ∀ y ∈ scope.names, y.2 = .free → ∃ c, env.cells.lookup y.1 = some c) : closureFor scope env = pure (clOf scope.names env) := by
  have key : ∀ (names : List (Str × NameKind)) (acc : List (Str × Addr)), (∀ y ∈ names, y.2 = .free → ∃ c, env.cells.lookup y.1 = some c) →
      (forIn names acc (fun (x : Str × NameKind) (r : List (Str × Addr)) => if (x.2 == NameKind.free) = true then do let a ← cellOf env x.1; pure (ForInStep.yield ((x.1, a) :: r)) else pure (ForInStep.yield r)) : Sem (List (Str × Addr))) = pure (clOf names env ++ acc) := by
    intro names
    induction names with
    | nil => intro acc _; rfl
    | cons y ys ih =>
      intro acc hy
      obtain ⟨n, k⟩ := y
      rw [List.forIn_cons]
      by_cases hk : (k == NameKind.free) = true
      · obtain ⟨c, hc⟩ := hy (n, k) (List.mem_cons_self ..) (by simpa using hk)
        have e1 : cellOf env n = pure c := by unfold cellOf; rw [hc]
        dsimp only
        rw [if_pos hk, e1]
        simp only [pure_bind]
        rw [ih _ fun y hm => hy y (List.mem_cons_of_mem _ hm)]
        unfold clOf
        rw [List.filter_cons_of_pos (by simpa using hk), List.reverse_cons, List.map_append, List.append_assoc]
        simp [hc]
      · dsimp only
        rw [if_neg hk]
        simp only [pure_bind]
        rw [ih _ fun y hm => hy y (List.mem_cons_of_mem _ hm)]
        unfold clOf
        rw [List.filter_cons_of_neg (by simpa using hk)]
  have := key scope.names [] h
  rw [List.append_nil] at this
  unfold closureFor
  exact Eq.trans (congrArg (fun t : Sem (List (Str × Addr)) => t >>= fun cs => pure cs) this) rfl
theorem lookup_clOf {env : Env} {y : Str} {c : Addr} : ∀ {names : List (Str × NameKind)}, (∀ z ∈ names, z.2 = .free → ∃ c, env.cells.lookup z.1 = some c) → (clOf names env).lookup y = some c → env.cells.lookup y = some c := by
  intro names h e
  have hm := PySem.mem_of_lookup e
  unfold clOf at hm
  obtain ⟨z, hz, e2⟩ := List.mem_map.mp hm
  rw [List.mem_reverse, List.mem_filter] at hz
  obtain ⟨c', hc⟩ := h z hz.1 (by simpa using hz.2)
  rw [hc] at e2
  cases e2
  exact hc
theorem has_clOf {env : Env} {y : Str} {names : List (Str × NameKind)} (hm : (y, NameKind.free) ∈ names) : ∃ c, (clOf names env).lookup y = some c := by
  cases e : (clOf names env).lookup y with
  | some c => exact ⟨c, rfl⟩
  | none =>
    have := List.lookup_eq_none_iff.mp e (y, (env.cells.lookup y).getD 0) (List.mem_map.mpr ⟨(y, .free), List.mem_reverse.mpr (List.mem_filter.mpr ⟨hm, rfl⟩), rfl⟩)
    simp at this
/-- a name's kind in the block -/
theorem lookup_relabel {env : Env} (hk : env.scope.kind = .function) : ∀ {names : List (Str × NameKind)} {y : Str} {k : NameKind},
    (names.map fun (n, k) => if (k == NameKind.free && env.scope.kind == .function && env.kindOf n == some .cell) then (n, NameKind.cell) else (n, k)).lookup y = some k →
      names.lookup y = some k ∨ (k = .cell ∧ names.lookup y = some .free)
  | [], _, _, h => by simp at h
  | (n, q) :: r, y, k, h => by
    have ih := @lookup_relabel env hk r y k
    rw [List.map_cons] at h
    dsimp only at h
    by_cases hy : (y == n) = true
    · by_cases hc : (q == NameKind.free && env.scope.kind == .function && env.kindOf n == some .cell) = true
      · rw [if_pos hc, List.lookup_cons, hy] at h
        have hf : q = .free := by
          rw [Bool.and_eq_true, Bool.and_eq_true] at hc
          simpa using hc.1.1
        cases h
        right
        exact ⟨rfl, by rw [List.lookup_cons, hy, hf]⟩
      · rw [if_neg hc, List.lookup_cons, hy] at h
        left
        rw [List.lookup_cons, hy]; exact h
    · have hy' : (y == n) = false := by simpa using hy
      have h' : (r.map fun (n, k) => if (k == NameKind.free && env.scope.kind == .function && env.kindOf n == some .cell) then (n, NameKind.cell) else (n, k)).lookup y = some k := by
        split at h
        · rw [List.lookup_cons, hy'] at h; exact h
        · rw [List.lookup_cons, hy'] at h; exact h
      rw [List.lookup_cons, hy']
      exact ih h'
end SD

set_option Elab.async false
set_option linter.all false
set_option maxRecDepth 100000
/-! What a loop or a comprehension walks, as data: a range, a list, a tuple; for; x += e. -/
namespace SD
open PySem PySem.Spec PyProof.Rows L2
theorem pi_imp {X : Cx} {tg iter : Expr} {wi wi' : TI} (h : PI X tg iter wi) (k : ∀ σ H R, wi' σ H R → wi σ H R) : PI X tg iter wi' := fun pins s σ H R I q => h pins s σ H R I (k _ _ _ q)
def iSeq (K : PySem.W.Frag) (tl : TE) : TI := fun σ H R => tl σ H fun x H1 => ∃ a, x = .ref a ∧ (((∃ xs, SqL K H1 a xs) ∧ R (Itl K a) H1) ∨ ((∃ xs, SqT K H1 a xs) ∧ R (Itt K a) H1))
theorem pi_seq {X : Cx} {tg l : Expr} {tl : TE} (hl : PE X l tl) : PI X tg l (iSeq X.K tl) := by
  intro pins s σ H R I h
  refine thn (hl pins s σ H _ I h) fun v s1 ⟨x, H1, I1, r1, q1⟩ => ?_
  obtain ⟨a, e, z⟩ := q1
  subst e
  cases r1
  have fp : ∀ b ∈ [s1.heap.objs.size], FpOk X pins H1 b := fun b hb => by
    obtain rfl : b = s1.heap.objs.size := by simpa using hb
    exact I1.fpOk (Nat.le_refl _) (I1.hok.fresh (Nat.le_refl _))
  rcases z with ⟨⟨xs, hq⟩, q⟩ | ⟨⟨xs, hq⟩, q⟩
  · obtain ⟨its, rv, p, hz⟩ := I1.list hq
    exact wpAny_pyIter_list p.isList ⟨_, [s1.heap.objs.size], _, _, H1, rfl, I1.kept (t' := s1.toks) fun b o e => Heap.get?_push_of_some _ e, turn_list a _, ⟨_, Heap.get?_push_size _ rfl, rfl, rfl⟩, fp, q⟩
  · obtain ⟨its, rv, p, hz⟩ := I1.tuple hq
    exact wpAny_pyIter_tuple (show s1.heap.IsTuple a its.toArray from p) ⟨_, [s1.heap.objs.size], _, _, H1, rfl, I1.kept (t' := s1.toks) fun b o e => Heap.get?_push_of_some _ e, turn_tuple a _, ⟨_, Heap.get?_push_size _ rfl, rfl, rfl⟩, fp, q⟩

structure ItD where
  n : Nat
  item : Nat → Option D
  C : MH → Prop
abbrev TID := DS → MH → (ItD → MH → Prop) → Prop
structure ItOk (K : PySem.W.Frag) (H1 : Hp) (I : ItD) (J : It) : Prop where
  stop : ∀ H2 M2, Grow K H1 H2 → Abs K H2 M2 → I.C M2 → J.stop I.n H2
  go : ∀ i H2 M2, i < I.n → Grow K H1 H2 → Abs K H2 M2 → I.C M2 → J.go i H2
  yld : ∀ i H2 M2 v H3, i < I.n → Grow K H1 H2 → Abs K H2 M2 → I.C M2 → J.yld i H2 v H3 → Grow K H2 H3 ∧ Abs K H3 M2 ∧ ∃ d, I.item i = some d ∧ Rep K H3 d v
def liftI (K : PySem.W.Frag) (t : TID) : TI := fun σ H R => ∃ δ M RD, Slots K H δ σ ∧ Abs K H M ∧ t δ M RD ∧ ∀ I M' H' J, Grow K H H' → Abs K H' M' → RD I M' → ItOk K H' I J → R J H'
def DI (X : Cx) (tg iter : Expr) (t : TID) : Prop := PI X tg iter (liftI X.K t)
/-- a list (its own store's, or one that nobody changes) or a tuple -/
def seqD (M : MH) : D → List D → Prop
  | .tup ds, es => es = ds
  | .rol ds, es => es = ds
  | .ref a, es => M a = some (.lst es)
  | _, _ => False
def dRng1 (ta : TAD) : TID := fun δ M R => ta δ M fun ds M1 => ∃ n : Nat, ds = [.int (n : Int)] ∧ n < 2 ^ 60 ∧ R ⟨n, fun i => some (.int (i : Int)), fun _ => True⟩ M1
def dRng2 (ta : TAD) : TID := fun δ M R => ta δ M fun ds M1 => ∃ lo hi : Int, ds = [.int lo, .int hi] ∧ (-(2 ^ 60) ≤ lo ∧ lo < 2 ^ 60 ∧ -(2 ^ 60) ≤ hi ∧ hi < 2 ^ 60) ∧ R ⟨(hi - lo).toNat, fun i => some (.int (lo + i)), fun _ => True⟩ M1
def dSeq (tl : TD) : TID := fun δ M R => tl δ M fun d M1 => ∃ ds, seqD M1 d ds ∧ R ⟨ds.length, fun i => ds[i]?, fun M => seqD M d ds⟩ M1
section
variable {X : Cx} {tg : Expr}
theorem di_seq {l : Expr} {tl : TD} (hl : DE X l tl) : DI X tg l (dSeq tl) :=
  pi_imp (pi_seq hl) fun σ H R ⟨δ, M, RD, hs, hM, q, fin⟩ => ⟨δ, M, _, hs, hM, q, fun d M1 v H1 g1 r1 a1 ⟨ds, sq, q1⟩ => by
    cases d with
    | tup es =>
      obtain rfl : ds = es := sq
      rw [Rep] at r1
      obtain ⟨a, xs, rfl, hq, rs⟩ := r1
      refine ⟨a, rfl, .inr ⟨⟨xs, hq⟩, fin _ M1 H1 _ g1 a1 q1 ⟨fun H2 _ g2 _ _ => ⟨xs, g2.t _ _ hq, by rw [rs.length]; exact Nat.le_refl _⟩, fun i H2 _ hi g2 _ _ => ?_, ?_⟩⟩⟩
      · have hi' : i < xs.length := by rw [← rs.length]; exact hi
        exact ⟨xs, xs[i], g2.t _ _ hq, by simp [hi']⟩
      · rintro i H2 M2 v H3 hi g2 a2 _ ⟨rfl, hy⟩
        have hi : i < ds.length := hi
        obtain ⟨x, e1, e2⟩ := (rs.mono g2).get (show ds[i]? = some ds[i] by simp [hi])
        have := hy xs (g2.t _ _ hq)
        rw [e1] at this; cases this
        exact ⟨.refl, a2, _, by simp [hi], e2⟩
    | rol es =>
      obtain rfl : ds = es := sq
      rw [Rep] at r1
      obtain ⟨a, xs, rfl, hq, rs⟩ := r1
      refine ⟨a, rfl, .inl ⟨⟨xs, hq.sql⟩, fin _ M1 H1 _ g1 a1 q1 ⟨fun H2 _ g2 _ _ => ⟨xs, (g2.f _ _ hq).sql, by rw [rs.length]; exact Nat.le_refl _⟩, fun i H2 _ hi g2 _ _ => ?_, ?_⟩⟩⟩
      · have hi' : i < xs.length := by rw [← rs.length]; exact hi
        exact ⟨xs, xs[i], (g2.f _ _ hq).sql, by simp [hi']⟩
      · rintro i H2 M2 v H3 hi g2 a2 _ ⟨rfl, hy⟩
        have hi : i < ds.length := hi
        obtain ⟨x, e1, e2⟩ := (rs.mono g2).get (show ds[i]? = some ds[i] by simp [hi])
        have := hy xs (g2.f _ _ hq).sql
        rw [e1] at this; cases this
        exact ⟨.refl, a2, _, by simp [hi], e2⟩
    | ref a =>
      rw [Rep] at r1; subst r1
      obtain ⟨xs, hx, rs⟩ := a1 _ _ (show M1 a = some (.lst ds) from sq)
      refine ⟨a, rfl, .inl ⟨⟨xs, SqL.of hx⟩, fin _ M1 H1 _ g1 a1 q1 ⟨fun H2 M2 g2 a2 c2 => ?_, fun i H2 M2 hi g2 a2 c2 => ?_, ?_⟩⟩⟩
      · obtain ⟨ys, hy, ry⟩ := a2 _ _ (show M2 a = some (.lst ds) from c2)
        exact ⟨ys, SqL.of hy, by rw [ry.length]; exact Nat.le_refl _⟩
      · obtain ⟨ys, hy, ry⟩ := a2 _ _ (show M2 a = some (.lst ds) from c2)
        have hi' : i < ys.length := by rw [← ry.length]; exact hi
        exact ⟨ys, ys[i], SqL.of hy, by simp [hi']⟩
      · rintro i H2 M2 v H3 hi g2 a2 c2 ⟨rfl, hy⟩
        have hi : i < ds.length := hi
        obtain ⟨ys, hys, ry⟩ := a2 _ _ (show M2 a = some (.lst ds) from c2)
        obtain ⟨x, e1, e2⟩ := ry.get (show ds[i]? = some ds[i] by simp [hi])
        have := hy ys (SqL.of hys)
        rw [e1] at this; cases this
        exact ⟨.refl, a2, _, by simp [hi], e2⟩
    | _ => exact sq.elim⟩
/-- for target in source -/
def tForD (wd : TID) (g : TGD) (tb : TSD) : TSD := fun B δ M => wd δ M fun I M1 => ∃ W : Nat → DS → MH → Prop, W 0 δ M1 ∧ (∀ i δ M, i ≤ I.n → W i δ M → I.C M) ∧
  (∀ i d δ M, i < I.n → I.item i = some d → W i δ M → g d δ M fun δ2 M2 => tb { B with nx := W (i + 1), ct := W (i + 1), bk := B.nx } δ2 M2) ∧ ∀ δ M, W I.n δ M → B.nx δ M
theorem ds_for {iter : Expr} {body : List Stmt} {wd : TID} {g : TGD} {tb : TSD} {pos : Pos} (hp : PassesOwn (model X.prog X.w) X.A X.env X.xe) (hc : X.calm = true) (hi : DI X tg iter wd) (hG : DG X tg g) (hb : DSs X body tb)
    (hf : ∀ x, foldedSetIterable iter X.env x = pure x := by intro _; rfl) : DSt X (.For tg iter body [] pos) (tForD wd g tb) :=
  ps_imp (ps_for hp hc hi hG hb hf) fun E σ H ⟨δ, M, hs, a, B, ok, q⟩ => ⟨δ, M, _, hs, a, q, fun I M1 H1 J g1 a1 ⟨W, w0, hC, turn, done⟩ io => by
    refine ⟨fun i m σ H2 => m = I.n - i ∧ i ≤ I.n ∧ Grow X.K H1 H2 ∧ ∃ δ M, Slots X.K H2 δ σ ∧ Abs X.K H2 M ∧ W i δ M, ⟨I.n, by simp, Nat.zero_le _, .refl, δ, M1, hs.mono g1, a1, w0⟩, ?_⟩
    rintro i m σ H2 ⟨rfl, hi, g2, δ2, M2, s2, a2, w2⟩
    by_cases hlt : i < I.n
    · refine .inr ⟨io.go i H2 M2 hlt g2 a2 (hC _ _ _ hi w2), fun σ' H3 => Grow X.K H1 H3 ∧ ∃ δ M, Slots X.K H3 δ σ' ∧ Abs X.K H3 M ∧ W (i + 1) δ M, fun σ' H3 z => ⟨I.n - (i + 1), by omega, rfl, hlt, z⟩, fun x H3 y => ?_⟩
      obtain ⟨g3, a3, d, ed, rd⟩ := io.yld i H2 M2 x H3 hlt g2 a2 (hC _ _ _ hi w2) y
      refine ⟨d, δ2, M2, _, rd, s2.mono g3, a3, turn i d δ2 M2 hlt ed w2, fun δ4 M4 σ4 H4 g4 s4 a4 q4 => ⟨δ4, M4, s4, a4, _, ?_, q4⟩⟩
      have G : Grow X.K H1 H4 := (g2.trans g3).trans g4
      exact ⟨fun δ' M' σ' H' g' s' a' w' => ⟨G.trans g', δ', M', s', a', w'⟩, fun d M v H' g' => ok.rt d M v H' ((g1.trans G).trans g'), fun δ' M' σ' H' g' s' a' q' => ok.nx _ _ _ _ ((g1.trans G).trans g') s' a' q', fun δ' M' σ' H' g' s' a' w' => ⟨G.trans g', δ', M', s', a', w'⟩⟩
    · obtain rfl : i = I.n := by omega
      exact .inl ⟨io.stop H2 M2 g2 a2 (hC _ _ _ hi w2), ok.nx _ _ _ _ (g1.trans g2) s2 a2 (done δ2 M2 w2)⟩⟩
/-- x += e, x -= e, ints -/
def tAugD (i : Nat) (te : TD) (f : Int → Int → Int) : TSD := fun B δ M => ∃ k, δ[i]? = some (some (.int k)) ∧ te δ M fun y M1 => ∃ j, y = .int j ∧ B.nx (δ.set i (some (.int (f k j)))) M1
/-- what is made on the way is forgotten -/
def tForgetD (t : TD) : TD := fun δ M Q => t δ M fun d M1 => ∃ M2, Sub M2 M1 ∧ Q d M2
end
end SD

set_option Elab.async false
set_option linter.all false
set_option maxRecDepth 100000
namespace SD
/-! ### halves -/
def hv (n : Nat) : Nat := if n = 0 then 0 else n.log2 + 1
end SD
namespace Ma
open SD
theorem divInt_pos {a b : Int} (h : 0 < b) : 0 < Rat.divInt a b ↔ 0 < a := by
  have h1 := Rat.divInt_nonneg_iff_of_pos_right (a := -a) h
  rw [← Rat.neg_divInt] at h1
  have : ¬ (0 ≤ -Rat.divInt a b) ↔ 0 < Rat.divInt a b := by
    constructor <;> intro z <;> grind
  rw [← this, h1]
  omega
end Ma

set_option Elab.async false
set_option linter.all false
set_option maxRecDepth 100000
/-! Comprehensions: [elt for target in source if test], the target a name or a tuple of names. -/
namespace SD
open PySem PySem.Spec PyProof.Rows L2
abbrev NoE : Value → Shared → Prop := fun _ _ => False
/-- the names of a comprehension's block: its own, then those at the places js of the body's -/
def cN (X : Cx) (xs : List Str) (js : List Nat) : List Str := xs ++ js.map fun j => (X.N[j]?).getD ("" : Str)
def cσ (os : L2.St) (js : List Nat) (σ : L2.St) : L2.St := os ++ js.map fun j => (σ[j]?).join
/-! the block's own cells (names that a comprehension within reads) lie ahead of those of the closure -/
theorem cells_app : ∀ (names : List (Str × NameKind)) (n : Nat) (acc : List (Str × Addr)), cellsFrom n names acc = cellsFrom n names [] ++ acc
  | [], _, _ => rfl
  | (x, k) :: r, n, acc => by
    unfold cellsFrom
    split
    · rw [cells_app r (n + 1) ((x, n) :: acc), cells_app r (n + 1) [(x, n)], List.append_assoc]; rfl
    · exact cells_app r n acc
theorem mem_cells : ∀ (names : List (Str × NameKind)) (n : Nat) {y : Str} {c : Addr}, (y, c) ∈ cellsFrom n names [] → (y, NameKind.cell) ∈ names
  | [], _, _, _, h => by cases h
  | (x, k) :: r, n, y, c, h => by
    unfold cellsFrom at h
    split at h
    · rename_i hk
      rw [cells_app] at h
      rcases List.mem_append.mp h with h | h
      · exact List.mem_cons_of_mem _ (mem_cells r _ h)
      · have e : (y, c) = (x, n) := by simpa using h
        cases e
        obtain rfl : k = .cell := by simpa using hk
        exact List.mem_cons_self
    · exact List.mem_cons_of_mem _ (mem_cells r _ h)
theorem look_app {l r : List (Str × Addr)} {y : Str} {c : Addr} (h : (l ++ r).lookup y = some c) : l.lookup y = some c ∨ (l.lookup y = none ∧ r.lookup y = some c) := by
  rw [List.lookup_append] at h
  cases e : l.lookup y with
  | some c' => rw [e] at h; exact .inl h
  | none => rw [e] at h; exact .inr ⟨rfl, h⟩
theorem mem_clOf {env : Env} {y : Str} {c : Addr} {names : List (Str × NameKind)} (h : (clOf names env).lookup y = some c) : (y, NameKind.free) ∈ names := by
  have hm := PySem.mem_of_lookup h
  unfold clOf at hm
  obtain ⟨z, hz, e⟩ := List.mem_map.mp hm
  rw [List.mem_reverse, List.mem_filter] at hz
  obtain ⟨n, k⟩ := z
  obtain rfl : k = .free := by simpa using hz.2
  cases e
  exact hz.1
theorem relabel_keep {env : Env} {k : NameKind} (hk : k ≠ .free) : ∀ {names : List (Str × NameKind)} {x : Str}, names.lookup x = some k →
    (names.map fun (n, k) => if (k == NameKind.free && env.scope.kind == .function && env.kindOf n == some .cell) then (n, NameKind.cell) else (n, k)).lookup x = some k
  | [], _, h => by simp at h
  | (n, q) :: r, x, h => by
    have ih := @relabel_keep env k hk r x
    rw [List.map_cons]
    dsimp only
    by_cases hx : (x == n) = true
    · rw [List.lookup_cons, hx] at h
      cases h
      rw [if_neg (by intro z; rw [Bool.and_eq_true, Bool.and_eq_true] at z; exact hk (by simpa using z.1.1)), List.lookup_cons, hx]
    · have hx' : (x == n) = false := by simpa using hx
      rw [List.lookup_cons, hx'] at h
      split <;> (rw [List.lookup_cons, hx']; exact ih h)
theorem new_env {M : Model} {A : Around} {E : Value → Shared → Prop} {s : Shared} {scope : Scope} {globals : Addr} {cl : List (Str × Addr)} {qual : Str} {env : Env} {Q : Env → Shared → Prop}
    (h : Q { scope := scope, locals := s.heap.objs.size, globals := globals, cells := cellsFrom (s.heap.objs.size + 1) scope.names cl, qual := qual, func := none, code := env.code, frame := env.frame, builtins := env.builtins } { s with heap := pushCells (s.heap.push { cls := .type "dict", data := .dict #[] }) scope.names }) :
    wpAny M A (newFunctionEnv scope globals cl [] qual none .none (some env)) Q E s := by
  simp only [newFunctionEnv, Option.isSome_some, if_true]
  refine wpAny_bind (wpAny_alloc ?_)
  refine wpAny_bind (wpAny_layCells _ (fun name kind cells => by cases hkc : kind == NameKind.cell <;> simp [hkc]) _ _ _ _ ?_)
  rw [show ({ s with heap := s.heap.push { cls := .type "dict", data := .dict #[] } } : Shared).heap.objs.size = s.heap.objs.size + 1 from Heap.size_push ..]
  refine wpAny_bind ?_
  rw [List.forIn_nil]
  exact wpAny_pure (wpAny_pure h)
/-- the block's environment -/
def cEnv (scope : Scope) (C : Addr) (env : Env) : Env :=
  { scope := relabel scope env, locals := C, globals := env.globals, cells := cellsFrom (C + 1) scope.names (clOf scope.names env), qual := env.qual, func := none, code := env.code, frame := env.frame, builtins := env.builtins }
/-- the context of a comprehension's block -/
def cxC (X : Cx) (xs : List Str) (js : List Nat) (scope : Scope) (C : Addr) (s : Shared) (H : Hp) (fp : List Addr) : Cx where
  prog := X.prog
  w := X.w
  K := X.K
  mg := X.mg
  base := X.base
  A := X.A
  N := cN X xs js
  s₀ := s
  H₀ := H
  env := cEnv scope C X.env
  outer := X.stack
  stack := X.stack
  ex := fp
  fn := fun y => xs.contains y
  calm := X.calm
  pn := []
  xe := fun _ _ => False
/-- what the tables must say -/
structure CScope (X : Cx) (xs : List Str) (js : List Nat) (scope : Scope) : Prop where
  kind : scope.kind = .function
  cell : ∀ y ∈ scope.names, y.2 = .cell → y.1 ∈ xs
  free' : ∀ y ∈ scope.names, y.2 = .free → y.1 ∉ xs
  names : ∀ y ∈ scope.names, y.2 = .local → scope.names.lookup y.1 = some .local
  own : ∀ x ∈ xs, scope.names.lookup x = some .local ∨ scope.names.lookup x = some .cell
  out : ∀ y ∈ scope.names, y.2 = .free → X.env.kindOf y.1 = some .cell ∨ X.env.kindOf y.1 = some .free
  nd : (cN X xs js).Nodup
  js : ∀ j ∈ js, scope.names.lookup ((X.N[j]?).getD ("" : Str)) ≠ some .local
section
variable {X : Cx} {xs : List Str} {js : List Nat} {scope : Scope} {pins : List (Addr × Obj)} {σ : L2.St} {H : Hp} {s : Shared} {fp : List Addr}
theorem CScope.cells (c : CScope X xs js scope) (ok : X.Ok) : ∀ y ∈ scope.names, y.2 = .free → ∃ a, X.env.cells.lookup y.1 = some a := fun y hy hf => ok.has _ (c.out y hy hf)
theorem CScope.clos (c : CScope X xs js scope) (ok : X.Ok) : closureFor scope X.env = pure (clOf scope.names X.env) := closure_eq (c.cells ok)
theorem CScope.kindOf (c : CScope X xs js scope) (ok : X.Ok) {C : Addr} {y : Str} {k : NameKind} (e : (cEnv scope C X.env).kindOf y = some k) : scope.names.lookup y = some k ∨ (k = .cell ∧ scope.names.lookup y = some .free) :=
  lookup_relabel ok.kind e
/-- the block begins -/
theorem inv_comp (c : CScope X xs js scope) (I : Inv X pins σ H s) (hf : ∀ b ∈ fp, FpOk X pins H b) (hfp : ∀ b ∈ fp, b < s.heap.objs.size) {h' : Heap} (eh : h' = pushCells (s.heap.push { cls := .type "dict", data := .dict #[] }) scope.names) (k : ∀ b o, s.heap.get? b = some o → h'.get? b = some o) :
    Inv (cxC X xs js scope s.heap.objs.size s H fp) [] (cσ (List.replicate xs.length none) js σ) H { s with heap := h' } := by
  have ok := I.ok
  have hn : h'.Ns s.heap.objs.size fun _ => none := by rw [eh]; exact (Heap.Ns.new s.heap (.type "dict")).keeps (pushCells_keeps _ _)
  have cok : CellsOk h' (s.heap.objs.size + 1) (cellsFrom (s.heap.objs.size + 1) scope.names []) := by
    have := cellsFrom_ok scope.names (s.heap.push { cls := .type "dict", data := .dict #[] }) (s.heap.objs.size + 1) [] ⟨fun _ _ hm => (nomatch hm), List.Pairwise.nil⟩ (by rw [Heap.size_push]; exact Nat.le_refl _)
    rw [Heap.size_push] at this
    rw [eh]; exact this
  have cl : ∀ {y : Str} {a : Addr}, (clOf scope.names X.env).lookup y = some a → X.env.cells.lookup y = some a := fun e => lookup_clOf (c.cells ok) e
  have olt : ∀ {y : Str} {a : Addr}, X.env.cells.lookup y = some a → a < s.heap.objs.size := fun e => by obtain ⟨v, z⟩ := I.cell _ _ e; exact z.lt
  -- a cell of the block: new, or the closure's
  have both : ∀ {y : Str} {a : Addr}, (cEnv scope s.heap.objs.size X.env).cells.lookup y = some a → ((y, a) ∈ cellsFrom (s.heap.objs.size + 1) scope.names [] ∧ s.heap.objs.size < a) ∨ X.env.cells.lookup y = some a := fun {y a} e => by
    have e : (cellsFrom (s.heap.objs.size + 1) scope.names (clOf scope.names X.env)).lookup y = some a := e
    rw [cells_app] at e
    rcases look_app e with z | ⟨_, z⟩
    · exact .inl ⟨PySem.mem_of_lookup z, (cok.empty _ _ (PySem.mem_of_lookup z)).2⟩
    · exact .inr (cl z)
  have free : ∀ {y : Str}, (cEnv scope s.heap.objs.size X.env).kindOf y = some .cell ∨ (cEnv scope s.heap.objs.size X.env).kindOf y = some .free → scope.names.lookup y = some .cell ∨ scope.names.lookup y = some .free := fun {y} e => by
    rcases e with e | e
    · rcases c.kindOf ok e with z | ⟨_, z⟩
      · exact .inl z
      · exact .inr z
    · rcases c.kindOf ok e with z | ⟨z, _⟩
      · exact .inr z
      · cases z
  refine ⟨⟨ok.mod, c.kind, ok.glob, ok.blt, Nat.le_refl _, fun y z a h1 h2 => ?_, fun y hy => ?_, fun y a h e => ?_, ok.hd, ok.frames, .inl rfl, fun b hb => ⟨Nat.ne_of_lt (hfp b hb), fun y a e => ?_⟩,
    I.bs, Nat.le_trans ok.bsz I.sz, fun b o e hb => ?_, fun b hb => ?_, I.stack, I.stkFree⟩, rfl, I.bare, Un.kept k, ?_, fun y a e => ?_, I.hok.fresh (Nat.le_refl _), fun y a e => ?_, fun p hp => absurd (show p ∈ ([] : List (Addr × Obj)) from hp) (by simp), I.hok.kept k, ?_⟩
  · rcases both h1 with ⟨m1, l1⟩ | o1 <;> rcases both h2 with ⟨m2, l2⟩ | o2
    · exact name_of_addr cok.apart m1 m2
    · exact absurd (olt o2) (Nat.not_lt.mpr (Nat.le_of_lt l1))
    · exact absurd (olt o1) (Nat.not_lt.mpr (Nat.le_of_lt l2))
    · exact ok.inj y z a o1 o2
  · show ∃ c, (cellsFrom (s.heap.objs.size + 1) scope.names (clOf scope.names X.env)).lookup y = some c
    rw [cells_app, List.lookup_append]
    rcases free hy with z | z
    · obtain ⟨a, e⟩ := cell_has (n := s.heap.objs.size + 1) z
      exact ⟨a, by rw [e]; rfl⟩
    · obtain ⟨a, e⟩ := has_clOf (env := X.env) (PySem.mem_of_lookup z)
      cases q : (cellsFrom (s.heap.objs.size + 1) scope.names []).lookup y with
      | none => exact ⟨a, by rw [e]; rfl⟩
      | some a' => exact ⟨a', rfl⟩
  · have hx : y ∈ xs := by simpa [cxC] using h
    have e : (cellsFrom (s.heap.objs.size + 1) scope.names (clOf scope.names X.env)).lookup y = some a := e
    rw [cells_app] at e
    rcases look_app e with z | ⟨_, z⟩
    · exact Nat.le_of_lt (cok.empty _ _ (PySem.mem_of_lookup z)).2
    · exact absurd hx (c.free' _ (mem_clOf z) rfl)
  · rcases both e with ⟨_, l⟩ | o
    · exact Nat.ne_of_gt (Nat.lt_trans (hfp b hb) l)
    · exact (hf b hb).2.2.2.2.1 y a o
  · rcases (hf b hb).2.2.2.1 with z | z
    · exact ok.noex b o e z
    · exact absurd (Nat.lt_of_lt_of_le (Nat.lt_of_lt_of_le (Heap.lt_size e) ok.bsz) z) (Nat.lt_irrefl _)
  · intro z
    rcases List.mem_cons.mp (I.stkSub b z) with y | y
    · exact (hf b hb).2.1 y
    · exact (hf b hb).2.2.1 y
  · refine ⟨_, hn, fun i y v h1 h2 h3 => ?_⟩
    have h1 : (xs ++ js.map fun j => (X.N[j]?).getD ("" : Str))[i]? = some y := h1
    have h2 : (List.replicate xs.length (none : Option V) ++ js.map fun j => (σ[j]?).join)[i]? = some (some v) := h2
    by_cases hi : i < xs.length
    · rw [List.getElem?_append_left (by simpa using hi), List.getElem?_replicate, if_pos hi] at h2
      cases h2
    · have hout : y ∉ xs := fun hy => by
        rw [List.getElem?_append_right (by omega)] at h1
        have nd := c.nd
        unfold cN at nd
        exact (List.nodup_append.mp nd).2.2 y hy y (List.mem_of_getElem? h1) rfl
      rw [List.getElem?_append_right (by omega)] at h1
      rw [List.getElem?_append_right (by simp; omega)] at h2
      rw [List.length_replicate] at h2
      rw [List.getElem?_map] at h1 h2
      cases ej : js[i - xs.length]? with
      | none => rw [ej] at h1; cases h1
      | some j =>
        rw [ej] at h1 h2
        have e1 : (X.N[j]?).getD ("" : Str) = y := Option.some.inj h1
        have e2 : (σ[j]?).join = some v := Option.some.inj h2
        have e3 : σ[j]? = some (some v) := by
          cases q : σ[j]? with
          | none => rw [q] at e2; cases e2
          | some o => rw [q] at e2; exact congrArg some e2
        have hj : j < X.N.length := by rw [← I.len]; exact (List.getElem?_eq_some_iff.mp e3).1
        have e4 : X.N[j]? = some y := by
          rw [List.getElem?_eq_getElem hj] at e1 ⊢
          exact congrArg some e1
        have nl : scope.names.lookup y ≠ some .local := by
          have := c.js j (List.mem_of_getElem? ej)
          rw [e1] at this
          exact this
        have kc : (cEnv scope s.heap.objs.size X.env).kindOf y = some .cell ∨ (cEnv scope s.heap.objs.size X.env).kindOf y = some .free := by
          rcases h3 with z | z | z
          · rcases c.kindOf (C := s.heap.objs.size) ok z with q | ⟨q, _⟩
            · exact absurd q nl
            · cases q
          · exact .inl z
          · exact .inr z
        have hm : (y, NameKind.free) ∈ scope.names := by
          rcases free kc with z | z
          · exact absurd (c.cell _ (PySem.mem_of_lookup z) rfl) hout
          · exact PySem.mem_of_lookup z
        obtain ⟨a, ha⟩ := has_clOf (env := X.env) hm
        have ha2 : (cEnv scope s.heap.objs.size X.env).cells.lookup y = some a := by
          show (cellsFrom (s.heap.objs.size + 1) scope.names (clOf scope.names X.env)).lookup y = some a
          rw [cells_app, List.lookup_append]
          cases q : (cellsFrom (s.heap.objs.size + 1) scope.names []).lookup y with
          | none => rw [ha]; rfl
          | some a' => exact absurd (c.cell _ (mem_cells _ _ (PySem.mem_of_lookup q)) rfl) hout
        have hvis : Vis X.env.scope y := by
          rcases c.out _ hm rfl with z | z
          · exact .inr (.inl z)
          · exact .inr (.inr z)
        obtain ⟨m, _, hl⟩ := I.loc
        obtain ⟨u, r, l⟩ := hl j y v e4 e3 hvis
        refine ⟨u, r, ?_⟩
        rcases l with ⟨z, _⟩ | ⟨_, a', ha', o, ho, hd⟩
        · rcases c.out _ hm rfl with q | q
          · have z' : X.env.kindOf y = some .local := z
            rw [q] at z'; cases z'
          · have z' : X.env.kindOf y = some .local := z
            rw [q] at z'; cases z'
        · refine .inr ⟨kc, a', ?_, o, k _ _ ho, hd⟩
          have := cl ha
          rw [ha'] at this
          cases this
          exact ha2
  · rcases both e with ⟨m, _⟩ | o
    · exact ⟨_, (cok.empty _ _ m).1⟩
    · obtain ⟨v, o, ho, hd⟩ := I.cell y a o
      exact ⟨v, o, k _ _ ho, hd⟩
  · rcases both e with ⟨_, l⟩ | o
    · exact I.hok.fresh (Nat.le_of_lt l)
    · exact I.freeC y a o
  · show (cσ (List.replicate xs.length none) js σ).length = (cN X xs js).length
    unfold cσ cN
    simp
end
/-- the tests of a comprehension -/
def PTs (X : Cx) (ifs : List Expr) (t : TT) : Prop := ∀ (pins : List (Addr × Obj)) (s : Shared) (σ : L2.St) (H : Hp) (Q : Bool → Hp → Prop), Inv X pins σ H s → t σ H Q →
  wpAny (model X.prog X.w) X.A (forIn ifs true fun c r => if r = true then do let ok ← isTrue c X.env (eval c X.env); pure (ForInStep.yield ok) else pure (ForInStep.yield r)) (TP X pins σ Q) X.xe s
theorem pts_nil {X : Cx} : PTs X [] (fun _ H Q => Q true H) := fun pins s σ H Q I q => wpAny_tests_nil ⟨H, I, q⟩
theorem pts_one {X : Cx} {c : Expr} {t : TT} (h : PT X c t) : PTs X [c] t := fun pins s σ H Q I q => wpAny_tests_one (h pins s σ H Q I q)
theorem comp_loop {prog : Program} {w : World} {A : Around} {R : Result → Shared → Prop} {s : Shared} {elt target iter : Expr} {ifs : List Expr} {scope : Scope} {pos : Pos} {it acc : Value} {env : Env} (J : Nat → Shared → Prop)
    (step : ∀ n s, J n s → wpAny (model prog w) A (pyNext it) (fun r s1 => match r with
      | none => R (.ok .next) s1
      | some v => wpAny (model prog w) A (letOwnedTupleGo target it v) (fun _ s2 => wpAny (model prog w) A (assign target env v) (fun _ s3 =>
          wpAny (model prog w) A (forIn ifs true fun c r => if r = true then do let ok ← isTrue c env (eval c env); pure (ForInStep.yield ok) else pure (ForInStep.yield r)) (fun ok s4 =>
            if ok = true then wpAny (model prog w) A (eval elt env) (fun x s5 => wpAny (model prog w) A (call (.builtin "list.append") [acc, x]) (fun _ s6 => ∃ m, m < n ∧ J m s6) NoE s5) NoE s4
            else ∃ m, m < n ∧ J m s4) NoE s3) NoE s2) NoE s1) NoE s)
    (n : Nat) (h : J n s) : codeAny (model prog w) A (.compLoop (.ListComp elt [⟨target, iter, ifs, 0⟩] scope pos) 0 it acc env) R s := by
  have no : ∀ {E : Value → Shared → Prop} e s', NoE e s' → E e s' := fun _ _ z => z.elim
  refine codeAny_loop rfl J (fun n s hJ => ?_) n h
  show wpAny _ _ (Sem.onRaise (compTurn (.ListComp elt [⟨target, iter, ifs, 0⟩] scope pos) 0 it acc env) (fun x => do noteFrame x env; theTreesLotGoes x)) _ _ s
  refine wpAny_noted ?_
  rw [compTurn_list]
  refine wpAny_bind (wpAny_standAt (wpAny_bind (wpAny_mono (step n s hJ) (fun r s1 h1 => ?_) no)))
  cases r with
  | none => exact wpAny_pure h1
  | some v =>
    refine wpAny_bind (wpAny_mono h1 (fun _ s2 h2 => wpAny_bind (wpAny_mono h2 (fun _ s3 h3 => wpAny_bind (wpAny_mono h3 (fun ok s4 h4 => ?_) no)) no)) no)
    cases ok with
    | false => exact wpAny_pure ⟨rfl, h4⟩
    | true => exact wpAny_bind (wpAny_bind (wpAny_mono h4 (fun x s5 h5 => wpAny_bind (wpAny_mono h5 (fun _ s6 h6 => wpAny_pure (wpAny_pure ⟨rfl, h6⟩)) no)) no))
/-- the target's own slots behind the store -/
abbrev Own := V → Hp → L2.St → Prop
structure TgOk (n : Nat) (g : TG) (own : Own) : Prop where
  len : ∀ y H os, own y H os → os.length = n
  run : ∀ y H os0 tail os (Q : L2.St → Hp → Prop), os0.length = n → own y H os → Q (os ++ tail) H → g y (os0 ++ tail) H Q
/-- [elt for target in iter if test] -/
def wComp (js : List Nat) (own : Own) (tc : TT) (te : TE) (σ : L2.St) (J : It) (H1 : Hp) (Q : VK) : Prop := ∀ D, H1 D = none → ∃ W : Nat → Nat → Hp → Prop, (∃ m, W 0 m (upd H1 D (.lst []))) ∧ ∀ i m H, W i m H →
  (J.stop i H ∧ Q (.ref D) H) ∨ (J.go i H ∧ ∀ y H', J.yld i H y H' → ∃ os, own y H' os ∧ tc (cσ os js σ) H' fun b H2 => if b = true then
    te (cσ os js σ) H2 fun v H3 => ∃ xs, H3 D = some (.lst xs) ∧ xs.length < sizeLine ∧ ∃ m', m' < m ∧ W (i + 1) m' (upd H3 D (.lst (xs ++ [v]))) else ∃ m', m' < m ∧ W (i + 1) m' H2)
def tCompL (js : List Nat) (own : Own) (wi : TI) (tc : TT) (te : TE) : TE := fun σ H Q => wi σ H fun J H1 => wComp js own tc te σ J H1 Q
section
variable {X : Cx} {xs : List Str} {tg : Expr} {pos : Pos} {js : List Nat} {scope : Scope} {elt iter : Expr} {ifs : List Expr} {te : TE} {tc : TT} {g : TG} {own : Own} {wi : TI} {pins : List (Addr × Obj)} {σ : L2.St} {H : Hp} {s : Shared} {fp : List Addr} {it : Addr} {tn : Nat → Heap → Prop} {J : It}
theorem comp_run (c : CScope X xs js scope) (hc : X.calm = true) (hG : TgOk xs.length g own) (hg : ∀ C s H fp, PG (cxC X xs js scope C s H fp) tg g) (ht : ∀ C s H fp, PTs (cxC X xs js scope C s H fp) ifs tc) (he : ∀ C s H fp, PE (cxC X xs js scope C s H fp) elt te)
    {R : Value → Addr → Result → Shared → Prop} {E : Value → Shared → Prop} {Q : VK}
    (I : Inv X pins σ H s) (T : Turn X.prog X.w X.K tg J fp it tn) (st : tn 0 s.heap) (hf : ∀ b ∈ fp, FpOk X pins H b) (wc : wComp js own tc te σ J H Q)
    (hR : ∀ D C H' s', Inv X pins σ H' s' → FpOk X pins H' C → (∃ m, s'.heap.Ns C m) → Q (.ref D) H' → R (.ref D) C (.ok .next) s') :
    wpAny (model X.prog X.w) X.A (newList []) (fun acc s₃ => wpAny (model X.prog X.w) X.A (newFunctionEnv scope X.env.globals (clOf scope.names X.env) [] X.env.qual none .none (some X.env)) (fun cenv s₄ =>
      codeAny (model X.prog X.w) X.A (.compStart (.ListComp elt [⟨tg, iter, ifs, 0⟩] scope pos) 0 (.ref it) acc { cenv with scope := relabel scope X.env }) (R acc cenv.locals) s₄) E s₃) E s := by
  have hfp : ∀ b ∈ fp, b < s.heap.objs.size := fun b hb => let ⟨o, e, _⟩ := T.obj 0 _ st b hb; Heap.lt_size e
  have hD : H s.heap.objs.size = none := I.hok.fresh (Nat.le_refl _)
  refine wpAny_newObj_type (new_env ?_)
  generalize hh : s.heap.push { cls := .type "list", dict := none, data := .seq ([] : List Value).toArray } = h3
  generalize hh1 : pushCells (({ s with heap := h3 } : Shared).heap.push { cls := .type "dict", data := .dict #[] }) scope.names = h₁
  have k3 : ∀ b o, s.heap.get? b = some o → h3.get? b = some o := fun b o e => by rw [← hh]; exact Heap.get?_push_of_some _ e
  have I3 : Inv X pins σ (upd H s.heap.objs.size (.lst [])) { s with heap := h3 } := by
    refine I.laid (t' := s.toks) k3 (Nat.le_refl _) ?_
    refine ⟨Nat.zero_le _, [], 0, .nil, ?_⟩
    rw [← hh]
    exact Heap.get?_push_size _ rfl
  have hf3 : ∀ b ∈ fp, FpOk X pins (upd H s.heap.objs.size (.lst [])) b := fun b hb => ⟨by rw [upd_ne (Nat.ne_of_lt (hfp b hb))]; exact (hf b hb).1, (hf b hb).2⟩
  have hsz : h3.objs.size = s.heap.objs.size + 1 := by rw [← hh, Heap.size_push]
  have hfp3 : ∀ b ∈ fp, b < h3.objs.size := fun b hb => by rw [hsz]; exact Nat.lt_succ_of_lt (hfp b hb)
  have k4 : ∀ b o, h3.get? b = some o → h₁.get? b = some o := fun b o e => by rw [← hh1]; exact pushCells_keeps _ _ b o (Heap.get?_push_of_some _ e)
  have I4 := inv_comp c I3 hf3 hfp3 (h' := h₁) hh1.symm k4
  obtain ⟨W, ⟨m0, w0⟩, turn⟩ := wc _ hD
  have st4 : tn 0 h₁ := T.keep 0 _ _ st fun b hb o e => k4 b o (k3 b o e)
  generalize hX : cxC X xs js scope h3.objs.size { s with heap := h3 } (upd H s.heap.objs.size (.lst [])) fp = X' at I4
  have fok : ∀ {pins' : List (Addr × Obj)} {H' : Hp} {σ' : L2.St} {s' : Shared}, Inv X' [] σ' H' s' → (∀ b ∈ fp, H' b = none) → ∀ b ∈ fp, FpOk X' [] H' b := fun {pins' H' σ' s'} J' hn b hb => by
    subst hX
    obtain ⟨a1, a2⟩ := J'.ok.exf b hb
    exact ⟨hn b hb, a1, J'.ok.exfs b hb, .inl hb, a2, fun p hp => absurd (show p ∈ ([] : List (Addr × Obj)) from hp) (by simp)⟩
  have loop : codeAny (model X.prog X.w) X.A (.compLoop (.ListComp elt [⟨tg, iter, ifs, 0⟩] scope pos) 0 (.ref it) (.ref s.heap.objs.size) (cEnv scope h3.objs.size X.env)) (R (.ref s.heap.objs.size) h3.objs.size)
      { s with heap := h₁ } := by
    refine comp_loop (fun n s' => ∃ i os H', os.length = xs.length ∧ Inv X' [] (cσ os js σ) H' s' ∧ tn i s'.heap ∧ (∀ b ∈ fp, H' b = none) ∧ W i n H') ?_ m0 ⟨0, _, _, by simp, I4, st4, fun b hb => (hf3 b hb).1, w0⟩
    rintro n s5 ⟨i, os, H5, hl5, I5, st5, fr5, w5⟩
    rcases turn i n H5 w5 with ⟨stop, q⟩ | ⟨go, step⟩
    · subst hX
      refine wpAny_mono (T.done (cxC X xs js scope h3.objs.size { s with heap := h3 } (upd H s.heap.objs.size (.lst [])) fp) rfl rfl rfl hc i [] s5 _ H5 NoE I5 (fok (pins' := []) I5 fr5) st5 stop) (fun r s6 ⟨hr, I6⟩ => ?_) fun _ _ z => z
      subst hr
      refine hR _ _ H5 s6 (I3.call' I6.os I6.base I6.hok I6.bare fun b hb => ⟨(hf3 b hb).2.2.2.1, (hf3 b hb).2.1, (hf3 b hb).2.2.2.2.1, (hf3 b hb).2.2.2.2.2⟩) (I3.fpOk (Nat.le_refl _) I6.free) (let ⟨m, hm, _⟩ := I6.loc; ⟨m, hm⟩) q
    · subst hX
      refine wpAny_mono (T.item (cxC X xs js scope h3.objs.size { s with heap := h3 } (upd H s.heap.objs.size (.lst [])) fp) rfl rfl rfl hc i [] s5 _ H5 NoE I5 (fok (pins' := []) I5 fr5) st5 go) (fun r s6 ⟨u, hr, h6⟩ => ?_) fun _ _ z => z
      subst hr
      refine wpAny_mono h6 (fun _ s7 ⟨y, H7, I7, r7, y7, st7, fr7⟩ => ?_) fun _ _ z => z
      have I7' := I7.pinned (fok (pins' := []) I7 fr7) (T.obj _ _ st7)
      obtain ⟨os8, ow8, q8⟩ := step y H7 y7
      have l8 := hG.len _ _ _ ow8
      refine wpAny_mono (hg _ _ _ _ _ s7 _ H7 y u (fun σ' H' => σ' = cσ os8 js σ ∧ H' = H7) I7' r7 (hG.run y H7 os _ os8 _ hl5 ow8 ⟨rfl, rfl⟩)) (fun _ s8 ⟨σ8, H8, I8, e8, e8'⟩ => ?_) fun _ _ z => z
      subst e8 e8'
      refine wpAny_mono (ht _ _ _ _ _ s8 _ _ _ I8 q8) (fun ok s9 ⟨H9, I9, q9⟩ => ?_) fun _ _ z => z
      have back : ∀ {m' : Nat} {H10 : Hp} {s10 : Shared}, Inv (cxC X xs js scope h3.objs.size { s with heap := h3 } (upd H s.heap.objs.size (.lst [])) fp) ([] ++ pinsAt fp s7.heap) (cσ os8 js σ) H10 s10 → m' < n → W (i + 1) m' H10 →
          ∃ m, m < n ∧ ∃ i os H', os.length = xs.length ∧ Inv (cxC X xs js scope h3.objs.size { s with heap := h3 } (upd H s.heap.objs.size (.lst [])) fp) [] (cσ os js σ) H' s10 ∧ tn i s10.heap ∧ (∀ b ∈ fp, H' b = none) ∧ W i m H' := fun {m' H10 s10} I10 hm' w10 => by
        refine ⟨m', hm', i + 1, os8, H10, l8, I10.unpinned, T.keep _ _ _ st7 fun b hb o e => (I10.pin (b, o) (List.mem_append_right _ (List.mem_append_right _ (mem_pinsAt hb e)))).1, fun b hb => ?_, w10⟩
        obtain ⟨o', e, d⟩ := T.obj _ _ st7 b hb
        exact (I10.pin (b, o') (List.mem_append_right _ (List.mem_append_right _ (mem_pinsAt hb e)))).2.1
      cases ok with
      | false =>
        rw [if_neg Bool.false_ne_true] at q9 ⊢
        obtain ⟨m', hm', w9⟩ := q9
        exact back I9 hm' w9
      | true =>
        rw [if_pos rfl] at q9 ⊢
        refine wpAny_mono (he _ _ _ _ _ s9 _ _ _ I9 q9) (fun v s10 ⟨vv, H10, I10, r10, ys, hd10, hl10, q10⟩ => ?_) fun _ _ z => z
        refine wpAny_mono (mt_append (X := (cxC X xs js scope h3.objs.size { s with heap := h3 } (upd H s.heap.objs.size (.lst [])) fp)) _ s10 _ H10 (.ref s.heap.objs.size) [vv] (.ref s.heap.objs.size) [v] (fun _ H' => ∃ m', m' < n ∧ W (i + 1) m' H') I10 rfl (.cons r10 .nil) ⟨_, ys, vv, rfl, rfl, hd10, hl10, q10⟩) (fun _ s11 ⟨_, H11, I11, _, m', hm', w11⟩ => ?_) fun _ _ z => z
        exact back I11 hm' w11
  exact codeAny_compStart_list loop (T.self X.A 0 _ _ _ st4 loop)
/-- as a value -/
theorem pe_comp (c : CScope X xs js scope) (hc : X.calm = true) (hi : PI X tg iter wi) (hG : TgOk xs.length g own) (hg : ∀ C s H fp, PG (cxC X xs js scope C s H fp) tg g) (ht : ∀ C s H fp, PTs (cxC X xs js scope C s H fp) ifs tc) (he : ∀ C s H fp, PE (cxC X xs js scope C s H fp) elt te) (hs : ∀ x, foldedSetIterable iter X.env x = pure x := by intro _; rfl) :
    PE X (.ListComp elt [⟨tg, iter, ifs, 0⟩] scope pos) (tCompL js own wi tc te) := by
  intro pins s σ H Q I h
  rw [eval_ListComp]
  refine wpAny_comprehension_free (use := none) rfl hs (c.clos I.ok) c.kind c.names (thn (hi pins s σ H _ I h) fun v s1 h1 => thn h1 fun itv s2 ⟨it, fp, tn, J, H2, e, I2, T, st, f2, w⟩ => ?_)
  subst e
  refine comp_run (R := fun acc C => compPost (model X.prog X.w) X.A X.xe none (EP X pins σ Q) acc C) c hc hG hg ht he I2 T st f2 w fun D C H' s' I' fC ⟨m, hm⟩ q => ?_
  exact ⟨m, hm, fun h' hsb => ⟨.ref D, H', I'.turned (t' := s'.toks) (fun b o ne e => hsb.extBut b o ne e) fC.1 fC.2.1 fC.2.2.2.1 fC.2.2.2.2.1 fC.2.2.2.2.2, rfl, q⟩⟩
/-- name = [..] on one row: the store ahead of the block's names -/
theorem ps_comp {i : Nat} {y : Str} {py spos : Pos} (c : CScope X xs js scope) (hc : X.calm = true) (hN : X.N.Nodup) (hi : PI X tg iter wi) (hG : TgOk xs.length g own) (hg : ∀ C s H fp, PG (cxC X xs js scope C s H fp) tg g) (ht : ∀ C s H fp, PTs (cxC X xs js scope C s H fp) ifs tc) (he : ∀ C s H fp, PE (cxC X xs js scope C s H fp) elt te) (hy : X.N[i]? = some y) (hl : X.env.scope.names.lookup y = some .local)
    (hsw : swapsWith (.ListComp elt [⟨tg, iter, ifs, 0⟩] scope pos) (some (.Name y py)) spos.line X.env = pure true) (hs : ∀ x, foldedSetIterable iter X.env x = pure x := by intro _; rfl) :
    PS X (.Assign [.Name y py] (.ListComp elt [⟨tg, iter, ifs, 0⟩] scope pos) spos) (tAsg (tCompL js own wi tc te) (gName i)) := by
  intro pins s σ H B I h
  rw [exec_Assign_Name_used _ _ _ _ hsw]
  refine wpAny_bind (wpAny_standAt (wpAny_bind ?_))
  show wpAny _ X.A (do let _ ← comprehension (.ListComp elt [⟨tg, iter, ifs, 0⟩] scope pos) scope X.env _ (newList []) false (eval iter X.env) (some (assign (.Name y py) X.env))) _ _ s
  refine wpAny_bind (wpAny_mono (wpAny_comprehension_free (use := some (assign (.Name y py) X.env)) (Q := fun _ s' => SP X pins B .next s') rfl hs (c.clos I.ok) c.kind c.names
    (thn (hi pins s σ H _ I h) fun v s1 h1 => thn h1 fun itv s2 ⟨it, fp, tn, J, H2, e, I2, T, st, f2, w⟩ => ?_)) (fun _ s' hq => wpAny_pure (wpAny_pure hq)) fun _ _ e => e)
  subst e
  refine comp_run (R := fun acc C => compPost (model X.prog X.w) X.A X.xe (some (assign (.Name y py) X.env)) (fun _ s' => SP X pins B .next s') acc C) c hc hG hg ht he I2 T st f2 w fun D C H' s' I' fC ⟨m, hm⟩ q => ?_
  show wpAny _ X.A (assign (.Name y py) X.env (.ref D)) _ _ _
  refine wpAny_assign_Name (store_ok2 I' hN hy (.inl hl) (v := .ref D) rfl (fun s9 I9 ⟨a, sb, ha⟩ => ?_) (.inr hl))
  have hne : C ≠ a := by
    rcases ha with z | z
    · rw [z]; exact fC.2.1
    · exact fun e => fC.2.2.2.2.1 y a z e.symm
  refine ⟨m, hm.sameBut sb hne, fun h' hsb => ?_⟩
  exact ⟨_, H', I9.turned (t' := s9.toks) (fun b o ne e => hsb.extBut b o ne e) fC.1 fC.2.1 fC.2.2.2.1 fC.2.2.2.2.1 fC.2.2.2.2.2, q⟩
end
end SD

set_option Elab.async false
set_option linter.all false
set_option maxRecDepth 100000
namespace SD
open PySem PySem.Spec PyProof.Rows L2
inductive Tgt where
  | one | many (n : Nat)
def Tgt.len : Tgt → Nat
  | .one => 1
  | .many n => n
def ownV (K : PySem.W.Frag) : Tgt → Own
  | .one => fun y _ os => os = [some y]
  | .many n => fun y H os => ∃ a xs, y = .ref a ∧ SqT K H a xs ∧ xs.length = n ∧ os = xs.map some
theorem tg_one {K : PySem.W.Frag} : TgOk 1 (gName 0) (ownV K .one) := ⟨fun _ _ os h => by rw [h]; rfl, fun y H os0 tail os Q hl ho q => by
  match os0, hl with
  | [o], _ => rw [show os = [some y] from ho] at q; exact q⟩
theorem tg_two {K : PySem.W.Frag} : TgOk 2 (gTup K 2 (gCons (gName 0) (gCons (gName 1) gNil))) (ownV K (.many 2)) := ⟨fun _ _ os ⟨a, xs, _, _, hl, e⟩ => by rw [e]; simpa using hl, fun y H os0 tail os Q hl ⟨a, xs, e, hq, hx, ho⟩ q => by
  match os0, hl, xs, hx with
  | [o, o'], _, [u, v], hx => rw [ho] at q; exact ⟨a, _, e, hq, hx, u, _, rfl, v, _, rfl, rfl, q⟩⟩
def ownD : Tgt → D → DS → Prop
  | .one, d, os => os = [some d]
  | .many n, d, os => ∃ ds, d = .tup ds ∧ ds.length = n ∧ os = ds.map some
def cδ (os : DS) (js : List Nat) (δ : DS) : DS := os ++ js.map fun j => (δ[j]?).join
theorem slots_c {K : PySem.W.Frag} {H : Hp} {δ os : DS} {σ us : L2.St} {js : List Nat} (hs : Slots K H δ σ) (r : Slots K H os us) : Slots K H (cδ os js δ) (cσ us js σ) := by
  refine ⟨by simp [cδ, cσ, r.len], fun i e q => ?_⟩
  unfold cδ at q
  unfold cσ
  by_cases hi : i < os.length
  · rw [List.getElem?_append_left hi] at q
    rw [List.getElem?_append_left (by rw [← r.len]; exact hi)]
    exact r.at' i e q
  · rw [List.getElem?_append_right (by omega)] at q
    rw [List.getElem?_append_right (by rw [← r.len]; omega), ← r.len]
    rw [List.getElem?_map] at q ⊢
    cases ej : js[i - os.length]? with
    | none => rw [ej] at q; cases q
    | some j =>
      rw [ej] at q
      have e2 : (δ[j]?).join = some e := Option.some.inj q
      have e3 : δ[j]? = some (some e) := by
        cases z : δ[j]? with
        | none => rw [z] at e2; cases e2
        | some o => rw [z] at e2; exact congrArg some e2
      obtain ⟨v', e4, e5⟩ := hs.at' j e e3
      exact ⟨v', by rw [show (some j).map (fun j => (σ[j]?).join) = some ((σ[j]?).join) from rfl, e4]; rfl, e5⟩
theorem slots_all {K : PySem.W.Frag} {H : Hp} {ds : List D} {xs : List V} (r : Reps K H ds xs) : Slots K H (ds.map some) (xs.map some) := by
  refine ⟨by simp [r.length], fun i d e => ?_⟩
  rw [List.getElem?_map] at e ⊢
  cases q : ds[i]? with
  | none => rw [q] at e; cases e
  | some d' =>
    rw [q] at e; cases e
    obtain ⟨x, e1, e2⟩ := r.get q
    exact ⟨x, by rw [e1]; rfl, e2⟩
theorem own_lift {K : PySem.W.Frag} {H : Hp} {tk : Tgt} {d : D} {v : V} {os : DS} (r : Rep K H d v) (h : ownD tk d os) : ∃ us, ownV K tk v H us ∧ Slots K H os us := by
  cases tk with
  | one =>
    rw [show os = [some d] from h]
    exact ⟨[some v], rfl, slots_all (.cons r .nil)⟩
  | many n =>
    obtain ⟨ds, rfl, hl, rfl⟩ := h
    rw [Rep] at r
    obtain ⟨a, xs, rfl, hq, rs⟩ := r
    exact ⟨_, ⟨a, xs, rfl, hq, by rw [← rs.length]; exact hl, rfl⟩, slots_all rs⟩
def tTrueD : TTD := fun _ M Q => Q true M
/-- what holds between two turns: the items made so far lie in the store at p -/
def kComp (I : ItD) (tk : Tgt) (js : List Nat) (tc : TTD) (te : TD) (δ : DS) (M1 : MH) (Q : DK) : Prop := I.n ≤ 1000000 ∧ ∀ p, M1 p = none → ∃ W : Nat → List D → MH → Prop, W 0 [] (updM M1 p (.lst [])) ∧ (∀ i ys M, i ≤ I.n → W i ys M → I.C M) ∧
  (∀ i ys d M, i < I.n → I.item i = some d → W i ys M → ∃ os, ownD tk d os ∧ tc (cδ os js δ) M fun b M2 => if b = true then te (cδ os js δ) M2 fun e M' => ∃ M3, Sub M3 M' ∧ M3 p = some (.lst ys) ∧ W (i + 1) (ys ++ [e]) (updM M3 p (.lst (ys ++ [e]))) else ∃ M3, Sub M3 M2 ∧ W (i + 1) ys M3) ∧ ∀ ys M, W I.n ys M → Q (.ref p) M
def tCompD (wd : TID) (tk : Tgt) (js : List Nat) (tc : TTD) (te : TD) : TD := fun δ M Q => wd δ M fun I M1 => kComp I tk js tc te δ M1 Q
section
variable {X : Cx} {K : PySem.W.Frag}
theorem comp_lift {wd : TID} {tk : Tgt} {js : List Nat} {tc : TTD} {te : TD} {σ : L2.St} {H : Hp} {Q : VK} (h : lift K (tCompD wd tk js tc te) σ H Q) : tCompL js (ownV K tk) (liftI K wd) (liftT K tc) (lift K te) σ H Q := by
  obtain ⟨δ, M, R, hs, hM, q, fin⟩ := h
  refine ⟨δ, M, _, hs, hM, q, fun I M1 H1 J g1 a1 kc io p hp => ?_⟩
  obtain ⟨hn, kc⟩ := kc
  obtain ⟨W, w0, hC, turn, done⟩ := kc p (a1.fresh hp)
  refine ⟨fun i m H2 => m = I.n - i ∧ i ≤ I.n ∧ Grow K H1 H2 ∧ ∃ ys M, ys.length ≤ i ∧ Abs K H2 M ∧ W i ys M, ⟨I.n, by simp, Nat.zero_le _, .new hp, [], _, Nat.le_refl _, a1.newL hp .nil, w0⟩, ?_⟩
  rintro i m H2 ⟨rfl, hi, g2, ys, M2, hl, a2, w2⟩
  by_cases hin : i < I.n
  · refine .inr ⟨io.go i H2 M2 hin g2 a2 (hC _ _ _ hi w2), fun v H3 hy => ?_⟩
    obtain ⟨g3, a3, d, ed, rd⟩ := io.yld i H2 M2 v H3 hin g2 a2 (hC _ _ _ hi w2) hy
    obtain ⟨os, ow, q3⟩ := turn i ys d M2 hin ed w2
    obtain ⟨us, uv, su⟩ := own_lift rd ow
    have s3 := slots_c (js := js) (hs.mono ((g1.trans g2).trans g3)) su
    refine ⟨us, uv, cδ os js δ, M2, _, s3, a3, q3, fun b M4 H4 g4 a4 q4 => ?_⟩
    cases b with
    | false =>
      rw [if_neg Bool.false_ne_true] at q4 ⊢
      obtain ⟨M5, s5, w5⟩ := q4
      exact ⟨I.n - (i + 1), by omega, rfl, hin, (g2.trans g3).trans g4, ys, M5, by omega, a4.sub s5, w5⟩
    | true =>
      rw [if_pos rfl] at q4 ⊢
      refine ⟨cδ os js δ, M4, _, s3.mono g4, a4, q4, fun e M' u H5 g5 r5 a5 ⟨M6, s6, e6, w6⟩ => ?_⟩
      obtain ⟨zs, hx, rs⟩ := (a5.sub s6) _ _ e6
      refine ⟨zs, hx, ?_, I.n - (i + 1), by omega, rfl, hin, (((g2.trans g3).trans g4).trans g5).trans (.lst hx), ys ++ [e], _, by simp; omega, (a5.sub s6).setL hx (rs.append (.cons r5 .nil)), w6⟩
      rw [← rs.length]
      exact Nat.lt_of_le_of_lt hl (Nat.lt_of_lt_of_le hin (Nat.le_trans hn (by decide)))
  · obtain rfl : i = I.n := by omega
    exact .inl ⟨io.stop H2 M2 g2 a2 (hC _ _ _ hi w2), fin _ _ _ _ (g1.trans g2) (by rw [Rep]) a2 (done ys M2 w2)⟩
variable {xs : List Str} {tg : Expr} {pos : Pos} {js : List Nat} {scope : Scope} {elt iter : Expr} {ifs : List Expr} {te : TD} {tc : TTD} {g : TG} {tk : Tgt} {wd : TID}
def DTs (X : Cx) (ifs : List Expr) (t : TTD) : Prop := PTs X ifs (liftT X.K t)
theorem dts_nil : DTs X [] tTrueD := fun pins s σ H Q I ⟨δ, M, R, hs, hM, q, fin⟩ => pts_nil pins s σ H Q I (fin _ _ _ .refl hM q)
theorem dts_one {c : Expr} {t : TTD} (h : DT X c t) : DTs X [c] t := pts_one h
theorem de_comp (c : CScope X xs js scope) (hc : X.calm = true) (hi : DI X tg iter wd) (hG : TgOk xs.length g (ownV X.K tk)) (hg : ∀ C s H fp, PG (cxC X xs js scope C s H fp) tg g) (ht : ∀ C s H fp, DTs (cxC X xs js scope C s H fp) ifs tc) (he : ∀ C s H fp, DE (cxC X xs js scope C s H fp) elt te)
    (hs : ∀ x, foldedSetIterable iter X.env x = pure x := by intro _; rfl) : DE X (.ListComp elt [⟨tg, iter, ifs, 0⟩] scope pos) (tCompD wd tk js tc te) :=
  pe_imp (pe_comp (te := lift X.K te) (tc := liftT X.K tc) c hc hi hG hg ht he hs) fun _ _ _ h => comp_lift h
theorem ds_comp (i : Nat) {y : Str} {py spos : Pos} (hN : X.N.Nodup) (c : CScope X xs js scope) (hc : X.calm = true) (hi : DI X tg iter wd) (hG : TgOk xs.length g (ownV X.K tk)) (hg : ∀ C s H fp, PG (cxC X xs js scope C s H fp) tg g) (ht : ∀ C s H fp, DTs (cxC X xs js scope C s H fp) ifs tc) (he : ∀ C s H fp, DE (cxC X xs js scope C s H fp) elt te)
    (hy : X.N[i]? = some y := by rfl) (hl : X.env.scope.names.lookup y = some .local := by rfl)
    (hsw : swapsWith (.ListComp elt [⟨tg, iter, ifs, 0⟩] scope pos) (some (.Name y py)) spos.line X.env = pure true := by rfl) (hs : ∀ x, foldedSetIterable iter X.env x = pure x := by intro _; rfl) :
    DSt X (.Assign [.Name y py] (.ListComp elt [⟨tg, iter, ifs, 0⟩] scope pos) spos) (tAsgD (tCompD wd tk js tc te) (gNameD i)) :=
  ps_imp (ps_comp (te := lift X.K te) (tc := liftT X.K tc) c hc hN hi hG hg ht he hy hl hsw hs) fun E σ H ⟨δ, M, hs, a, B, ok, q⟩ =>
    comp_lift ⟨δ, M, _, hs, a, q, fun d M1 v H1 g1 r1 a1 q1 => ok.nx _ _ _ _ g1 ((hs.mono g1).set r1 i) a1 q1⟩
/-- every item made by itself, the store as it was -/
theorem comp_map {I : ItD} {tk : Tgt} {js : List Nat} {te : TD} {δ : DS} {M1 : MH} {Q : DK} (f : Nat → D) (hn : I.n ≤ 1000000) (hC : ∀ p ys, M1 p = none → I.C (updM M1 p (.lst ys)))
    (h : ∀ i d M, i < I.n → I.item i = some d → Sub M1 M → ∃ os, ownD tk d os ∧ ∀ K : DK, (∀ M', Sub M M' → K (f i) M') → te (cδ os js δ) M K) (hq : ∀ p, M1 p = none → Q (.ref p) (updM M1 p (.lst ((List.range I.n).map f)))) : kComp I tk js tTrueD te δ M1 Q := by
  refine ⟨hn, fun p hp => ⟨fun i ys M => ys = (List.range i).map f ∧ M = updM M1 p (.lst ys), ⟨rfl, rfl⟩, ?_, ?_, ?_⟩⟩
  · rintro i ys M _ ⟨_, rfl⟩
    exact hC p ys hp
  · rintro i ys d M hi hd ⟨rfl, rfl⟩
    obtain ⟨os, ow, k⟩ := h i d _ hi hd (.new hp .refl)
    refine ⟨os, ow, ?_⟩
    unfold tTrueD
    refine iteT (k _ ?_)
    exact fun M' s' => ⟨_, s', updM_same, by rw [List.range_succ, List.map_append]; rfl, by rw [updM_updM]⟩
  · rintro ys M ⟨rfl, rfl⟩
    exact hq p hp
end
def cchk (X : Cx) (xs : List Str) (js : List Nat) (scope : Scope) : Bool :=
  scope.kind == .function && scope.names.all (fun y => (y.2 != .cell || xs.contains y.1) && (y.2 != .free || !xs.contains y.1)) && scope.names.all (fun y => y.2 != .local || scope.names.lookup y.1 == some .local) && xs.all (fun x => scope.names.lookup x == some .local || scope.names.lookup x == some .cell) &&
    scope.names.all (fun y => y.2 != .free || (X.env.kindOf y.1 == some .cell || X.env.kindOf y.1 == some .free)) && decide (cN X xs js).Nodup && js.all (fun j => scope.names.lookup ((X.N[j]?).getD ("" : Str)) != some .local)
theorem CScope.of {X : Cx} {xs : List Str} {js : List Nat} {scope : Scope} (h : cchk X xs js scope = true) : CScope X xs js scope := by
  unfold cchk at h
  simp only [Bool.and_eq_true] at h
  obtain ⟨⟨⟨⟨⟨⟨h1, h2⟩, h3⟩, h4⟩, h5⟩, h6⟩, h7⟩ := h
  refine ⟨by simpa using h1, fun y hy hc => ?_, fun y hy hf => ?_, fun y hy hl => ?_, fun x hx => ?_, fun y hy hf => ?_, of_decide_eq_true h6, fun j hj => ?_⟩
  · have := List.all_eq_true.mp h2 y hy; rw [hc] at this; simpa using this
  · have := List.all_eq_true.mp h2 y hy; rw [hf] at this; simpa using this
  · have := List.all_eq_true.mp h3 y hy; rw [hl] at this; simpa using this
  · have := List.all_eq_true.mp h4 x hx; simpa using this
  · have := List.all_eq_true.mp h5 y hy; rw [hf] at this; simpa using this
  · have := List.all_eq_true.mp h7 j hj; simpa using this
/-! ### slices of lists and tuples -/
abbrev TOD := DS → MH → (Option Int → MH → Prop) → Prop
def liftO (K : PySem.W.Frag) (t : TOD) : TO := fun σ H Q => ∃ δ M R, Slots K H δ σ ∧ Abs K H M ∧ t δ M R ∧ ∀ o M' H', Grow K H H' → Abs K H' M' → R o M' → Q o H'
def tNoPartD : TOD := fun _ M Q => Q none M
def tPartD (t : TD) : TOD := fun δ M Q => t δ M fun x M1 => ∃ i, x = .int i ∧ Q (some i) M1
def cutD (xs : List D) (lo hi : Option Int) : List D := (xs.drop (HT.sIx xs.length 0 lo)).take (HT.sIx xs.length xs.length hi - HT.sIx xs.length 0 lo)
def rSlD : D → Option Int → Option Int → MH → DK → Prop := fun x lo hi M Q => match x with
  | .ref a => ∃ ds, M a = some (.lst ds) ∧ ∀ p, M p = none → Q (.ref p) (updM M p (.lst (cutD ds lo hi)))
  | .rol ds => ∀ p, M p = none → Q (.ref p) (updM M p (.lst (cutD ds lo hi)))
  | .tup ds => ¬ (HT.sIx ds.length 0 lo = 0 ∧ HT.sIx ds.length ds.length hi = ds.length) ∧ Q (.tup (cutD ds lo hi)) M
  | _ => False
def tSlD (te : TD) (tl th : TOD) : TD := fun δ M Q => te δ M fun x M1 => tl δ M1 fun l M2 => th δ M2 fun u M3 => rSlD x l u M3 Q
section
variable {X : Cx} {e a : Expr} {te : TD} {tl th : TOD} {lo hi : Option Expr} {pos p2 : Pos}
end
end SD

set_option Elab.async false
set_option linter.all false
set_option maxRecDepth 100000
namespace SD
open PySem PySem.Spec PyProof.Rows L2
section
variable {X : Cx} {x y z : Str} {px py pz pt pos : Pos} {kt : Nat} {js : List Nat} {scope : Scope} {elt iter : Expr} {ifs : List Expr} {te : TD} {tc : TTD} {wd : TID} {xs : List Str}
theorem pg_own (c : CScope X xs js scope) (i : Nat) (hx : xs[i]? = some x) {C : Addr} {s : Shared} {H : Hp} {fp : List Addr} : PG (cxC X xs js scope C s H fp) (.Name x px) (gName i) := by
  have hi : i < xs.length := (List.getElem?_eq_some_iff.mp hx).1
  have hm := List.mem_of_getElem? hx
  have hl : Loc (cxC X xs js scope C s H fp).env.scope x := by
    rcases c.own x hm with z | z
    · exact .inl (relabel_keep (by decide) z)
    · exact .inr (relabel_keep (by decide) z)
  refine pg_name (i := i) c.nd ?_ hl (.inl (by show xs.contains x = true; simpa using hm))
  show (xs ++ js.map fun j => (X.N[j]?).getD ("" : Str))[i]? = some x
  rw [List.getElem?_append_left hi]
  exact hx
theorem pg_own2 (c : CScope X [x, y] js scope) (hc : X.calm = true) {C : Addr} {s : Shared} {H : Hp} {fp : List Addr} : PG (cxC X [x, y] js scope C s H fp) (.Tuple [.Name x px, .Name y py] kt pt) (gTup X.K 2 (gCons (gName 0) (gCons (gName 1) gNil))) :=
  pg_tup (X := cxC X [x, y] js scope C s H fp) hc (pgs_cons (pg_own c 0 rfl) (pgs_cons (pg_own c 1 rfl) pgs_nil)) rfl rfl
theorem de_comp1 (c : CScope X [x] js scope) (hc : X.calm = true) (hi : DI X (.Name x px) iter wd) (ht : ∀ C s H fp, DTs (cxC X [x] js scope C s H fp) ifs tc) (he : ∀ C s H fp, DE (cxC X [x] js scope C s H fp) elt te)
    (hs : ∀ x, foldedSetIterable iter X.env x = pure x := by intro _; rfl) : DE X (.ListComp elt [⟨.Name x px, iter, ifs, 0⟩] scope pos) (tCompD wd .one js tc te) :=
  de_comp c hc hi tg_one (fun _ _ _ _ => pg_own c 0 rfl) ht he hs
theorem de_comp2 (c : CScope X [x, y] js scope) (hc : X.calm = true) (hi : DI X (.Tuple [.Name x px, .Name y py] kt pt) iter wd) (ht : ∀ C s H fp, DTs (cxC X [x, y] js scope C s H fp) ifs tc) (he : ∀ C s H fp, DE (cxC X [x, y] js scope C s H fp) elt te)
    (hs : ∀ x, foldedSetIterable iter X.env x = pure x := by intro _; rfl) : DE X (.ListComp elt [⟨.Tuple [.Name x px, .Name y py] kt pt, iter, ifs, 0⟩] scope pos) (tCompD wd (.many 2) js tc te) :=
  de_comp c hc hi tg_two (fun _ _ _ _ => pg_own2 c hc) ht he hs
theorem ds_comp1 (i : Nat) {v : Str} {pv spos : Pos} (hN : X.N.Nodup) (c : CScope X [x] js scope) (hc : X.calm = true) (hi : DI X (.Name x px) iter wd) (ht : ∀ C s H fp, DTs (cxC X [x] js scope C s H fp) ifs tc) (he : ∀ C s H fp, DE (cxC X [x] js scope C s H fp) elt te)
    (hy : X.N[i]? = some v := by rfl) (hl : X.env.scope.names.lookup v = some .local := by rfl)
    (hsw : swapsWith (.ListComp elt [⟨.Name x px, iter, ifs, 0⟩] scope pos) (some (.Name v pv)) spos.line X.env = pure true := by rfl) (hs : ∀ x, foldedSetIterable iter X.env x = pure x := by intro _; rfl) :
    DSt X (.Assign [.Name v pv] (.ListComp elt [⟨.Name x px, iter, ifs, 0⟩] scope pos) spos) (tAsgD (tCompD wd .one js tc te) (gNameD i)) :=
  ds_comp i hN c hc hi tg_one (fun _ _ _ _ => pg_own c 0 rfl) ht he hy hl hsw hs
end
end SD

set_option Elab.async false
set_option linter.all false
set_option maxRecDepth 100000
/-! max and min of two values whose comparison is known; tuples of ints compared. -/
namespace SD
open PySem PySem.Spec PyProof.Rows L2
section
variable {prog : Program} {w : World} {A : Around} {E : Value → Shared → Prop} {s : Shared}

theorem max_two {a b : Value} {c : Bool} {Q : Value → Shared → Prop} (hh : A.handled = none)
    (cmp : ∀ (t : Shared) (Q' : Value → Shared → Prop) (E' : Value → Shared → Prop), (∀ x o, s.heap.get? x = some o → t.heap.get? x = some o) → Q' (.bool c) t → wpAny (model prog w) A.in1 (richCompare .Gt b a) Q' E' t)
    (h : ∀ h' tk, (∀ x o, s.heap.get? x = some o → h'.get? x = some o) → Q (if c = true then b else a) { s with heap := h', toks := tk }) :
    wpAny (model prog w) A (call (.builtin "max") [a, b]) Q E s := by
  have nm : (toString "max" ++ toString ".loop" : String) = "max.loop" := by decide
  refine call_function_tree F.kind_max F.plain_max F.entry_max (F.args_max2 _ _) ?_
  show wpAny _ A.in1 (Builtin.Builtins.bindParams "max" ["key", "default"] 0 ⟨[], []⟩ >>= fun _ => _) _ _ s
  refine wpAny_bind (wpAny_of_eq (a := [none, none]) rfl ?_)
  show wpAny _ A.in1 (newTuple [a, b] >>= fun _ => _) _ _ s
  refine wpAny_bind (wpAny_newObj_type ?_)
  generalize e1 : s.heap.push { cls := .type "tuple", dict := none, data := .seq ([a, b] : List Value).toArray } = h1
  have k1 : ∀ x o, s.heap.get? x = some o → h1.get? x = some o := fun x o q => by rw [← e1]; exact Heap.get?_push_of_some _ q
  have hT : h1.IsTuple s.heap.objs.size #[a, b] := by rw [← e1]; exact ⟨_, Heap.get?_push_size _ rfl, rfl, 0, rfl⟩
  have z1 : h1.objs.size = s.heap.objs.size + 1 := by rw [← e1, Heap.size_push]
  refine wpAny_bind (wpAny_pyIter_tuple (s := { s with heap := h1 }) hT ?_)
  refine wpAny_bind (wpAny_newObj_type ?_)
  dsimp only
  generalize eI : h1.objs.size = I
  generalize e2 : h1.push _ = h2
  have k2 : ∀ x o, h1.get? x = some o → h2.get? x = some o := fun x o q => by rw [← e2]; exact Heap.get?_push_of_some _ q
  have hI : h2.IsTupleIter I s.heap.objs.size 0 := by rw [← e2, ← eI]; exact ⟨_, Heap.get?_push_size _ rfl, rfl, rfl⟩
  have z2 : h2.objs.size = I + 1 := by rw [← e2, Heap.size_push, eI]
  generalize eS : h2.objs.size = S
  generalize e3 : h2.push _ = h3
  have k3 : ∀ x o, h2.get? x = some o → h3.get? x = some o := fun x o q => by rw [← e3]; exact Heap.get?_push_of_some _ q
  have hS : h3.get? S = some { cls := .type "list", dict := none, data := .seq #[] 0, slots := #[] } := by rw [← e3, ← eS]; exact Heap.get?_push_size _ rfl
  have SI : S ≠ I := by omega
  have old : ∀ x o, s.heap.get? x = some o → x ≠ I ∧ x ≠ S := fun x o q => ⟨Nat.ne_of_lt (Nat.lt_of_lt_of_le (Heap.lt_size q) (by omega)), Nat.ne_of_lt (Nat.lt_of_lt_of_le (Heap.lt_size q) (by omega))⟩
  have hT3 : h3.IsTuple s.heap.objs.size #[a, b] := by
    obtain ⟨o, q, r⟩ := hT
    exact ⟨o, k3 _ _ (k2 _ _ q), r⟩
  have hI3 : h3.IsTupleIter I s.heap.objs.size 0 := hI.at fun o q => k3 _ _ q
  have TI : s.heap.objs.size ≠ I := by omega
  have TS : s.heap.objs.size ≠ S := by omega
  have keep3 : ∀ x o, s.heap.get? x = some o → h3.get? x = some o := fun x o q => k3 _ _ (k2 _ _ (k1 _ _ q))
  rw [nm]
  refine wpAny_pure ⟨plainId_quiet F.plain_max_loop _, ?_⟩
  -- the last round
  have last : ∀ (t : Shared) (v : Value) (n : Nat), t.heap.IsTupleIter I s.heap.objs.size 2 → t.heap.IsTuple s.heap.objs.size #[a, b] → t.heap.get? S = some { cls := .type "list", dict := none, data := .seq #[v, v] n, slots := #[] } →
      (∃ h' tk, t = { s with heap := h', toks := tk } ∧ ∀ x o, s.heap.get? x = some o → h'.get? x = some o) → v = (if c = true then b else a) → codeAny (model prog w) A (.builtin "max.loop" ⟨[.ref I, .none, .ref S], []⟩) (fun r s' => match r with | .ok (.ret v) => Q v s' | .ok _ => False | .error e => E e s') t := by
    rintro t v n i2 tT lS ⟨h', tk, rfl, kt⟩ ev
    refine codeAny_builtin F.entry_max_loop ?_
    rw [Around.under_plainId F.plain_max_loop _]
    show wpAny _ A.in1 (seqItems? (.ref S) >>= fun _ => _) _ _ _
    refine wpAny_bind (wpAny_seqItems lS rfl ?_)
    show wpAny _ A.in1 (tryCatch (pyNext (.ref I)) _ >>= fun _ => _) _ _ _
    refine wpAny_bind (wpAny_tryCatch (wpAny_pyNext_tuple_end (A := A.in1) hh i2 tT (by simp) fun h4 q4 => ?_))
    have lS4 : h4.get? S = some _ := q4 _ _ SI lS
    show wpAny _ A.in1 (updateSeq S (fun _ => #[]) >>= fun _ => _) _ _ _
    refine wpAny_bind (wpAny_updateSeq lS4 rfl (wpAny_bind (wpAny_letGo (wpAny_pure ?_))))
    show Q v _
    rw [ev]
    exact h _ _ fun x o q => (Heap.get?_update_other _ _ (old x o q).2.symm).trans (q4 x o (old x o q).1 (kt x o q))
  refine codeAny_builtin F.entry_max_loop ?_
  rw [Around.under_plainId F.plain_max_loop _]
  show wpAny _ A.in1 (seqItems? (.ref S) >>= fun _ => _) _ _ _
  refine wpAny_bind (wpAny_seqItems (s := { s with heap := h3 }) hS rfl ?_)
  show wpAny _ A.in1 (tryCatch (pyNext (.ref I)) _ >>= fun _ => _) _ _ _
  refine wpAny_bind (wpAny_tryCatch (wpAny_pyNext_tuple_item (s := { s with heap := h3 }) hI3 hT3 (x := a) (by simp) fun h4 i4 q4 => ?_))
  have hS4 : h4.get? S = some _ := (q4.2 _ SI).trans hS
  have hT4 : h4.IsTuple s.heap.objs.size #[a, b] := by
    obtain ⟨o, q, r⟩ := hT3
    exact ⟨o, (q4.2 _ TI).trans q, r⟩
  show wpAny _ A.in1 (updateSeq S (fun _ => #[a, a]) >>= fun _ => _) _ _ _
  refine wpAny_bind (wpAny_updateSeq hS4 rfl ?_)
  rw [nm]
  refine wpAny_pure ⟨plainId_quiet F.plain_max_loop _, ?_⟩
  generalize e5 : h4.update S _ = h5
  have o5 : ∀ x, x ≠ S → h5.get? x = h4.get? x := fun x q => by rw [← e5]; exact Heap.get?_update_other _ _ q.symm
  have hS5 : ∃ n, h5.get? S = some { cls := .type "list", dict := none, data := .seq #[a, a] n, slots := #[] } := ⟨_, by rw [← e5]; exact Heap.get?_update_self _ hS4 rfl⟩
  obtain ⟨n5, hS5⟩ := hS5
  have i5 : h5.IsTupleIter I s.heap.objs.size 1 := i4.at fun o q => (o5 _ SI.symm).trans q
  have hT5 : h5.IsTuple s.heap.objs.size #[a, b] := by
    obtain ⟨o, q, r⟩ := hT4
    exact ⟨o, (o5 _ TS).trans q, r⟩
  have keep5 : ∀ x o, s.heap.get? x = some o → h5.get? x = some o := fun x o q => (o5 _ (old x o q).2).trans ((q4.2 _ (old x o q).1).trans (keep3 x o q))
  refine codeAny_builtin F.entry_max_loop ?_
  rw [Around.under_plainId F.plain_max_loop _]
  show wpAny _ A.in1 (seqItems? (.ref S) >>= fun _ => _) _ _ _
  refine wpAny_bind (wpAny_seqItems (s := { s with heap := h5 }) hS5 rfl ?_)
  show wpAny _ A.in1 (tryCatch (pyNext (.ref I)) _ >>= fun _ => _) _ _ _
  refine wpAny_bind (wpAny_tryCatch (wpAny_pyNext_tuple_item (s := { s with heap := h5 }) i5 hT5 (x := b) (by simp) fun h6 i6 q6 => ?_))
  have hS6 : h6.get? S = some _ := (q6.2 _ SI).trans hS5
  have hT6 : h6.IsTuple s.heap.objs.size #[a, b] := by
    obtain ⟨o, q, r⟩ := hT5
    exact ⟨o, (q6.2 _ TI).trans q, r⟩
  have keep6 : ∀ x o, s.heap.get? x = some o → h6.get? x = some o := fun x o q => (q6.2 _ (old x o q).1).trans (keep5 x o q)
  show wpAny _ A.in1 (tryCatch (holding [b, b] (richCompare .Gt b a >>= fun _ => _)) _ >>= fun _ => _) _ _ _
  refine wpAny_bind (wpAny_tryCatch (wpAny_holding (wpAny_bind (cmp _ _ _ keep6 ?_))))
  refine wpAny_bind (wpAny_holding (wpAny_truthy_bool ?_))
  refine wpAny_bind (wpAny_letGo (wpAny_pure ?_))
  cases c with
  | true =>
    simp only [if_true] at last ⊢
    refine wpAny_bind (wpAny_updateSeq hS6 rfl (wpAny_bind (wpAny_letGo ?_)))
    rw [nm]
    refine wpAny_pure ⟨plainId_quiet F.plain_max_loop _, last _ b _ (i6.at fun o q => (Heap.get?_update_other _ _ SI).trans q) ?_ (Heap.get?_update_self _ hS6 rfl) ⟨_, _, rfl, fun x o q => (Heap.get?_update_other _ _ (old x o q).2.symm).trans (keep6 x o q)⟩ rfl⟩
    obtain ⟨o, q, r⟩ := hT6
    exact ⟨o, (Heap.get?_update_other _ _ TS.symm).trans q, r⟩
  | false =>
    simp only [Bool.false_eq_true, if_false] at last ⊢
    refine wpAny_bind (wpAny_letGo ?_)
    rw [nm]
    exact wpAny_pure ⟨plainId_quiet F.plain_max_loop _, last _ a _ i6 hT6 hS6 ⟨_, _, rfl, keep6⟩ rfl⟩

theorem min_two {a b : Value} {c : Bool} {Q : Value → Shared → Prop} (hh : A.handled = none)
    (cmp : ∀ (t : Shared) (Q' : Value → Shared → Prop) (E' : Value → Shared → Prop), (∀ x o, s.heap.get? x = some o → t.heap.get? x = some o) → Q' (.bool c) t → wpAny (model prog w) A.in1 (richCompare .Lt b a) Q' E' t)
    (h : ∀ h' tk, (∀ x o, s.heap.get? x = some o → h'.get? x = some o) → Q (if c = true then b else a) { s with heap := h', toks := tk }) :
    wpAny (model prog w) A (call (.builtin "min") [a, b]) Q E s := by
  have nm : (toString "min" ++ toString ".loop" : String) = "min.loop" := by decide
  refine call_function_tree F.kind_min F.plain_min F.entry_min (F.args_min2 _ _) ?_
  show wpAny _ A.in1 (Builtin.Builtins.bindParams "min" ["key", "default"] 0 ⟨[], []⟩ >>= fun _ => _) _ _ s
  refine wpAny_bind (wpAny_of_eq (a := [none, none]) rfl ?_)
  show wpAny _ A.in1 (newTuple [a, b] >>= fun _ => _) _ _ s
  refine wpAny_bind (wpAny_newObj_type ?_)
  generalize e1 : s.heap.push { cls := .type "tuple", dict := none, data := .seq ([a, b] : List Value).toArray } = h1
  have k1 : ∀ x o, s.heap.get? x = some o → h1.get? x = some o := fun x o q => by rw [← e1]; exact Heap.get?_push_of_some _ q
  have hT : h1.IsTuple s.heap.objs.size #[a, b] := by rw [← e1]; exact ⟨_, Heap.get?_push_size _ rfl, rfl, 0, rfl⟩
  have z1 : h1.objs.size = s.heap.objs.size + 1 := by rw [← e1, Heap.size_push]
  refine wpAny_bind (wpAny_pyIter_tuple (s := { s with heap := h1 }) hT ?_)
  refine wpAny_bind (wpAny_newObj_type ?_)
  dsimp only
  generalize eI : h1.objs.size = I
  generalize e2 : h1.push _ = h2
  have k2 : ∀ x o, h1.get? x = some o → h2.get? x = some o := fun x o q => by rw [← e2]; exact Heap.get?_push_of_some _ q
  have hI : h2.IsTupleIter I s.heap.objs.size 0 := by rw [← e2, ← eI]; exact ⟨_, Heap.get?_push_size _ rfl, rfl, rfl⟩
  have z2 : h2.objs.size = I + 1 := by rw [← e2, Heap.size_push, eI]
  generalize eS : h2.objs.size = S
  generalize e3 : h2.push _ = h3
  have k3 : ∀ x o, h2.get? x = some o → h3.get? x = some o := fun x o q => by rw [← e3]; exact Heap.get?_push_of_some _ q
  have hS : h3.get? S = some { cls := .type "list", dict := none, data := .seq #[] 0, slots := #[] } := by rw [← e3, ← eS]; exact Heap.get?_push_size _ rfl
  have SI : S ≠ I := by omega
  have old : ∀ x o, s.heap.get? x = some o → x ≠ I ∧ x ≠ S := fun x o q => ⟨Nat.ne_of_lt (Nat.lt_of_lt_of_le (Heap.lt_size q) (by omega)), Nat.ne_of_lt (Nat.lt_of_lt_of_le (Heap.lt_size q) (by omega))⟩
  have hT3 : h3.IsTuple s.heap.objs.size #[a, b] := by
    obtain ⟨o, q, r⟩ := hT
    exact ⟨o, k3 _ _ (k2 _ _ q), r⟩
  have hI3 : h3.IsTupleIter I s.heap.objs.size 0 := hI.at fun o q => k3 _ _ q
  have TI : s.heap.objs.size ≠ I := by omega
  have TS : s.heap.objs.size ≠ S := by omega
  have keep3 : ∀ x o, s.heap.get? x = some o → h3.get? x = some o := fun x o q => k3 _ _ (k2 _ _ (k1 _ _ q))
  rw [nm]
  refine wpAny_pure ⟨plainId_quiet F.plain_min_loop _, ?_⟩
  -- the last round
  have last : ∀ (t : Shared) (v : Value) (n : Nat), t.heap.IsTupleIter I s.heap.objs.size 2 → t.heap.IsTuple s.heap.objs.size #[a, b] → t.heap.get? S = some { cls := .type "list", dict := none, data := .seq #[v, v] n, slots := #[] } →
      (∃ h' tk, t = { s with heap := h', toks := tk } ∧ ∀ x o, s.heap.get? x = some o → h'.get? x = some o) → v = (if c = true then b else a) → codeAny (model prog w) A (.builtin "min.loop" ⟨[.ref I, .none, .ref S], []⟩) (fun r s' => match r with | .ok (.ret v) => Q v s' | .ok _ => False | .error e => E e s') t := by
    rintro t v n i2 tT lS ⟨h', tk, rfl, kt⟩ ev
    refine codeAny_builtin F.entry_min_loop ?_
    rw [Around.under_plainId F.plain_min_loop _]
    show wpAny _ A.in1 (seqItems? (.ref S) >>= fun _ => _) _ _ _
    refine wpAny_bind (wpAny_seqItems lS rfl ?_)
    show wpAny _ A.in1 (tryCatch (pyNext (.ref I)) _ >>= fun _ => _) _ _ _
    refine wpAny_bind (wpAny_tryCatch (wpAny_pyNext_tuple_end (A := A.in1) hh i2 tT (by simp) fun h4 q4 => ?_))
    have lS4 : h4.get? S = some _ := q4 _ _ SI lS
    show wpAny _ A.in1 (updateSeq S (fun _ => #[]) >>= fun _ => _) _ _ _
    refine wpAny_bind (wpAny_updateSeq lS4 rfl (wpAny_bind (wpAny_letGo (wpAny_pure ?_))))
    show Q v _
    rw [ev]
    exact h _ _ fun x o q => (Heap.get?_update_other _ _ (old x o q).2.symm).trans (q4 x o (old x o q).1 (kt x o q))
  refine codeAny_builtin F.entry_min_loop ?_
  rw [Around.under_plainId F.plain_min_loop _]
  show wpAny _ A.in1 (seqItems? (.ref S) >>= fun _ => _) _ _ _
  refine wpAny_bind (wpAny_seqItems (s := { s with heap := h3 }) hS rfl ?_)
  show wpAny _ A.in1 (tryCatch (pyNext (.ref I)) _ >>= fun _ => _) _ _ _
  refine wpAny_bind (wpAny_tryCatch (wpAny_pyNext_tuple_item (s := { s with heap := h3 }) hI3 hT3 (x := a) (by simp) fun h4 i4 q4 => ?_))
  have hS4 : h4.get? S = some _ := (q4.2 _ SI).trans hS
  have hT4 : h4.IsTuple s.heap.objs.size #[a, b] := by
    obtain ⟨o, q, r⟩ := hT3
    exact ⟨o, (q4.2 _ TI).trans q, r⟩
  show wpAny _ A.in1 (updateSeq S (fun _ => #[a, a]) >>= fun _ => _) _ _ _
  refine wpAny_bind (wpAny_updateSeq hS4 rfl ?_)
  rw [nm]
  refine wpAny_pure ⟨plainId_quiet F.plain_min_loop _, ?_⟩
  generalize e5 : h4.update S _ = h5
  have o5 : ∀ x, x ≠ S → h5.get? x = h4.get? x := fun x q => by rw [← e5]; exact Heap.get?_update_other _ _ q.symm
  have hS5 : ∃ n, h5.get? S = some { cls := .type "list", dict := none, data := .seq #[a, a] n, slots := #[] } := ⟨_, by rw [← e5]; exact Heap.get?_update_self _ hS4 rfl⟩
  obtain ⟨n5, hS5⟩ := hS5
  have i5 : h5.IsTupleIter I s.heap.objs.size 1 := i4.at fun o q => (o5 _ SI.symm).trans q
  have hT5 : h5.IsTuple s.heap.objs.size #[a, b] := by
    obtain ⟨o, q, r⟩ := hT4
    exact ⟨o, (o5 _ TS).trans q, r⟩
  have keep5 : ∀ x o, s.heap.get? x = some o → h5.get? x = some o := fun x o q => (o5 _ (old x o q).2).trans ((q4.2 _ (old x o q).1).trans (keep3 x o q))
  refine codeAny_builtin F.entry_min_loop ?_
  rw [Around.under_plainId F.plain_min_loop _]
  show wpAny _ A.in1 (seqItems? (.ref S) >>= fun _ => _) _ _ _
  refine wpAny_bind (wpAny_seqItems (s := { s with heap := h5 }) hS5 rfl ?_)
  show wpAny _ A.in1 (tryCatch (pyNext (.ref I)) _ >>= fun _ => _) _ _ _
  refine wpAny_bind (wpAny_tryCatch (wpAny_pyNext_tuple_item (s := { s with heap := h5 }) i5 hT5 (x := b) (by simp) fun h6 i6 q6 => ?_))
  have hS6 : h6.get? S = some _ := (q6.2 _ SI).trans hS5
  have hT6 : h6.IsTuple s.heap.objs.size #[a, b] := by
    obtain ⟨o, q, r⟩ := hT5
    exact ⟨o, (q6.2 _ TI).trans q, r⟩
  have keep6 : ∀ x o, s.heap.get? x = some o → h6.get? x = some o := fun x o q => (q6.2 _ (old x o q).1).trans (keep5 x o q)
  show wpAny _ A.in1 (tryCatch (holding [b, b] (richCompare .Lt b a >>= fun _ => _)) _ >>= fun _ => _) _ _ _
  refine wpAny_bind (wpAny_tryCatch (wpAny_holding (wpAny_bind (cmp _ _ _ keep6 ?_))))
  refine wpAny_bind (wpAny_holding (wpAny_truthy_bool ?_))
  refine wpAny_bind (wpAny_letGo (wpAny_pure ?_))
  cases c with
  | true =>
    simp only [if_true] at last ⊢
    refine wpAny_bind (wpAny_updateSeq hS6 rfl (wpAny_bind (wpAny_letGo ?_)))
    rw [nm]
    refine wpAny_pure ⟨plainId_quiet F.plain_min_loop _, last _ b _ (i6.at fun o q => (Heap.get?_update_other _ _ SI).trans q) ?_ (Heap.get?_update_self _ hS6 rfl) ⟨_, _, rfl, fun x o q => (Heap.get?_update_other _ _ (old x o q).2.symm).trans (keep6 x o q)⟩ rfl⟩
    obtain ⟨o, q, r⟩ := hT6
    exact ⟨o, (Heap.get?_update_other _ _ TS.symm).trans q, r⟩
  | false =>
    simp only [Bool.false_eq_true, if_false] at last ⊢
    refine wpAny_bind (wpAny_letGo ?_)
    rw [nm]
    exact wpAny_pure ⟨plainId_quiet F.plain_min_loop _, last _ a _ i6 hT6 hS6 ⟨_, _, rfl, keep6⟩ rfl⟩
end
end SD

set_option Elab.async false
set_option linter.all false
set_option maxRecDepth 100000
namespace HT
open PySem PyProof.Rows
/-- t <= u of tuples of ints -/
def lexLe : List Int → List Int → Bool
  | [], [] => true
  | [], _ :: _ => true
  | _ :: _, [] => false
  | x :: xs, y :: ys => if x = y then lexLe xs ys else decide (x ≤ y)
theorem lexLe_cons (x y : Int) (xs ys : List Int) : lexLe (x :: xs) (y :: ys) = if x = y then lexLe xs ys else decide (x ≤ y) := rfl
theorem lexLe_nil_nil : lexLe [] [] = true := rfl
theorem lexLe_nil_cons (y : Int) (ys : List Int) : lexLe [] (y :: ys) = true := rfl
theorem lexLe_cons_nil (x : Int) (xs : List Int) : lexLe (x :: xs) [] = false := rfl
theorem rcLe_int (A : Around) (s : Shared) (a : Int) (t : Tok) (c : Int) (u : Tok) (prog : Program) (w : World) (E : Value → Shared → Prop) (Q : Value → Shared → Prop) (h : Q (.bool (decide (a ≤ c))) s) :
    wpAny (model prog w) A (richCompare .LtE (.int a t) (.int c u)) Q E s :=
  (PyProof.Rows.le_int h : wpAny (model prog w) A (compareOp .LtE (.int a t) (.int c u)) Q E s)

section
open PySem.SeqAt
open PySem.AutoSeq1 (wpAny_loadPart')
open PySem.MeetsSeq PySem.MeetsSeq2 PySem.MeetsSeq3

theorem tuple_le_ints (l b : Addr) (items items2 : Array Value) (n n2 : Nat) (dd dd2 : Option Addr) (sl sl2 : Array (Option Value)) (ns ms : List Int) (hi : IntsAre items.toList ns) (hj : IntsAre items2.toList ms) :
    Meets (Builtin.«tuple.__le__» ⟨[.ref l, .ref b], []⟩)
      (fun _ R s => s.heap.get? l = some { cls := .type "tuple", dict := dd, data := .seq items n, slots := sl } ∧ s.heap.get? b = some { cls := .type "tuple", dict := dd2, data := .seq items2 n2, slots := sl2 } ∧
        R (.ok (.ret (.bool (lexLe ns ms)))) s) :=
  .of_wp fun prog w A R s h => by
    obtain ⟨hp, g, d, tk, os⟩ := s; obtain ⟨hl, hb, h⟩ := h
    have f2 := AutoSeq1.sub_tuple_tuple
    have z1 : items.size = ns.length := by rw [← hi.length]; simp
    have z2 : items2.size = ms.length := by rw [← hj.length]; simp
    wp_walk using wpAny_loadPart' hl, wpAny_loadPart' hb, wpAny_forIn_list _ (fun rest b s' => b.1 = none ∧ s' = ⟨hp, g, d, tk, os⟩ ∧ ∃ (vs ws : List Value) (ns' ms' : List Int), rest = vs.zip ws ∧
      IntsAre vs ns' ∧ IntsAre ws ms' ∧ ns'.length + items2.size = ms'.length + items.size ∧ R (.ok (.ret (.bool (lexLe ns' ms')))) ⟨hp, g, d, tk, os⟩) _
    case turn =>
      rintro ⟨y, x⟩ rest b s' ⟨hb', rfl, vs, ws, ns', ms', hz, hvi, hwi, hlen, hR⟩
      cases hvi with
      | nil => rw [List.zip_nil_left] at hz; cases hz
      | cons a t hvi' =>
        cases hwi with
        | nil => rw [List.zip_nil_right] at hz; cases hz
        | cons c u hwi' =>
          rw [List.zip_cons_cons] at hz
          injection hz with hyx hrest
          injection hyx with hy hx
          subst hy hx
          rw [lexLe_cons] at hR
          simp only [List.length_cons] at hlen
          obtain ⟨e, he, hiff⟩ := eqAt_int A.in1 ⟨hp, g, d, tk, os⟩ a t c u
          refine wpAny_bind (he prog w _ _ ?_)
          cases e with
          | true =>
            rw [if_pos (hiff.mp rfl)] at hR
            wp_walk
            exact ⟨rfl, rfl, _, _, _, _, hrest, hvi', hwi', by omega, hR⟩
          | false =>
            rw [if_neg (fun q => absurd (hiff.mpr q) Bool.false_ne_true)] at hR
            have hri := rcLe_int A.in1 ⟨hp, g, d, tk, os⟩ a t c u prog w
            wp_walk using hri
            exact ⟨_, rfl, by simpa using hR⟩
    case fin =>
      rintro ⟨b1, b2⟩ s' ⟨hb', rfl, vs, ws, ns', ms', hz, hvi, hwi, hlen, hR⟩
      simp only at hb'
      subst hb'
      have hv : lexLe ns' ms' = decide (items.size ≤ items2.size) := by
        cases hvi with
        | nil =>
          cases hwi with
          | nil =>
            simp only [List.length_nil] at hlen
            rw [lexLe_nil_nil]
            exact (decide_eq_true (by omega)).symm
          | cons c u hw =>
            simp only [List.length_nil, List.length_cons] at hlen
            rw [lexLe_nil_cons]
            exact (decide_eq_true (by omega)).symm
        | cons a t hv =>
          cases hwi with
          | nil =>
            simp only [List.length_nil, List.length_cons] at hlen
            rw [lexLe_cons_nil]
            exact (decide_eq_false (by omega)).symm
          | cons c u hw =>
            rw [List.zip_cons_cons] at hz
            cases hz
      rw [hv] at hR
      wp_walk
      exact ⟨_, rfl, by simpa [Builtin.Tuple.tupleCompareSizes] using hR⟩
    case h =>
      exact ⟨rfl, rfl, items.toList, items2.toList, ns, ms, rfl, hi, hj, by omega, h⟩
end

section
variable {prog : Program} {w : World} {A : Around} {E : Value → Shared → Prop} {s : Shared}

theorem le_tupInts {l b : Addr} {items items2 : Array Value} {ns ms : List Int} {Q : Value → Shared → Prop} (hl : IsTup s.heap l items) (hb : IsTup s.heap b items2) (hi : IntsAre items.toList ns) (hj : IntsAre items2.toList ms)
    (hu : A.units < cLine) (h : Q (.bool (lexLe ns ms)) s) : wpAny (model prog w) A (compareOp .LtE (.ref l) (.ref b)) Q E s := by
  obtain ⟨⟨cls, dd, data, sl⟩, ho, hc, n, hd⟩ := id hl
  obtain ⟨⟨cls2, dd2, data2, sl2⟩, ho2, hc2, n2, hd2⟩ := id hb
  simp only at hc hd hc2 hd2
  subst hc hd hc2 hd2
  exact richCompare_meets_room (op := .LtE) ⟨_, ho, rfl⟩ ⟨_, ho2, rfl⟩ PySem.F.slot_tuple_le PySem.F.entry_tuple_le (PySem.F.args_tuple_le_2 _ _) (tuple_le_ints l b items items2 n n2 dd dd2 sl sl2 ns ms hi hj)
    ⟨ho, ho2, show Value.bool (lexLe ns ms) ≠ Value.notImplemented ∧ Q (.bool (lexLe ns ms)) s from ⟨(fun x => nomatch x), h⟩⟩ hu
end
/-- t > u of tuples of ints -/
def lexGt : List Int → List Int → Bool
  | [], [] => false
  | [], _ :: _ => false
  | _ :: _, [] => true
  | x :: xs, y :: ys => if x = y then lexGt xs ys else decide (y < x)
theorem lexGt_cons (x y : Int) (xs ys : List Int) : lexGt (x :: xs) (y :: ys) = if x = y then lexGt xs ys else decide (y < x) := rfl
theorem lexGt_nil_nil : lexGt [] [] = false := rfl
theorem lexGt_nil_cons (y : Int) (ys : List Int) : lexGt [] (y :: ys) = false := rfl
theorem lexGt_cons_nil (x : Int) (xs : List Int) : lexGt (x :: xs) [] = true := rfl
theorem rcGt_int (A : Around) (s : Shared) (a : Int) (t : Tok) (c : Int) (u : Tok) (prog : Program) (w : World) (E : Value → Shared → Prop) (Q : Value → Shared → Prop) (h : Q (.bool (decide (c < a))) s) :
    wpAny (model prog w) A (richCompare .Gt (.int a t) (.int c u)) Q E s :=
  (PyProof.Rows.gt_int h : wpAny (model prog w) A (compareOp .Gt (.int a t) (.int c u)) Q E s)

section
open PySem.SeqAt
open PySem.AutoSeq1 (wpAny_loadPart')
open PySem.MeetsSeq PySem.MeetsSeq2 PySem.MeetsSeq3

theorem tuple_gt_ints (l b : Addr) (items items2 : Array Value) (n n2 : Nat) (dd dd2 : Option Addr) (sl sl2 : Array (Option Value)) (ns ms : List Int) (hi : IntsAre items.toList ns) (hj : IntsAre items2.toList ms) :
    Meets (Builtin.«tuple.__gt__» ⟨[.ref l, .ref b], []⟩)
      (fun _ R s => s.heap.get? l = some { cls := .type "tuple", dict := dd, data := .seq items n, slots := sl } ∧ s.heap.get? b = some { cls := .type "tuple", dict := dd2, data := .seq items2 n2, slots := sl2 } ∧
        R (.ok (.ret (.bool (lexGt ns ms)))) s) :=
  .of_wp fun prog w A R s h => by
    obtain ⟨hp, g, d, tk, os⟩ := s; obtain ⟨hl, hb, h⟩ := h
    have f2 := AutoSeq1.sub_tuple_tuple
    have z1 : items.size = ns.length := by rw [← hi.length]; simp
    have z2 : items2.size = ms.length := by rw [← hj.length]; simp
    wp_walk using wpAny_loadPart' hl, wpAny_loadPart' hb, wpAny_forIn_list _ (fun rest b s' => b.1 = none ∧ s' = ⟨hp, g, d, tk, os⟩ ∧ ∃ (vs ws : List Value) (ns' ms' : List Int), rest = vs.zip ws ∧
      IntsAre vs ns' ∧ IntsAre ws ms' ∧ ns'.length + items2.size = ms'.length + items.size ∧ R (.ok (.ret (.bool (lexGt ns' ms')))) ⟨hp, g, d, tk, os⟩) _
    case turn =>
      rintro ⟨y, x⟩ rest b s' ⟨hb', rfl, vs, ws, ns', ms', hz, hvi, hwi, hlen, hR⟩
      cases hvi with
      | nil => rw [List.zip_nil_left] at hz; cases hz
      | cons a t hvi' =>
        cases hwi with
        | nil => rw [List.zip_nil_right] at hz; cases hz
        | cons c u hwi' =>
          rw [List.zip_cons_cons] at hz
          injection hz with hyx hrest
          injection hyx with hy hx
          subst hy hx
          rw [lexGt_cons] at hR
          simp only [List.length_cons] at hlen
          obtain ⟨e, he, hiff⟩ := eqAt_int A.in1 ⟨hp, g, d, tk, os⟩ a t c u
          refine wpAny_bind (he prog w _ _ ?_)
          cases e with
          | true =>
            rw [if_pos (hiff.mp rfl)] at hR
            wp_walk
            exact ⟨rfl, rfl, _, _, _, _, hrest, hvi', hwi', by omega, hR⟩
          | false =>
            rw [if_neg (fun q => absurd (hiff.mpr q) Bool.false_ne_true)] at hR
            have hri := rcGt_int A.in1 ⟨hp, g, d, tk, os⟩ a t c u prog w
            wp_walk using hri
            exact ⟨_, rfl, by simpa using hR⟩
    case fin =>
      rintro ⟨b1, b2⟩ s' ⟨hb', rfl, vs, ws, ns', ms', hz, hvi, hwi, hlen, hR⟩
      simp only at hb'
      subst hb'
      have hv : lexGt ns' ms' = decide (items.size > items2.size) := by
        cases hvi with
        | nil =>
          cases hwi with
          | nil =>
            simp only [List.length_nil] at hlen
            rw [lexGt_nil_nil]
            exact (decide_eq_false (by omega)).symm
          | cons c u hw =>
            simp only [List.length_nil, List.length_cons] at hlen
            rw [lexGt_nil_cons]
            exact (decide_eq_false (by omega)).symm
        | cons a t hv =>
          cases hwi with
          | nil =>
            simp only [List.length_nil, List.length_cons] at hlen
            rw [lexGt_cons_nil]
            exact (decide_eq_true (by omega)).symm
          | cons c u hw =>
            rw [List.zip_cons_cons] at hz
            cases hz
      rw [hv] at hR
      wp_walk
      exact ⟨_, rfl, by simpa [Builtin.Tuple.tupleCompareSizes] using hR⟩
    case h =>
      exact ⟨rfl, rfl, items.toList, items2.toList, ns, ms, rfl, hi, hj, by omega, h⟩
end

section
variable {prog : Program} {w : World} {A : Around} {E : Value → Shared → Prop} {s : Shared}

theorem gt_tupInts {l b : Addr} {items items2 : Array Value} {ns ms : List Int} {Q : Value → Shared → Prop} (hl : IsTup s.heap l items) (hb : IsTup s.heap b items2) (hi : IntsAre items.toList ns) (hj : IntsAre items2.toList ms)
    (hu : A.units < cLine) (h : Q (.bool (lexGt ns ms)) s) : wpAny (model prog w) A (compareOp .Gt (.ref l) (.ref b)) Q E s := by
  obtain ⟨⟨cls, dd, data, sl⟩, ho, hc, n, hd⟩ := id hl
  obtain ⟨⟨cls2, dd2, data2, sl2⟩, ho2, hc2, n2, hd2⟩ := id hb
  simp only at hc hd hc2 hd2
  subst hc hd hc2 hd2
  exact richCompare_meets_room (op := .Gt) ⟨_, ho, rfl⟩ ⟨_, ho2, rfl⟩ PySem.F.slot_tuple_gt PySem.F.entry_tuple_gt (PySem.F.args_tuple_gt_2 _ _) (tuple_gt_ints l b items items2 n n2 dd dd2 sl sl2 ns ms hi hj)
    ⟨ho, ho2, show Value.bool (lexGt ns ms) ≠ Value.notImplemented ∧ Q (.bool (lexGt ns ms)) s from ⟨(fun x => nomatch x), h⟩⟩ hu
end
end HT
namespace SD
open PySem PySem.Spec PyProof.Rows L2
section
variable {X : Cx}
theorem ints_of {K : PySem.W.Frag} {H : Hp} : ∀ {ns : List Int} {xs : List V}, Reps K H (ns.map D.int) xs → xs = ns.map V.int
  | [], xs, h => by rw [List.map_nil, Reps] at h; exact h
  | n :: ns, xs, h => by
    rw [List.map_cons, Reps] at h
    obtain ⟨x, r, rfl, h1, h2⟩ := h
    rw [Rep] at h1
    rw [h1, ints_of h2]; rfl
theorem op_leT (hu : X.A.units < cLine) : OpR X (compareOp .LtE) (fun x y H Q => ∃ a b ns ms, x = .ref a ∧ y = .ref b ∧ SqT X.K H a (ns.map V.int) ∧ SqT X.K H b (ms.map V.int) ∧ Q (.bl (HT.lexLe ns ms)) H) := by
  intro pins s σ H x y v u Q I rx ry h
  obtain ⟨a, b, ns, ms, rfl, rfl, ha, hb, q⟩ := h
  cases rx
  cases ry
  obtain ⟨its, r1, p1, _⟩ := I.tuple ha
  obtain ⟨its2, r2, p2, _⟩ := I.tuple hb
  exact HT.le_tupInts p1 p2 (intsAre_of r1) (intsAre_of r2) hu ⟨.bl (HT.lexLe ns ms), H, I, rfl, q⟩
theorem op_gtT (hu : X.A.units < cLine) : OpR X (compareOp .Gt) (fun x y H Q => ∃ a b ns ms, x = .ref a ∧ y = .ref b ∧ SqT X.K H a (ns.map V.int) ∧ SqT X.K H b (ms.map V.int) ∧ Q (.bl (HT.lexGt ns ms)) H) := by
  intro pins s σ H x y v u Q I rx ry h
  obtain ⟨a, b, ns, ms, rfl, rfl, ha, hb, q⟩ := h
  cases rx
  cases ry
  obtain ⟨its, r1, p1, _⟩ := I.tuple ha
  obtain ⟨its2, r2, p2, _⟩ := I.tuple hb
  exact HT.gt_tupInts p1 p2 (intsAre_of r1) (intsAre_of r2) hu ⟨.bl (HT.lexGt ns ms), H, I, rfl, q⟩
/-- ints, or tuples of ints -/
def rCmpX (f : Int → Int → Bool) (g : List Int → List Int → Bool) : R2D := fun x y M Q => match x, y with
  | .int i, .int j => True ∧ Q (.bl (f i j)) M
  | .tup a, .tup b => ∃ ns ms, a = List.map D.int ns ∧ b = List.map D.int ms ∧ Q (.bl (g ns ms)) M
  | _, _ => False
theorem opd_X {op : CmpOp} {f : Int → Int → Bool} {g : List Int → List Int → Bool} (h1 : OpD X (compareOp op) (rI2 (fun _ _ => True) fun i j => .bl (f i j)))
    (h2 : OpR X (compareOp op) (fun x y H Q => ∃ a b ns ms, x = .ref a ∧ y = .ref b ∧ SqT X.K H a (ns.map V.int) ∧ SqT X.K H b (ms.map V.int) ∧ Q (.bl (g ns ms)) H)) : OpD X (compareOp op) (rCmpX f g) := by
  refine op_imp (h1.or h2) fun v u H Q ⟨x, y, M, R, r1, r2, a, q, fin⟩ => ?_
  unfold rCmpX at q
  split at q
  · exact .inl ⟨_, _, M, R, r1, r2, a, q, fin⟩
  · obtain ⟨ns, ms, rfl, rfl, q⟩ := q
    rw [Rep] at r1
    obtain ⟨p, xs, rfl, hx, rx⟩ := r1
    obtain ⟨p', ys, rfl, hy, ry⟩ : ∃ a xs, u = V.ref a ∧ SqT X.K H a xs ∧ Reps X.K H (List.map D.int ms) xs := by rw [Rep] at r2; exact r2
    rw [ints_of rx] at hx
    rw [ints_of ry] at hy
    exact .inr ⟨p, p', ns, ms, rfl, rfl, hx, hy, fin _ _ _ _ .refl (by rw [Rep]) a q⟩
  · exact q.elim
theorem od_ltX (hu : X.A.units + 64 < cLine) : OpD X (compareOp .Lt) (rCmpX (fun i j => decide (i < j)) HT.lexLt) := opd_X od_lt (op_ltT (by omega))
theorem od_leX (hu : X.A.units + 64 < cLine) : OpD X (compareOp .LtE) (rCmpX (fun i j => decide (i ≤ j)) HT.lexLe) := opd_X od_le (op_leT (by omega))
theorem od_gtX (hu : X.A.units + 64 < cLine) : OpD X (compareOp .Gt) (rCmpX (fun i j => decide (j < i)) HT.lexGt) := opd_X od_gt (op_gtT (by omega))
theorem call_maxT (hc : X.calm = true) (hu : X.A.units + 64 < cLine) : CallR X (.builtin "max") (fun xs H Q => ∃ p q ns ms, xs = [.ref p, .ref q] ∧ SqT X.K H p (ns.map V.int) ∧ SqT X.K H q (ms.map V.int) ∧ Q (if HT.lexGt ms ns = true then .ref q else .ref p) H) := by
  intro pins s σ H xs us Q I r ⟨p, q, ns, ms, e, hp, hq, k⟩
  subst e
  obtain ⟨u, v, rfl, ru, rv⟩ := vals2 r
  cases ru
  cases rv
  obtain ⟨its, r1, p1, _⟩ := I.tuple hp
  obtain ⟨its2, r2, p2, _⟩ := I.tuple hq
  refine max_two (c := HT.lexGt ms ns) (I.ok.hd hc) (fun t Q' E' kt q' => ?_) fun h' tk kt => ⟨_, H, I.kept kt, ?_, k⟩
  · obtain ⟨o1, a1, b1⟩ := p1
    obtain ⟨o2, a2, b2⟩ := p2
    exact HT.gt_tupInts (A := X.A.in1) (s := t) ⟨o2, kt _ _ a2, b2⟩ ⟨o1, kt _ _ a1, b1⟩ (intsAre_of r2) (intsAre_of r1) (by show X.A.units + 1 < cLine; omega) q'
  · cases HT.lexGt ms ns <;> rfl
theorem call_minT (hc : X.calm = true) (hu : X.A.units + 64 < cLine) : CallR X (.builtin "min") (fun xs H Q => ∃ p q ns ms, xs = [.ref p, .ref q] ∧ SqT X.K H p (ns.map V.int) ∧ SqT X.K H q (ms.map V.int) ∧ Q (if HT.lexLt ms ns = true then .ref q else .ref p) H) := by
  intro pins s σ H xs us Q I r ⟨p, q, ns, ms, e, hp, hq, k⟩
  subst e
  obtain ⟨u, v, rfl, ru, rv⟩ := vals2 r
  cases ru
  cases rv
  obtain ⟨its, r1, p1, _⟩ := I.tuple hp
  obtain ⟨its2, r2, p2, _⟩ := I.tuple hq
  refine min_two (c := HT.lexLt ms ns) (I.ok.hd hc) (fun t Q' E' kt q' => ?_) fun h' tk kt => ⟨_, H, I.kept kt, ?_, k⟩
  · obtain ⟨o1, a1, b1⟩ := p1
    obtain ⟨o2, a2, b2⟩ := p2
    exact HT.lt_tupInts (A := X.A.in1) (s := t) ⟨o2, kt _ _ a2, b2⟩ ⟨o1, kt _ _ a1, b1⟩ (intsAre_of r2) (intsAre_of r1) (by show X.A.units + 1 < cLine; omega) q'
  · cases HT.lexLt ms ns <;> rfl
def rMaxX : RC := fun ds M Q => match ds with
  | [.int i, .int j] => Q (.int (max i j)) M
  | [.tup a, .tup b] => ∃ ns ms, a = List.map D.int ns ∧ b = List.map D.int ms ∧ Q (.tup (List.map D.int (if HT.lexGt ms ns = true then ms else ns))) M
  | _ => False
def rMinX : RC := fun ds M Q => match ds with
  | [.int i, .int j] => Q (.int (min i j)) M
  | [.tup a, .tup b] => ∃ ns ms, a = List.map D.int ns ∧ b = List.map D.int ms ∧ Q (.tup (List.map D.int (if HT.lexLt ms ns = true then ms else ns))) M
  | _ => False
theorem cd_maxX (hc : X.calm = true) (hu : X.A.units + 64 < cLine) : CallD X (.builtin "max") rMaxX := call_imp (CallR.or (cd_max hc) (call_maxT hc hu)) fun vs H Q ⟨ds, M, R, rs, a, q, fin⟩ => by
  unfold rMaxX at q
  split at q
  · exact .inl ⟨_, M, R, rs, a, q, fin⟩
  · obtain ⟨ns, ms, rfl, rfl, q⟩ := q
    obtain ⟨v, u, rfl, r1, r2⟩ := reps2 rs
    rw [Rep] at r1
    obtain ⟨p, xs, rfl, hx, rx⟩ := r1
    obtain ⟨p', ys, rfl, hy, ry⟩ : ∃ a xs, u = V.ref a ∧ SqT X.K H a xs ∧ Reps X.K H (List.map D.int ms) xs := by rw [Rep] at r2; exact r2
    have hx' := hx
    have hy' := hy
    rw [ints_of rx] at hx'
    rw [ints_of ry] at hy'
    refine .inr ⟨p, p', ns, ms, rfl, hx', hy', fin _ _ _ _ .refl ?_ a q⟩
    by_cases z : HT.lexGt ms ns = true
    · rw [if_pos z, if_pos z, Rep]; exact ⟨_, _, rfl, hy, ry⟩
    · rw [if_neg z, if_neg z, Rep]; exact ⟨_, _, rfl, hx, rx⟩
  · exact q.elim
theorem cd_minX (hc : X.calm = true) (hu : X.A.units + 64 < cLine) : CallD X (.builtin "min") rMinX := call_imp (CallR.or (cd_min hc) (call_minT hc hu)) fun vs H Q ⟨ds, M, R, rs, a, q, fin⟩ => by
  unfold rMinX at q
  split at q
  · exact .inl ⟨_, M, R, rs, a, q, fin⟩
  · obtain ⟨ns, ms, rfl, rfl, q⟩ := q
    obtain ⟨v, u, rfl, r1, r2⟩ := reps2 rs
    rw [Rep] at r1
    obtain ⟨p, xs, rfl, hx, rx⟩ := r1
    obtain ⟨p', ys, rfl, hy, ry⟩ : ∃ a xs, u = V.ref a ∧ SqT X.K H a xs ∧ Reps X.K H (List.map D.int ms) xs := by rw [Rep] at r2; exact r2
    have hx' := hx
    have hy' := hy
    rw [ints_of rx] at hx'
    rw [ints_of ry] at hy'
    refine .inr ⟨p, p', ns, ms, rfl, hx', hy', fin _ _ _ _ .refl ?_ a q⟩
    by_cases z : HT.lexLt ms ns = true
    · rw [if_pos z, if_pos z, Rep]; exact ⟨_, _, rfl, hy, ry⟩
    · rw [if_neg z, if_neg z, Rep]; exact ⟨_, _, rfl, hx, rx⟩
  · exact q.elim
end
end SD

set_option Elab.async false
set_option linter.all false
set_option maxRecDepth 100000
namespace Ma
open SD
theorem pos_mul {p z : Int} (h : 0 < p) : 0 < p * z ↔ 0 < z := by
  constructor
  · intro q
    by_cases hz : 0 < z
    · exact hz
    · have : p * z ≤ 0 := Int.mul_nonpos_of_nonneg_of_nonpos (by omega) (by omega)
      omega
  · exact fun q => Int.mul_pos h q
theorem divInt_lt {a b c d : Int} (hb : 0 < b) (hd : 0 < d) : Rat.divInt a b < Rat.divInt c d ↔ a * d < c * b := by
  have e := Rat.divInt_sub_divInt c a (d₁ := d) (d₂ := b) (by omega) (by omega)
  have h1 : Rat.divInt a b < Rat.divInt c d ↔ 0 < Rat.divInt c d - Rat.divInt a b := by constructor <;> intro z <;> grind
  rw [h1, e, divInt_pos (Int.mul_pos hd hb)]
  omega
/-- units: a spot of the grid, told over m, stretched by t over b and moved by X over b -/
def ut (t b X m x : Int) : Rat := Rat.divInt (x * t + X * m) (b * m)
theorem ut_lt {t b X m n x y : Int} (ht : 0 < t) (hb : 0 < b) (hm : 0 < m) (hn : 0 < n) : ut t b X m x < ut t b X n y ↔ n * x < m * y := by
  unfold ut
  rw [divInt_lt (Int.mul_pos hb hm) (Int.mul_pos hb hn)]
  have e : (y * t + X * n) * (b * m) - (x * t + X * m) * (b * n) = (b * t) * (m * y - n * x) := by grind
  have := pos_mul (z := m * y - n * x) (Int.mul_pos hb ht)
  omega
theorem ut_eq {t b X m n x y : Int} (ht : 0 < t) (hb : 0 < b) (hm : 0 < m) (hn : 0 < n) : ut t b X m x = ut t b X n y ↔ n * x = m * y := by
  have h1 := ut_lt (X := X) (x := x) (y := y) ht hb hm hn
  have h2 := ut_lt (X := X) (x := y) (y := x) ht hb hn hm
  constructor
  · intro e
    have a : ¬ ut t b X m x < ut t b X n y := by rw [e]; exact Rat.lt_irrefl
    have c : ¬ ut t b X n y < ut t b X m x := by rw [e]; exact Rat.lt_irrefl
    rw [h1] at a
    rw [h2] at c
    omega
  · intro e
    have a : ¬ ut t b X m x < ut t b X n y := by rw [h1]; omega
    have c : ¬ ut t b X n y < ut t b X m x := by rw [h2]; omega
    grind
theorem ut_one {t b X x : Int} : Rat.divInt (x * t + X) b = ut t b X 1 x := by
  unfold ut
  rw [Int.mul_one, Int.mul_one]
theorem ut_ah {t b X Y m n x y u v : Int} (ht : 0 < t) (hb : 0 < b) (hm : 0 < m) (hn : 0 < n) :
    ah (ut t b X m x) (ut t b Y m y) (ut t b X n u) (ut t b Y n v) ↔ HT.lexLt [n * x, n * y] [m * u, m * v] = true := by
  unfold ah
  rw [ut_lt ht hb hm hn, ut_eq ht hb hm hn, ut_lt ht hb hm hn]
  simp only [HT.lexLt]
  by_cases h : n * x = m * u
  · rw [if_pos h]
    by_cases h2 : n * y = m * v
    · rw [if_pos h2]; simp; omega
    · rw [if_neg h2]; simp; omega
  · rw [if_neg h]; simp; omega
theorem lexLe_two (a b c d : Int) : HT.lexLe [a, b] [c, d] = !HT.lexLt [c, d] [a, b] := by
  simp only [HT.lexLe, HT.lexLt]
  by_cases h : a = c
  · subst h
    rw [if_pos rfl, if_pos rfl]
    by_cases h2 : b = d
    · subst h2; rw [if_pos rfl, if_pos rfl]; rfl
    · rw [if_neg h2, if_neg (fun e => h2 e.symm)]
      rw [← decide_not, decide_eq_decide]; omega
  · rw [if_neg h, if_neg (fun e => h e.symm), ← decide_not, decide_eq_decide]; omega
theorem lexGt_two (a b c d : Int) : HT.lexGt [a, b] [c, d] = HT.lexLt [c, d] [a, b] := by
  simp only [HT.lexGt, HT.lexLt]
  by_cases h : a = c
  · subst h
    rw [if_pos rfl, if_pos rfl]
    by_cases h2 : b = d
    · subst h2; simp
    · rw [if_neg h2, if_neg (fun e => h2 e.symm)]
  · rw [if_neg h, if_neg (fun e => h e.symm)]
theorem lexLt_two {a b c d : Int} : HT.lexLt [a, b] [c, d] = true ↔ a < c ∨ (a = c ∧ b < d) := by
  simp only [HT.lexLt]
  by_cases h : a = c
  · subst h
    rw [if_pos rfl]
    by_cases h2 : b = d
    · subst h2; rw [if_pos rfl]; simp
    · rw [if_neg h2]; simp
  · rw [if_neg h]; simp; omega
end Ma

set_option Elab.async false
set_option linter.all false
set_option maxRecDepth 100000
/-! Walls in whole units, made greater and moved. -/
namespace SD
open PySem PySem.Spec PyProof.Rows L2
theorem ne_fresh {M : MH} {a p : PySem.Addr} {o : MO} (h : M a = some o) (hp : M p = none) : a ≠ p := fun e => by subst e; rw [h] at hp; cases hp
def scl (t b x y : Int) : D := .tup [.int t, .int b, .int x, .int y]
/-- a scale: how great its numbers are -/
structure Scl (t b x y : Int) : Prop where
  t0 : 0 < t
  t1 : t ≤ 10 ^ 9
  b0 : 0 < b
  b1 : b ≤ 10 ^ 9
  x0 : -(10 ^ 17) ≤ x
  x1 : x ≤ 10 ^ 17
  y0 : -(10 ^ 17) ≤ y
  y1 : y ≤ 10 ^ 17
def uw (w : Int × Int × Int × Int) : D := .tup [.tup [.int w.1, .int w.2.1], .tup [.int w.2.2.1, .int w.2.2.2]]
def rwl (t b x y : Int) (w : Int × Int × Int × Int) : D := Ma.wll (Ma.ut t b x 1 w.1) (Ma.ut t b y 1 w.2.1) (Ma.ut t b x 1 w.2.2.1) (Ma.ut t b y 1 w.2.2.2)
def Uok (n : Int) (w : Int × Int × Int × Int) : Prop := (-n ≤ w.1 ∧ w.1 ≤ n) ∧ (-n ≤ w.2.1 ∧ w.2.1 ≤ n) ∧ (-n ≤ w.2.2.1 ∧ w.2.2.1 ≤ n) ∧ (-n ≤ w.2.2.2 ∧ w.2.2.2 ≤ n)
def uby (m : Int) (w : Int × Int × Int × Int) : Int × Int × Int × Int := (m * w.1, m * w.2.1, m * w.2.2.1, m * w.2.2.2)
theorem range_getD (l : List D) : (List.range l.length).map (fun i => (l[i]?).getD .non) = l := by
  refine List.ext_getElem (by simp) fun i h1 h2 => ?_
  simp [h2]
theorem getD_map {α : Type} {f : α → D} {l : List α} {i : Nat} {a : α} (h : l[i]? = some a) : ((l.map f)[i]?).getD .non = f a := by
  rw [List.getElem?_map, h]; rfl
theorem ut_bq {t b x m p : Int} (ht : 0 < t ∧ t ≤ 10 ^ 9) (hb : 0 < b ∧ b ≤ 10 ^ 9) (hx : -(10 ^ 17) ≤ x ∧ x ≤ 10 ^ 17) (hm : 0 < m ∧ m ≤ 10 ^ 6) (hp : -(10 ^ 6) ≤ p ∧ p ≤ 10 ^ 6) : Ma.Bq 200 (Ma.ut t b x m p) := by
  have bt : Bd 64 t := by show t.natAbs < 2 ^ 64; omega
  have bm : Bd 64 m := by show m.natAbs < 2 ^ 64; omega
  have bp : Bd 64 p := by show p.natAbs < 2 ^ 64; omega
  have bb : Bd 64 b := by show b.natAbs < 2 ^ 64; omega
  have bx : Bd 64 x := by show x.natAbs < 2 ^ 64; omega
  refine Ma.Bq.divInt (by have := Int.mul_pos hb.1 hm.1; omega) ?_ ((bb.mul bm).mono (by decide))
  exact ((bp.mul bt).add (bx.mul bm)).mono (by decide)
theorem Scl.bx {t b x y m p : Int} (S : Scl t b x y) (hm : 0 < m ∧ m ≤ 10 ^ 6) (hp : -(10 ^ 6) ≤ p ∧ p ≤ 10 ^ 6) : Ma.Bq 200 (Ma.ut t b x m p) := ut_bq ⟨S.t0, S.t1⟩ ⟨S.b0, S.b1⟩ ⟨S.x0, S.x1⟩ hm hp
theorem Scl.by' {t b x y m p : Int} (S : Scl t b x y) (hm : 0 < m ∧ m ≤ 10 ^ 6) (hp : -(10 ^ 6) ≤ p ∧ p ≤ 10 ^ 6) : Ma.Bq 200 (Ma.ut t b y m p) := ut_bq ⟨S.t0, S.t1⟩ ⟨S.b0, S.b1⟩ ⟨S.y0, S.y1⟩ hm hp
theorem eqv_two (a b c d : Int) : PyData.eqv (.tuple [.int a, .int b]) (.tuple [.int c, .int d]) = decide (a = c ∧ b = d) := by
  simp only [PyData.eqv, PyData.eqvAll, beq_dec, Bool.and_true, Bool.decide_and]
end SD

set_option Elab.async false
set_option linter.all false
set_option maxRecDepth 100000
namespace SD
open PySem PySem.Spec PyProof.Rows L2
section
variable {X : Cx}
def rMaxY : RC := fun ds M Q => match ds with
  | [.ref l] => ∃ i j, M l = some (.lst [.int i, .int j]) ∧ Q (.int (max i j)) M
  | ds => rMaxX ds M Q
def rMinY : RC := fun ds M Q => match ds with
  | [.ref l] => ∃ i j, M l = some (.lst [.int i, .int j]) ∧ Q (.int (min i j)) M
  | ds => rMinX ds M Q
end
end SD

set_option Elab.async false
set_option linter.all false
set_option maxRecDepth 100000
/-! How two walls meet, by fractions as the program has it and by whole units as the law has it. -/
namespace SD
open PySem PySem.Spec PyProof.Rows L2 Ma
instance (a b c d : Rat) : Decidable (Ma.ah a b c d) := inferInstanceAs (Decidable (_ ∨ _))
def inlD (a b c d e f g h : Rat) : D :=
  let s := if Ma.ah e f a b then (a, b) else (e, f)
  let n := if Ma.ah c d g h then (c, d) else (g, h)
  if Ma.ah s.1 s.2 n.1 n.2 then .tup [.str "stretch", Ma.wll s.1 s.2 n.1 n.2] else if Ma.ah n.1 n.2 s.1 s.2 then .non else .tup [.str "spot", Ma.spt s.1 s.2]
def btw (x y s : Rat) : Rat := x + s * (y - x)
def meetD (a b c d e f g h : Rat) : D :=
  if Ma.sgn (Ma.cr a b c d e f) = 0 ∧ Ma.sgn (Ma.cr a b c d g h) = 0 then inlD a b c d e f g h
  else if 0 < Ma.sgn (Ma.cr a b c d e f) * Ma.sgn (Ma.cr a b c d g h) ∨ 0 < Ma.sgn (Ma.cr e f g h a b) * Ma.sgn (Ma.cr e f g h c d) then .non
  else .tup [.str "spot", Ma.spt (btw e g (Ma.cr a b c d e f / (Ma.cr a b c d e f - Ma.cr a b c d g h))) (btw f h (Ma.cr a b c d e f / (Ma.cr a b c d e f - Ma.cr a b c d g h)))]
def crs (a b c d : Int) : Int := a * d - b * c
def maxP (p q e f : Int) : Int × Int := if HT.lexGt [e, f] [p, q] = true then (e, f) else (p, q)
def minP (r s g h : Int) : Int × Int := if HT.lexLt [g, h] [r, s] = true then (g, h) else (r, s)
/-- what the law tells in units -/
def toldD (p q r s e f g h : Int) : D :=
  let w := crs (r - p) (s - q) (g - e) (h - f)
  if w = 0 then
    if crs (r - p) (s - q) (e - p) (f - q) ≠ 0 ∨ HT.lexGt [(maxP p q e f).1, (maxP p q e f).2] [(minP r s g h).1, (minP r s g h).2] = true then .non
    else if (maxP p q e f).1 = (minP r s g h).1 ∧ (maxP p q e f).2 = (minP r s g h).2 then .tup [.int (maxP p q e f).1, .int (maxP p q e f).2, .int 1]
    else .tup [.tup [.int (maxP p q e f).1, .int (maxP p q e f).2], .tup [.int (minP r s g h).1, .int (minP r s g h).2]]
  else
    let k := if w < 0 then -crs (e - p) (f - q) (g - e) (h - f) else crs (e - p) (f - q) (g - e) (h - f)
    let m := if w < 0 then -crs (e - p) (f - q) (r - p) (s - q) else crs (e - p) (f - q) (r - p) (s - q)
    if min k m < 0 ∨ (w.natAbs : Int) < max k m then .non else .tup [.int (p * (w.natAbs : Int) + k * (r - p)), .int (q * (w.natAbs : Int) + k * (s - q)), .int (w.natAbs : Int)]
def dueD (t b X Y : Int) : D → D
  | .tup [.int x, .int y, .int m] => .tup [.str "spot", Ma.spt (Ma.ut t b X m x) (Ma.ut t b Y m y)]
  | .tup [.tup [.int x, .int y], .tup [.int u, .int v]] => .tup [.str "stretch", Ma.wll (Ma.ut t b X 1 x) (Ma.ut t b Y 1 y) (Ma.ut t b X 1 u) (Ma.ut t b Y 1 v)]
  | _ => .non
theorem ah_ut {t b X Y p q e f : Int} (ht : 0 < t) (hb : 0 < b) : Ma.ah (Ma.ut t b X 1 p) (Ma.ut t b Y 1 q) (Ma.ut t b X 1 e) (Ma.ut t b Y 1 f) ↔ (p < e ∨ (p = e ∧ q < f)) := by
  rw [Ma.ut_ah ht hb (by decide) (by decide), Ma.lexLt_two]
  omega
end SD

set_option Elab.async false
set_option linter.all false
set_option maxRecDepth 100000
namespace HT
open PySem PyProof.Rows
/-- t >= u of tuples of ints -/
def lexGe : List Int → List Int → Bool
  | [], [] => true
  | [], _ :: _ => false
  | _ :: _, [] => true
  | x :: xs, y :: ys => if x = y then lexGe xs ys else decide (y ≤ x)
theorem lexGe_cons (x y : Int) (xs ys : List Int) : lexGe (x :: xs) (y :: ys) = if x = y then lexGe xs ys else decide (y ≤ x) := rfl
theorem lexGe_nil_nil : lexGe [] [] = true := rfl
theorem lexGe_nil_cons (y : Int) (ys : List Int) : lexGe [] (y :: ys) = false := rfl
theorem lexGe_cons_nil (x : Int) (xs : List Int) : lexGe (x :: xs) [] = true := rfl
theorem rcGe_int (A : Around) (s : Shared) (a : Int) (t : Tok) (c : Int) (u : Tok) (prog : Program) (w : World) (E : Value → Shared → Prop) (Q : Value → Shared → Prop) (h : Q (.bool (decide (c ≤ a))) s) :
    wpAny (model prog w) A (richCompare .GtE (.int a t) (.int c u)) Q E s :=
  (PyProof.Rows.ge_int h : wpAny (model prog w) A (compareOp .GtE (.int a t) (.int c u)) Q E s)

section
open PySem.SeqAt
open PySem.AutoSeq1 (wpAny_loadPart')
open PySem.MeetsSeq PySem.MeetsSeq2 PySem.MeetsSeq3

theorem tuple_ge_ints (l b : Addr) (items items2 : Array Value) (n n2 : Nat) (dd dd2 : Option Addr) (sl sl2 : Array (Option Value)) (ns ms : List Int) (hi : IntsAre items.toList ns) (hj : IntsAre items2.toList ms) :
    Meets (Builtin.«tuple.__ge__» ⟨[.ref l, .ref b], []⟩)
      (fun _ R s => s.heap.get? l = some { cls := .type "tuple", dict := dd, data := .seq items n, slots := sl } ∧ s.heap.get? b = some { cls := .type "tuple", dict := dd2, data := .seq items2 n2, slots := sl2 } ∧
        R (.ok (.ret (.bool (lexGe ns ms)))) s) :=
  .of_wp fun prog w A R s h => by
    obtain ⟨hp, g, d, tk, os⟩ := s; obtain ⟨hl, hb, h⟩ := h
    have f2 := AutoSeq1.sub_tuple_tuple
    have z1 : items.size = ns.length := by rw [← hi.length]; simp
    have z2 : items2.size = ms.length := by rw [← hj.length]; simp
    wp_walk using wpAny_loadPart' hl, wpAny_loadPart' hb, wpAny_forIn_list _ (fun rest b s' => b.1 = none ∧ s' = ⟨hp, g, d, tk, os⟩ ∧ ∃ (vs ws : List Value) (ns' ms' : List Int), rest = vs.zip ws ∧
      IntsAre vs ns' ∧ IntsAre ws ms' ∧ ns'.length + items2.size = ms'.length + items.size ∧ R (.ok (.ret (.bool (lexGe ns' ms')))) ⟨hp, g, d, tk, os⟩) _
    case turn =>
      rintro ⟨y, x⟩ rest b s' ⟨hb', rfl, vs, ws, ns', ms', hz, hvi, hwi, hlen, hR⟩
      cases hvi with
      | nil => rw [List.zip_nil_left] at hz; cases hz
      | cons a t hvi' =>
        cases hwi with
        | nil => rw [List.zip_nil_right] at hz; cases hz
        | cons c u hwi' =>
          rw [List.zip_cons_cons] at hz
          injection hz with hyx hrest
          injection hyx with hy hx
          subst hy hx
          rw [lexGe_cons] at hR
          simp only [List.length_cons] at hlen
          obtain ⟨e, he, hiff⟩ := eqAt_int A.in1 ⟨hp, g, d, tk, os⟩ a t c u
          refine wpAny_bind (he prog w _ _ ?_)
          cases e with
          | true =>
            rw [if_pos (hiff.mp rfl)] at hR
            wp_walk
            exact ⟨rfl, rfl, _, _, _, _, hrest, hvi', hwi', by omega, hR⟩
          | false =>
            rw [if_neg (fun q => absurd (hiff.mpr q) Bool.false_ne_true)] at hR
            have hri := rcGe_int A.in1 ⟨hp, g, d, tk, os⟩ a t c u prog w
            wp_walk using hri
            exact ⟨_, rfl, by simpa using hR⟩
    case fin =>
      rintro ⟨b1, b2⟩ s' ⟨hb', rfl, vs, ws, ns', ms', hz, hvi, hwi, hlen, hR⟩
      simp only at hb'
      subst hb'
      have hv : lexGe ns' ms' = decide (items.size ≥ items2.size) := by
        cases hvi with
        | nil =>
          cases hwi with
          | nil =>
            simp only [List.length_nil] at hlen
            rw [lexGe_nil_nil]
            exact (decide_eq_true (by omega)).symm
          | cons c u hw =>
            simp only [List.length_nil, List.length_cons] at hlen
            rw [lexGe_nil_cons]
            exact (decide_eq_false (by omega)).symm
        | cons a t hv =>
          cases hwi with
          | nil =>
            simp only [List.length_nil, List.length_cons] at hlen
            rw [lexGe_cons_nil]
            exact (decide_eq_true (by omega)).symm
          | cons c u hw =>
            rw [List.zip_cons_cons] at hz
            cases hz
      rw [hv] at hR
      wp_walk
      exact ⟨_, rfl, by simpa [Builtin.Tuple.tupleCompareSizes] using hR⟩
    case h =>
      exact ⟨rfl, rfl, items.toList, items2.toList, ns, ms, rfl, hi, hj, by omega, h⟩
end

section
variable {prog : Program} {w : World} {A : Around} {E : Value → Shared → Prop} {s : Shared}

theorem ge_tupInts {l b : Addr} {items items2 : Array Value} {ns ms : List Int} {Q : Value → Shared → Prop} (hl : IsTup s.heap l items) (hb : IsTup s.heap b items2) (hi : IntsAre items.toList ns) (hj : IntsAre items2.toList ms)
    (hu : A.units < cLine) (h : Q (.bool (lexGe ns ms)) s) : wpAny (model prog w) A (compareOp .GtE (.ref l) (.ref b)) Q E s := by
  obtain ⟨⟨cls, dd, data, sl⟩, ho, hc, n, hd⟩ := id hl
  obtain ⟨⟨cls2, dd2, data2, sl2⟩, ho2, hc2, n2, hd2⟩ := id hb
  simp only at hc hd hc2 hd2
  subst hc hd hc2 hd2
  exact richCompare_meets_room (op := .GtE) ⟨_, ho, rfl⟩ ⟨_, ho2, rfl⟩ PySem.F.slot_tuple_ge PySem.F.entry_tuple_ge (PySem.F.args_tuple_ge_2 _ _) (tuple_ge_ints l b items items2 n n2 dd dd2 sl sl2 ns ms hi hj)
    ⟨ho, ho2, show Value.bool (lexGe ns ms) ≠ Value.notImplemented ∧ Q (.bool (lexGe ns ms)) s from ⟨(fun x => nomatch x), h⟩⟩ hu
end
end HT
namespace SD
open PySem PySem.Spec PyProof.Rows L2
section
variable {X : Cx}
theorem op_geT (hu : X.A.units < cLine) : OpR X (compareOp .GtE) (fun x y H Q => ∃ a b ns ms, x = .ref a ∧ y = .ref b ∧ SqT X.K H a (ns.map V.int) ∧ SqT X.K H b (ms.map V.int) ∧ Q (.bl (HT.lexGe ns ms)) H) := by
  intro pins s σ H x y v u Q I rx ry h
  obtain ⟨a, b, ns, ms, rfl, rfl, ha, hb, q⟩ := h
  cases rx
  cases ry
  obtain ⟨its, r1, p1, _⟩ := I.tuple ha
  obtain ⟨its2, r2, p2, _⟩ := I.tuple hb
  exact HT.ge_tupInts p1 p2 (intsAre_of r1) (intsAre_of r2) hu ⟨.bl (HT.lexGe ns ms), H, I, rfl, q⟩
theorem od_geX (hu : X.A.units + 64 < cLine) : OpD X (compareOp .GtE) (rCmpX (fun i j => decide (j ≤ i)) HT.lexGe) := opd_X od_ge (op_geT (by omega))

/-! ### in, not in -/
def rInG (g : Bool → Bool) : R2D := fun x y M Q => ∃ p ps, Pd M x p ∧ (Pd M y (.list ps) ∨ Pd M y (.tuple ps)) ∧ SeqAt.shaped p = true ∧ PyData.canLayAll0 ps = true ∧ Q (.bl (g (ps.any fun q => PyData.eqv q p))) M
theorem shaped_min {p : PyData} {n : Nat} (h : SeqAt.shaped p = true) : min n p.depth ≤ 63 + 1 := Nat.le_trans (Nat.min_le_right _ _) (SeqAt.depth_of_shaped h)
theorem od_notin (hu : X.A.units + 66 < cLine) : OpD X (compareOp .NotIn) (rInG fun b => !b) := by
  intro pins s σ H v u v' u' Q I rv ru ⟨x, y, M, R, r1, r2, a, ⟨p, ps, p1, p2, s1, s2, hq⟩, fin⟩
  obtain ⟨as, q1⟩ := pd_reads I a p1 r1 rv
  have hm := shaped_min (n := PyData.depthAll ps) s1
  rcases p2 with p2 | p2
  · obtain ⟨bs, q2⟩ := pd_reads I a p2 r2 ru
    exact SeqAt.notIn_list_reads q2 q1 s2 (SeqAt.canLay_of_shaped s1) (by omega) ⟨.bl _, H, I, rfl, fin _ _ _ _ .refl (by rw [Rep]) a hq⟩
  · obtain ⟨bs, q2⟩ := pd_reads I a p2 r2 ru
    exact SeqAt.notIn_tuple_reads q2 q1 s2 (SeqAt.canLay_of_shaped s1) (by omega) ⟨.bl _, H, I, rfl, fin _ _ _ _ .refl (by rw [Rep]) a hq⟩

/-! ### all of a list of truths -/
theorem bools_of {K : PySem.W.Frag} {H : Hp} : ∀ {bs : List Bool} {xs : List V}, Reps K H (bs.map D.bl) xs → xs = bs.map V.bl
  | [], xs, h => by rw [List.map_nil, Reps] at h; exact h
  | n :: ns, xs, h => by
    rw [List.map_cons, Reps] at h
    obtain ⟨x, r, rfl, h1, h2⟩ := h
    rw [Rep] at h1
    rw [h1, bools_of h2]; rfl
theorem vals_bools : ∀ {bs : List Bool} {us : List Value}, Vals (bs.map V.bl) us → us = bs.map Value.bool
  | [], _, .nil => rfl
  | b :: bs, _, .cons r t => by
    cases (show _ = Value.bool b from r)
    rw [vals_bools t]; rfl
def rAll : RC := fun ds M Q => match ds with
  | [.ref l] => ∃ bs : List Bool, M l = some (.lst (List.map D.bl bs)) ∧ Q (.bl (bs.all id)) M
  | _ => False
theorem call_allL (hc : X.calm = true) : CallR X (.builtin "all") (fun xs H Q => ∃ (p : Addr) (bs : List Bool), xs = [.ref p] ∧ SqL X.K H p (bs.map V.bl) ∧ Q (.bl (bs.all id)) H) := by
  intro pins s σ H xs us Q I r ⟨l, bs, e, hp, k⟩
  subst e
  obtain ⟨u, rfl, ru⟩ := vals1 r
  cases ru
  obtain ⟨its, r1, p1, _⟩ := I.list hp
  have hv := vals_bools r1
  have hl := p1.isList
  have lt : l ≠ s.heap.objs.size := Nat.ne_of_lt (let ⟨_, e, _⟩ := hl; Heap.lt_size e)
  refine call_all_walk (x := .ref l) (wpAny_pyIter_list hl ⟨s.heap.objs.size, [s.heap.objs.size, l], [s.heap.objs.size], its.toArray.size, _, _, fun i => (bs[i]?).getD true, rfl, Walks.list (A := X.A.in1) (I.ok.hd hc) _ l lt its.toArray, ⟨⟨_, Heap.get?_push_size _ rfl, rfl, rfl⟩, hl.push _⟩, fun i v s' Q' E' hP hQ => ?_, fun h' tk hk => ?_⟩)
  · have hP' : its[i]? = some v := by simpa using hP
    rw [hv, List.getElem?_map] at hP'
    cases eb : bs[i]? with
    | none => rw [eb] at hP'; cases hP'
    | some b =>
      rw [eb] at hP'
      cases hP'
      have hQ' : Q' b s' := by simpa [eb] using hQ
      exact wpAny_truthy_bool hQ'
  · rw [show ((List.range its.toArray.size).all fun i => (bs[i]?).getD true) = bs.all id by rw [List.size_toArray, hv, List.length_map]; exact LSm.range_all bs]
    exact ⟨.bl (bs.all id), H, I.kept (LSm.kept_iter hk), rfl, k⟩
theorem cd_all (hc : X.calm = true) : CallD X (.builtin "all") rAll := call_imp (call_allL hc) fun vs H Q ⟨ds, M, R, rs, a, q, fin⟩ => by
  unfold rAll at q
  split at q
  · obtain ⟨bs, e, q⟩ := q
    obtain ⟨v, rfl, r⟩ := reps1 rs
    rw [Rep] at r; subst r
    obtain ⟨xs, hx, rx⟩ := a _ _ e
    rw [bools_of rx] at hx
    exact ⟨_, bs, rfl, SqL.of hx, fin _ _ _ _ .refl (by rw [Rep]) a q⟩
  · exact q.elim

/-! ### append -/
def tAppD (to : TD) (t : TAD) : TD := fun δ M Q => to δ M fun x M1 => ∃ l ys, x = .ref l ∧ M1 l = some (.lst ys) ∧ t δ M1 fun ds M2 => ∃ xs d, ds = [d] ∧ M2 l = some (.lst xs) ∧ xs.length < 1000000 ∧ Q .non (updM M2 l (.lst (xs ++ [d])))
variable {o e : Expr} {to : TD} {t : TAD} {apos cpos : Pos}
theorem de_m_append (ho : DE X o to) (ha : DA X [e] t)
    (hbase : attributeBase o "append" X.env (eval o X.env) = eval o X.env := by rfl)
    (hfew : ((backTo cpos (starEach [e] X.env)).all (fun x => !x.1) && (backToKw cpos (keywordEach [] X.env)).all (fun x => x.1.isSome)
      && decide ([e].length + ([] : List Keyword).length + (if ([] : List Keyword).isEmpty then 0 else 1) < 30)) = true := by rfl)
    (hline : (apos.endLine == cpos.line) = true := by rfl) (hs : starEach [e] X.env = (false, eval e X.env) :: starEach [] X.env := by rfl) (hplain : (backTo cpos (starEach [] X.env)).any (·.1) = false := by rfl) :
    DE X (.Call (.Attribute o "append" apos) [e] [] cpos) (tAppD to t) :=
  pe_imp (pe_bm PySem.F.plainAttrs_list PySem.F.slot_list_append PySem.F.type_list_append mt_append ho ha hbase hfew hline hs hplain) fun σ H Q ⟨δ, M, R, hsl, hM, q, fin⟩ => by
    refine ⟨δ, M, _, hsl, hM, q, fun x M1 v H1 g1 r1 a1 ⟨l, ys, ex, hl, q1⟩ => ?_⟩
    subst ex
    rw [Rep] at r1
    subst r1
    obtain ⟨vs, hvs, _⟩ := a1 _ _ hl
    refine ⟨.inl ⟨rfl, vs, SqL.of hvs⟩, δ, M1, _, hsl.mono g1, a1, q1, fun ds M2 us H2 g2 r2 a2 ⟨xs, d, ed, hx, hn, q2⟩ => ?_⟩
    subst ed
    obtain ⟨u, rfl, ru⟩ := reps1 r2
    obtain ⟨ws, hws, rws⟩ := a2 _ _ hx
    have hlen := rws.length
    refine ⟨l, ws, u, rfl, rfl, hws, Nat.lt_of_lt_of_le (by omega) (show 1000000 ≤ sizeLine from Nat.le_of_ble_eq_true rfl), ?_⟩
    exact fin _ _ _ _ (g1.trans (g2.trans (.lst hws))) (by rw [Rep]) (a2.setL hws (rws.append (.cons ru .nil))) q2
end
end SD


set_option Elab.async false
set_option linter.all false
set_option maxRecDepth 100000
/-! Walls one above the other, in units. -/
namespace SD
open PySem PySem.Spec PyProof.Rows L2
theorem ru66 {k : Nat} {A : Around} (r : Room k A) : A.units + 66 < cLine := by have := r.un; omega
abbrev Wl := Int × Int × Int × Int
/-- the spots' order as a number -/
def la (x y : Int) : Int := 100 * x + y
def l1 (w : Wl) : Int := la w.1 w.2.1
def l2 (w : Wl) : Int := la w.2.2.1 w.2.2.2
def sd (w : Wl) (x y : Int) : Int := crs (w.2.2.1 - w.1) (w.2.2.2 - w.2.1) (x - w.1) (y - w.2.1)
def sd1 (w v : Wl) : Int := sd w v.1 v.2.1
def sd2 (w v : Wl) : Int := sd w v.2.2.1 v.2.2.2
structure Un5 (w : Wl) : Prop where
  a : 0 ≤ w.1 ∧ w.1 ≤ 20
  b : 0 ≤ w.2.1 ∧ w.2.1 ≤ 20
  c : 0 ≤ w.2.2.1 ∧ w.2.2.1 ≤ 20
  d : 0 ≤ w.2.2.2 ∧ w.2.2.2 ≤ 20
  lt : l1 w < l2 w
def EndOk (w : Wl) (l s : Int) : Prop := l = l1 w ∨ l = l2 w ∨ l < l1 w ∨ l2 w < l ∨ s ≠ 0
structure Fair (U V : Wl) : Prop where
  ne : ¬ (l1 U = l1 V ∧ l2 U = l2 V)
  e1 : EndOk U (l1 V) (sd1 U V)
  e2 : EndOk U (l2 V) (sd2 U V)
  e3 : EndOk V (l1 U) (sd1 V U)
  e4 : EndOk V (l2 U) (sd2 V U)
  pr : 0 ≤ Int.sign (sd1 U V) * Int.sign (sd2 U V) ∨ 0 ≤ Int.sign (sd1 V U) * Int.sign (sd2 V U)
theorem Fair.swap {U V : Wl} (h : Fair U V) : Fair V U := ⟨fun z => h.ne ⟨z.1.symm, z.2.symm⟩, h.e3, h.e4, h.e1, h.e2, h.pr.symm⟩
def abv (U V : Wl) : Bool :=
  if max (l1 U) (l1 V) < min (l2 U) (l2 V) then
    if l1 U = l1 V then (if l2 U < l2 V then decide (0 < sd2 V U) else decide (sd2 U V < 0))
    else if l1 V < l1 U then decide (0 < sd1 V U) else decide (sd1 U V < 0)
  else false
def sides (U V : Wl) : List Int :=
  ((if l1 V ≤ l1 U ∧ l1 U ≤ l2 V then [Int.sign (sd1 V U)] else []) ++ (if l1 V ≤ l2 U ∧ l2 U ≤ l2 V then [Int.sign (sd2 V U)] else [])) ++
  ((if l1 U ≤ l1 V ∧ l1 V ≤ l2 U then [-Int.sign (sd1 U V)] else []) ++ (if l1 U ≤ l2 V ∧ l2 V ≤ l2 U then [-Int.sign (sd2 U V)] else []))
theorem pos_of {z k : Int} (hk : 0 < k) (h : 0 < z * k) : 0 < z := by
  rcases Int.lt_trichotomy z 0 with q | q | q
  · have := Int.mul_neg_of_neg_of_pos q hk; omega
  · subst q; simp at h
  · exact q
theorem neg_of {z k : Int} (hk : 0 < k) (h : z * k < 0) : z < 0 := by
  rcases Int.lt_trichotomy z 0 with q | q | q
  · exact q
  · subst q; simp at h
  · have := Int.mul_pos q hk; omega
/-- one within the other: both its ends are on one side -/
theorem within {a b c d u1 u2 v1 v2 : Int} (I1 : a * (v2 - v1) = d * (u1 - v1) - c * (u2 - v1)) (I2 : b * (v2 - v1) = d * (u1 - v2) - c * (u2 - v2))
    (h1 : v1 < u1) (h2 : v1 < u2) (h3 : u1 < v2) (h4 : u2 < v2) (F : (¬ (0 < c ∧ d < 0) ∧ ¬ (c < 0 ∧ 0 < d)) ∨ (¬ (0 < a ∧ b < 0) ∧ ¬ (a < 0 ∧ 0 < b))) (c0 : c ≠ 0) (d0 : d ≠ 0) : 0 < c ↔ 0 < d := by
  have k : 0 < v2 - v1 := by omega
  have A1 : ¬ (0 < c ∧ d < 0) := fun ⟨x, y⟩ => by
    have p1 := Int.mul_neg_of_neg_of_pos y (show 0 < u1 - v1 by omega)
    have p2 := Int.mul_pos x (show 0 < u2 - v1 by omega)
    have p3 := Int.mul_pos_of_neg_of_neg y (show u1 - v2 < 0 by omega)
    have p4 := Int.mul_neg_of_pos_of_neg x (show u2 - v2 < 0 by omega)
    have a1 := neg_of (z := a) k (by omega)
    have b1 := pos_of (z := b) k (by omega)
    omega
  have A2 : ¬ (c < 0 ∧ 0 < d) := fun ⟨x, y⟩ => by
    have p1 := Int.mul_pos y (show 0 < u1 - v1 by omega)
    have p2 := Int.mul_neg_of_neg_of_pos x (show 0 < u2 - v1 by omega)
    have p3 := Int.mul_neg_of_pos_of_neg y (show u1 - v2 < 0 by omega)
    have p4 := Int.mul_pos_of_neg_of_neg x (show u2 - v2 < 0 by omega)
    have a1 := pos_of (z := a) k (by omega)
    have b1 := neg_of (z := b) k (by omega)
    omega
  omega
theorem la_inj {x y u v : Int} (h1 : 0 ≤ y ∧ y ≤ 20) (h2 : 0 ≤ v ∧ v ≤ 20) (h : la x y = la u v) : x = u ∧ y = v := by
  unfold la at h; omega
/-! ### tuples compared as numbers -/
theorem lt_la {a b c d : Int} (hb : 0 ≤ b ∧ b ≤ 20) (hd : 0 ≤ d ∧ d ≤ 20) : HT.lexLt [a, b] [c, d] = decide (la a b < la c d) := by
  have h := Ma.lexLt_two (a := a) (b := b) (c := c) (d := d)
  rw [Bool.eq_iff_iff, h, decide_eq_true_eq]
  unfold la
  omega
theorem le_la {a b c d : Int} (hb : 0 ≤ b ∧ b ≤ 20) (hd : 0 ≤ d ∧ d ≤ 20) : HT.lexLe [a, b] [c, d] = decide (la a b ≤ la c d) := by
  rw [Ma.lexLe_two, lt_la hd hb, ← decide_not, decide_eq_decide]; omega
theorem gt_la {a b c d : Int} (hb : 0 ≤ b ∧ b ≤ 20) (hd : 0 ≤ d ∧ d ≤ 20) : HT.lexGt [a, b] [c, d] = decide (la c d < la a b) := by
  rw [Ma.lexGt_two, lt_la hd hb]
theorem bd20 {z : Int} (h : 0 ≤ z ∧ z ≤ 20) : Bd 6 z := by show z.natAbs < 2 ^ 6; omega
theorem eq_la {x y u v : Int} (h1 : 0 ≤ y ∧ y ≤ 20) (h2 : 0 ≤ v ∧ v ≤ 20) : (x = u ∧ y = v) ↔ la x y = la u v := by unfold la; omega
/-- items that are told only where a test holds, the store as it was -/
theorem comp_fm {I : ItD} {tk : Tgt} {js : List Nat} {tc : TTD} {te : TD} {δ : DS} {M1 : MH} {Q : DK} (f : Nat → Option D) (hn : I.n ≤ 1000000) (hC : ∀ p ys, M1 p = none → I.C (updM M1 p (.lst ys)))
    (h : ∀ i d M, i < I.n → I.item i = some d → Sub M1 M → ∃ os, ownD tk d os ∧ (∀ K : Bool → MH → Prop, K (f i).isSome M → tc (cδ os js δ) M K) ∧ ∀ e, f i = some e → ∀ K : DK, (∀ M', Sub M M' → K e M') → te (cδ os js δ) M K)
    (hq : ∀ p, M1 p = none → Q (.ref p) (updM M1 p (.lst ((List.range I.n).filterMap f)))) : kComp I tk js tc te δ M1 Q := by
  refine ⟨hn, fun p hp => ⟨fun i ys M => ys = (List.range i).filterMap f ∧ M = updM M1 p (.lst ys), ⟨rfl, rfl⟩, ?_, ?_, ?_⟩⟩
  · rintro i ys M _ ⟨_, rfl⟩
    exact hC p ys hp
  · rintro i ys d M hi hd ⟨rfl, rfl⟩
    obtain ⟨os, ow, kt, ke⟩ := h i d _ hi hd (.new hp .refl)
    refine ⟨os, ow, kt _ ?_⟩
    cases e : f i with
    | none =>
      refine iteB rfl ⟨_, .refl, ?_, ?_⟩
      · rw [List.range_succ, List.filterMap_append]; simp [e]
      · rfl
    | some v =>
      refine iteA rfl (ke v e _ fun M' s' => ⟨_, s', updM_same, ?_, by rw [updM_updM]⟩)
      rw [List.range_succ, List.filterMap_append]; simp [e]
  · rintro ys M ⟨rfl, rfl⟩
    exact hq p hp
theorem endOk_of {A : Wl} {x y : Int} (hA : Un5 A) (hy : 0 ≤ y ∧ y ≤ 20) (h : (!(decide (A.1 = x ∧ A.2.1 = y) || decide (A.2.2.1 = x ∧ A.2.2.2 = y)) && (decide (l1 A ≤ la x y) && decide (la x y ≤ l2 A) && decide (sd A x y = 0))) = false) : EndOk A (la x y) (sd A x y) := by
  unfold EndOk
  by_cases h1 : A.1 = x ∧ A.2.1 = y
  · exact .inl ((eq_la hA.b hy).mp h1).symm
  · by_cases h2 : A.2.2.1 = x ∧ A.2.2.2 = y
    · exact .inr (.inl ((eq_la hA.d hy).mp h2).symm)
    · rw [decide_eq_false h1, decide_eq_false h2, Bool.or_false, Bool.not_false, Bool.true_and, ← Bool.decide_and, ← Bool.decide_and, decide_eq_false_iff_not] at h
      by_cases h3 : sd A x y = 0
      · omega
      · exact .inr (.inr (.inr (.inr h3)))
theorem in_two (M : MH) (A : Wl) (x y : Int) (g : Bool → Bool) (Q : DK) (q : Q (.bl (g (decide (A.1 = x ∧ A.2.1 = y) || decide (A.2.2.1 = x ∧ A.2.2.2 = y)))) M) : rInG g (.tup [.int x, .int y]) (uw A) M Q := by
  refine ⟨_, _, Pd.of rfl, .inr (Pd.of rfl), rfl, rfl, ?_⟩
  rw [List.any_cons, List.any_cons, List.any_nil, eqv_two, eqv_two, Bool.or_false]
  exact q
theorem sg_bd (z : Int) : Bd 64 (Int.sign z) := by
  rcases Int.lt_trichotomy z 0 with h | h | h
  · rw [Int.sign_eq_neg_one_of_neg h]; decide
  · subst h; decide
  · rw [Int.sign_eq_one_of_pos h]; decide
end SD

set_option Elab.async false
set_option linter.all false
set_option maxRecDepth 100000
namespace SD
open PySem PySem.Spec PyProof.Rows L2
def uwP (w : Wl) : PyData := .tuple [.tuple [.int w.1, .int w.2.1], .tuple [.int w.2.2.1, .int w.2.2.2]]
theorem pds_ws {M : MH} : ∀ ws : List Wl, Pds M (ws.map uw) (ws.map uwP)
  | [] => .nil
  | w :: ws => .cons (Pd.of rfl) (pds_ws ws)
theorem lay_ws : ∀ ws : List Wl, PyData.canLayAll0 (ws.map uwP) = true
  | [] => rfl
  | w :: ws => by rw [List.map_cons, PyData.canLayAll0, lay_ws ws]; rfl
theorem dep_ws : ∀ ws : List Wl, PyData.depthAll (ws.map uwP) ≤ 10
  | [] => Nat.le_of_ble_eq_true rfl
  | w :: ws => by
    rw [List.map_cons, PyData.depthAll]
    exact Nat.max_le.mpr ⟨Nat.le_of_ble_eq_true rfl, dep_ws ws⟩
theorem shaped_ws (ws : List Wl) : SeqAt.shaped (.list (ws.map uwP)) = true := by
  unfold SeqAt.shaped
  have h1 := lay_ws ws
  have h2 := dep_ws ws
  rw [Bool.and_eq_true]
  refine ⟨by rw [PyData.canLay0]; exact h1, decide_eq_true ?_⟩
  rw [PyData.depth]
  omega
theorem eqv_ws_nil : ∀ ws : List Wl, PyData.eqv (.list (ws.map uwP)) (.list []) = ws.isEmpty
  | [] => by simp [PyData.eqv, PyData.eqvAll]
  | w :: ws => by simp [PyData.eqv, PyData.eqvAll]
/-- walls each two of which are fair -/
def PF (ws : List Wl) : Prop := ∀ (i j : Nat) (U V : Wl), i ≠ j → ws[i]? = some U → ws[j]? = some V → Fair U V
theorem pf_nil : PF [] := fun i j U V _ h => by simp at h
theorem pf_append {ws : List Wl} {U : Wl} (h : PF ws) (hU : ∀ (j : Nat) (w : Wl), ws[j]? = some w → Fair U w) : PF (ws ++ [U]) := by
  intro i j A B hij hA hB
  have get : ∀ {k : Nat} {C : Wl}, (ws ++ [U])[k]? = some C → ws[k]? = some C ∨ (k = ws.length ∧ C = U) := fun {k C} e => by
    rcases Nat.lt_trichotomy k ws.length with z | z | z
    · rw [List.getElem?_append_left z] at e; exact .inl e
    · subst z
      rw [List.getElem?_append_right (Nat.le_refl _)] at e
      simp at e
      exact .inr ⟨rfl, e.symm⟩
    · rw [List.getElem?_eq_none (by simp; omega)] at e; cases e
  rcases get hA with a | ⟨a, rfl⟩ <;> rcases get hB with b | ⟨b, rfl⟩
  · exact h i j A B hij a b
  · exact (hU _ _ a).swap
  · exact hU _ _ b
  · omega
theorem end_pick {w : Wl} (h : Un5 w) {v : Int} (h0 : 0 ≤ v) (h1 : v < 2) : ∃ x y, atI [D.tup [.int w.1, .int w.2.1], .tup [.int w.2.2.1, .int w.2.2.2]] v = some (.tup [.int x, .int y]) ∧ (0 ≤ x ∧ x ≤ 20) ∧ (0 ≤ y ∧ y ≤ 20) := by
  rcases (show v = 0 ∨ v = 1 by omega) with rfl | rfl
  · exact ⟨_, _, rfl, h.a, h.b⟩
  · exact ⟨_, _, rfl, h.c, h.d⟩
theorem ws_pick {ws : List Wl} {v : Int} (h0 : 0 ≤ v) (h1 : v < ws.length) : ∃ w, w ∈ ws ∧ atI (ws.map uw) v = some (uw w) := by
  obtain ⟨j, rfl⟩ : ∃ j : Nat, v = (j : Int) := ⟨v.toNat, by omega⟩
  have hj : j < ws.length := by omega
  exact ⟨ws[j], List.getElem_mem hj, atI_nat (by simp [hj])⟩
/-- two spots in their order -/
theorem order_two {p q e f : Int} (hp : 0 ≤ p ∧ p ≤ 20) (hq : 0 ≤ q ∧ q ≤ 20) (he : 0 ≤ e ∧ e ≤ 20) (hf : 0 ≤ f ∧ f ≤ 20) (ne : ¬ (p = e ∧ q = f)) :
    ∃ w : Wl, (if HT.lexLt [e, f] [p, q] = true then [e, f] else [p, q]) = [w.1, w.2.1] ∧ (if HT.lexGt [e, f] [p, q] = true then [e, f] else [p, q]) = [w.2.2.1, w.2.2.2] ∧ Un5 w := by
  rw [lt_la hf hq, gt_la hf hq]
  have nl : la p q ≠ la e f := fun z => ne ((eq_la hq hf).mpr z)
  by_cases h : la e f < la p q
  · exact ⟨(e, f, p, q), by rw [if_pos (decide_eq_true h)], by rw [if_neg (by simp; omega)], ⟨he, hf, hp, hq, h⟩⟩
  · have h' : la p q < la e f := by omega
    exact ⟨(p, q, e, f), by rw [if_neg (by simpa using h)], by rw [if_pos (decide_eq_true h')], ⟨hp, hq, he, hf, h'⟩⟩
/-! ### the program's own numbers -/
theorem dec_la {t b X Y p q e f : Int} (ht : 0 < t) (hb : 0 < b) (hq : 0 ≤ q ∧ q ≤ 20) (hf : 0 ≤ f ∧ f ≤ 20) : Ma.ah (Ma.ut t b X 1 p) (Ma.ut t b Y 1 q) (Ma.ut t b X 1 e) (Ma.ut t b Y 1 f) ↔ la p q < la e f := by
  rw [ah_ut ht hb]; unfold la; omega
/-! ### a op b op c as a test -/
/-! ### lists of ints -/
end SD

set_option Elab.async false
set_option linter.all false
set_option maxRecDepth 100000
namespace SD
open PySem PySem.Spec PyProof.Rows L2
section
variable {X : Cx}
def insD {α : Type} (xs : List α) (j : Nat) (y : α) : List α := xs.take j ++ y :: xs.drop j
def rInsert : V → List V → Hp → VK → Prop := fun x vs H Q => ∃ l xs y, ∃ (k : Int) (j : Nat), x = .ref l ∧ vs = [.int k, y] ∧ k = (j : Int) ∧ H l = some (.lst xs) ∧ j ≤ xs.length ∧ xs.length < 1000000 ∧ Q .non (upd H l (.lst (insD xs j y)))
theorem ins_arr (its : List Value) (k : Int) (j : Nat) (u : Value) (hk : k = (j : Int)) (hj : j ≤ its.length) :
    (its.toArray.extract 0 (if k < 0 then (k + ((its.toArray.size : Nat) : Int)).toNat else min k.toNat its.toArray.size)).push u ++ its.toArray.extract (if k < 0 then (k + ((its.toArray.size : Nat) : Int)).toNat else min k.toNat its.toArray.size) = (insD its j u).toArray := by
  have e : (if k < 0 then (k + ((its.toArray.size : Nat) : Int)).toNat else min k.toNat its.toArray.size) = j := by
    rw [if_neg (by omega), List.size_toArray]; omega
  rw [e]
  apply Array.toList_inj.mp
  simp [insD]
  exact List.take_of_length_le (by simp)
theorem mt_insert : MtM X "list.insert" rInsert := by
  intro pins s σ H x vs v us Q I rx rv ⟨l, xs, y, k, j, ex, ev, hk, hH, hj, hz, q⟩
  subst ex ev
  cases rx
  obtain ⟨u1, u2, rfl, r1, r2⟩ := rv.two
  obtain ⟨t, rfl⟩ := r1
  obtain ⟨z, its, n, r, hl, e⟩ := I.lstM hH
  have fits : Builtin.List.listFitsIndex k = true := by
    unfold Builtin.List.listFitsIndex
    simp
    omega
  have hsz : its.toArray.size ≤ sizeLine := by rw [List.size_toArray, ← hl]; exact z
  refine call_meets PySem.F.slot_list_insert ⟨_, e, rfl⟩ PySem.F.entry_list_insert (PySem.F.args_list_insert_3 _ _ _) (PySem.AutoSeq1.list_insert_list_int_val_1 l its.toArray n k t u2 (by rw [fits]; decide) hsz) ⟨e, ?_⟩
  refine ⟨.non, _, I.lset (its' := insD its j u2) hH e (ins_arr its k j u2 hk (by omega)) ((Vals.take j r).append (.cons r2 (Vals.drop j r))) ?_, rfl, q⟩
  show (xs.take j ++ y :: xs.drop j).length ≤ sizeLine
  simp only [List.length_append, List.length_take, List.length_cons, List.length_drop]
  have : 1000000 ≤ sizeLine := Nat.le_of_ble_eq_true rfl
  omega
def tInsD (to : TD) (t : TAD) : TD := fun δ M Q => to δ M fun x M1 => ∃ l ys, x = .ref l ∧ M1 l = some (.lst ys) ∧ t δ M1 fun ds M2 => ∃ xs d, ∃ j : Nat, ds = [.int (j : Int), d] ∧ M2 l = some (.lst xs) ∧ j ≤ xs.length ∧ xs.length < 1000000 ∧ Q .non (updM M2 l (.lst (insD xs j d)))
variable {o e1 e2 : Expr} {to : TD} {t : TAD} {apos cpos : Pos}
theorem de_m_insert (ho : DE X o to) (ha : DA X [e1, e2] t)
    (hbase : attributeBase o "insert" X.env (eval o X.env) = eval o X.env := by rfl)
    (hfew : ((backTo cpos (starEach [e1, e2] X.env)).all (fun x => !x.1) && (backToKw cpos (keywordEach [] X.env)).all (fun x => x.1.isSome)
      && decide ([e1, e2].length + ([] : List Keyword).length + (if ([] : List Keyword).isEmpty then 0 else 1) < 30)) = true := by rfl)
    (hline : (apos.endLine == cpos.line) = true := by rfl) (hs : starEach [e1, e2] X.env = (false, eval e1 X.env) :: starEach [e2] X.env := by rfl) (hplain : (backTo cpos (starEach [e2] X.env)).any (·.1) = false := by rfl) :
    DE X (.Call (.Attribute o "insert" apos) [e1, e2] [] cpos) (tInsD to t) :=
  pe_imp (pe_bm PySem.F.plainAttrs_list PySem.F.slot_list_insert PySem.F.type_list_insert mt_insert ho ha hbase hfew hline hs hplain) fun σ H Q ⟨δ, M, R, hsl, hM, q, fin⟩ => by
    refine ⟨δ, M, _, hsl, hM, q, fun x M1 v H1 g1 r1 a1 ⟨l, ys, ex, hl, q1⟩ => ?_⟩
    subst ex
    rw [Rep] at r1
    subst r1
    obtain ⟨vs, hvs, _⟩ := a1 _ _ hl
    refine ⟨.inl ⟨rfl, vs, SqL.of hvs⟩, δ, M1, _, hsl.mono g1, a1, q1, fun ds M2 us H2 g2 r2 a2 ⟨xs, d, j, ed, hx, hj, hn, q2⟩ => ?_⟩
    subst ed
    obtain ⟨u1, u2, rfl, ru1, ru2⟩ := reps2 r2
    rw [Rep] at ru1
    subst ru1
    obtain ⟨ws, hws, rws⟩ := a2 _ _ hx
    have hlen := rws.length
    exact ⟨l, ws, u2, _, j, rfl, rfl, rfl, hws, by omega, by omega, fin _ _ _ _ (g1.trans (g2.trans (.lst hws))) (by rw [Rep]) (a2.setL hws ((rws.take j).append (.cons ru2 (rws.drop j)))) q2⟩
/-- list(x) -/
def rList : RC := fun ds M Q => match ds with
  | [.ref l] => ∃ xs, M l = some (.lst xs) ∧ ∀ p, M p = none → Q (.ref p) (updM M p (.lst xs))
  | [.tup xs] => ∀ p, M p = none → Q (.ref p) (updM M p (.lst xs))
  | _ => False
theorem cd_list : CallD X (.type "list") rList := call_imp call_list_of fun vs H Q ⟨ds, M, R, rs, a, q, fin⟩ => by
  unfold rList at q
  split at q
  · obtain ⟨ys, e, q⟩ := q
    obtain ⟨v, rfl, r⟩ := reps1 rs
    rw [Rep] at r; subst r
    obtain ⟨xs, hx, rx⟩ := a _ _ e
    exact ⟨_, xs, rfl, .inl (SqL.of hx), fun z hz => fin _ _ _ _ (.new hz) (by rw [Rep]) (a.newL hz rx) (q z (a.fresh hz))⟩
  · obtain ⟨v, rfl, r⟩ := reps1 rs
    rw [Rep] at r
    obtain ⟨p, xs, rfl, hx, rx⟩ := r
    exact ⟨_, xs, rfl, .inr hx, fun z hz => fin _ _ _ _ (.new hz) (by rw [Rep]) (a.newL hz rx) (q z (a.fresh hz))⟩
  · exact q.elim
end
end SD

set_option Elab.async false
set_option linter.all false
set_option maxRecDepth 100000
/-! Above, among walls that span one spot. -/
namespace SD
open PySem PySem.Spec PyProof.Rows L2
def lam (w : Wl) : Int := l2 w - l1 w
/-- where the wall is at half of t, over lam -/
def Nm (w : Wl) (t : Int) : Int := 2 * w.1 * lam w + (t - 2 * l1 w) * (w.2.2.1 - w.1)
def Gh (U V : Wl) (t : Int) : Int := Nm V t * lam U - Nm U t * lam V
theorem g_lin (U V : Wl) (p q t : Int) : Gh U V t * (q - p) = Gh U V p * (q - t) + Gh U V q * (t - p) := by
  unfold Gh Nm
  grind
theorem g_pos {U V : Wl} {p q t : Int} (h1 : p < t) (h2 : t < q) (gp : 0 ≤ Gh U V p) (gq : 0 ≤ Gh U V q) (g : 0 < Gh U V p ∨ 0 < Gh U V q) : 0 < Gh U V t := by
  refine pos_of (k := q - p) (by omega) ?_
  rw [g_lin U V p q t]
  have a1 := Int.mul_nonneg gp (show 0 ≤ q - t by omega)
  have a2 := Int.mul_nonneg gq (show 0 ≤ t - p by omega)
  rcases g with g | g
  · have := Int.mul_pos g (show 0 < q - t by omega); omega
  · have := Int.mul_pos g (show 0 < t - p by omega); omega
end SD

set_option Elab.async false
set_option linter.all false
set_option maxRecDepth 100000
/-! Lists of numbers of walls, the upper one of them. -/
namespace SD
open PySem PySem.Spec PyProof.Rows L2
theorem insD_map {α β : Type} (f : α → β) (xs : List α) (j : Nat) (y : α) : insD (xs.map f) j (f y) = (insD xs j y).map f := by
  unfold insD; simp [List.map_take, List.map_drop]
/-- the wall of a number -/
def wAt (ws : List Wl) (k : Int) : Wl := (ws[k.toNat]?).getD (0, 0, 0, 0)
/-- the walls as the program has them, as data -/
def frP (q : Rat) : PyData := .tuple [.int q.num, .int (q.den : Int)]
def rwP (t b x y : Int) (w : Wl) : PyData := .tuple [.tuple [frP (Ma.ut t b x 1 w.1), frP (Ma.ut t b y 1 w.2.1)], .tuple [frP (Ma.ut t b x 1 w.2.2.1), frP (Ma.ut t b y 1 w.2.2.2)]]
theorem rwP_refl (t b x y : Int) (w : Wl) : PyData.eqv (rwP t b x y w) (rwP t b x y w) = true := by
  simp [rwP, frP, PyData.eqv, PyData.eqvAll]
theorem pds_rw {M : MH} (t b x y : Int) : ∀ ws : List Wl, Pds M (ws.map (rwl t b x y)) (ws.map (rwP t b x y))
  | [] => .nil
  | w :: ws => .cons (Pd.of rfl) (pds_rw t b x y ws)
theorem lay_rw (t b x y : Int) : ∀ ws : List Wl, PyData.canLayAll0 (ws.map (rwP t b x y)) = true
  | [] => rfl
  | w :: ws => by rw [List.map_cons, PyData.canLayAll0, lay_rw t b x y ws]; rfl
theorem dep_rw (t b x y : Int) : ∀ ws : List Wl, PyData.depthAll (ws.map (rwP t b x y)) ≤ 10
  | [] => Nat.le_of_ble_eq_true rfl
  | w :: ws => by
    rw [List.map_cons, PyData.depthAll]
    exact Nat.max_le.mpr ⟨Nat.le_of_ble_eq_true rfl, dep_rw t b x y ws⟩
theorem eqvAll_rw (t b x y : Int) : ∀ ws : List Wl, PyData.eqvAll (ws.map (rwP t b x y)) (ws.map (rwP t b x y)) = true
  | [] => by simp [PyData.eqvAll]
  | w :: ws => by rw [List.map_cons, PyData.eqvAll, rwP_refl, eqvAll_rw t b x y ws]; rfl
end SD
namespace SD
open PySem PySem.Spec PyProof.Rows L2
def spB (ws : List Wl) (m s : Int) (j : Nat) : Bool := decide (m * l1 (wAt ws (j : Int)) ≤ s) && decide (s < m * l2 (wAt ws (j : Int)))
def spK (ws : List Wl) (m s : Int) : List Int := ((List.range ws.length).filter (spB ws m s)).map fun j : Nat => (j : Int)
end SD

set_option Elab.async false
set_option linter.all false
set_option maxRecDepth 100000
/-! for i, x in enumerate(xs), xs a list of the store -/
namespace SD
open PySem PySem.Spec PyProof.Rows L2
section
variable {X : Cx} {pins : List (Addr × Obj)} {σ : L2.St} {H : Hp} {s : Shared}
end
/-- number and item, as a new tuple -/
def Ite (K : PySem.W.Frag) (a : Addr) : It :=
  ⟨fun i H => ∃ xs x, SqL K H a xs ∧ xs[i]? = some x, fun i H x H' => ∃ T y, x = .ref T ∧ H T = none ∧ H' = upd H T (.tup [.int (i : Int), y]) ∧ ∀ xs, SqL K H a xs → xs[i]? = some y, fun i H => ∃ xs, SqL K H a xs ∧ xs.length ≤ i⟩
section
variable {X : Cx} {elts : List Expr} {kt : Nat} {pt : Pos}
def iEnum (K : PySem.W.Frag) (ta : TA) : TI := fun σ H R => ta σ H fun vs H1 => ∃ a xs, vs = [.ref a] ∧ H1 a = some (.lst xs) ∧ R (Ite K a) H1
def dEnum (ta : TAD) : TID := fun δ M R => ta δ M fun ds M1 => ∃ l es, ds = [.ref l] ∧ M1 l = some (.lst es) ∧ R ⟨es.length, fun i => (es[i]?).map fun d => .tup [.int (i : Int), d], fun M => M l = some (.lst es)⟩ M1
end
end SD

set_option Elab.async false
set_option linter.all false
set_option maxRecDepth 100000
/-! Walls of a plot meet at ends alone. -/
namespace SD
open PySem PySem.Spec PyProof.Rows L2
structure Un6 (w : Wl) : Prop where
  a : 0 ≤ w.1 ∧ w.1 ≤ 60
  b : 0 ≤ w.2.1 ∧ w.2.1 ≤ 20
  c : 0 ≤ w.2.2.1 ∧ w.2.2.1 ≤ 60
  d : 0 ≤ w.2.2.2 ∧ w.2.2.2 ≤ 20
  lt : l1 w < l2 w
def EndOf (w : Wl) (x y : Int) : Prop := (x = w.1 ∧ y = w.2.1) ∨ (x = w.2.2.1 ∧ y = w.2.2.2)
end SD

set_option Elab.async false
set_option linter.all false
set_option maxRecDepth 100000
namespace SD
open PySem PySem.Spec PyProof.Rows L2
section
variable {X : Cx}
def tRevD (to : TD) : TD := fun δ M Q => to δ M fun x M1 => ∃ l xs, x = .ref l ∧ M1 l = some (.lst xs) ∧ Q .non (updM M1 l (.lst xs.reverse))
theorem Reps.rev {K : PySem.W.Frag} {H : Hp} : ∀ {ds : List D} {xs : List V}, Reps K H ds xs → Reps K H ds.reverse xs.reverse
  | [], _, h => by rw [Reps] at h; subst h; exact .nil
  | d :: ds, _, h => by
    rw [Reps] at h
    obtain ⟨x, r, rfl, h1, h2⟩ := h
    rw [List.reverse_cons, List.reverse_cons]
    exact (Reps.rev h2).append (.cons h1 .nil)
variable {o : Expr} {to : TD} {apos cpos : Pos}
theorem de_m_reverse0 (ho : DE X o to) (hbase : attributeBase o "reverse" X.env (eval o X.env) = eval o X.env := by rfl) (hline : (apos.endLine == cpos.line) = true := by rfl) : DE X (.Call (.Attribute o "reverse" apos) [] [] cpos) (tRevD to) :=
  pe_imp (pe_bm0 PySem.F.plainAttrs_list PySem.F.slot_list_reverse PySem.F.type_list_reverse mt_reverse ho hbase hline) fun σ H Q ⟨δ, M, R, hsl, hM, q, fin⟩ => by
    refine ⟨δ, M, _, hsl, hM, q, fun x M1 v H1 g1 r1 a1 ⟨l, ys, ex, hl, q1⟩ => ?_⟩
    subst ex
    rw [Rep] at r1
    subst r1
    obtain ⟨vs, hvs, rvs⟩ := a1 _ _ hl
    exact ⟨.inl ⟨rfl, vs, SqL.of hvs⟩, l, vs, rfl, rfl, hvs, fin _ _ _ _ (g1.trans (.lst hvs)) (by rw [Rep]) (a1.setL hvs rvs.rev) q1⟩
end
end SD

set_option Elab.async false
set_option linter.all false
set_option maxRecDepth 100000
/-! Above goes nowhere round: of some walls one has none above it. -/
namespace SD
open PySem PySem.Spec PyProof.Rows L2
end SD

set_option Elab.async false
set_option linter.all false
set_option maxRecDepth 100000
/-! Spots told over m against walls; rows of squares. -/
namespace SD
open PySem PySem.Spec PyProof.Rows L2
/-! ### squares side by side -/
def sqV (k : Int) : Wl := (k, 0, k, 1)
def sqH (k y : Int) : Wl := (k, y, k + 1, y)
def sqL (m : Int) : Nat → List Wl
  | 0 => [sqV m]
  | i + 1 => sqL m i ++ [sqH (i : Int) 0, sqH (i : Int) 1, sqV (i : Int)]
/-- a wall of the squares: upright at k, or level from k at 0 or 1 -/
def IsSq (w : Wl) : Prop := ∃ k : Int, 0 ≤ k ∧ k ≤ 13 ∧ (w = sqV k ∨ w = sqH k 0 ∨ w = sqH k 1)
/-- the numbers of the walls that span a spot and lie below it -/
def bB (ws : List Wl) (m p q : Int) (j : Nat) : Bool := spB ws m (la p q) j && decide (Int.sign (sd (uby m (wAt ws (j : Int))) p q) = 1)
def bK (ws : List Wl) (m p q : Int) : List Int := ((List.range ws.length).filter (bB ws m p q)).map fun j : Nat => (j : Int)
end SD

set_option Elab.async false
set_option linter.all false
set_option maxRecDepth 100000
/-! The turn round a corner: what comes behind a face is one to one. -/
namespace SD
open PySem PySem.Spec PyProof.Rows L2
/-- ways of two numbers -/
abbrev Vc := Int × Int
def vc (a b : Vc) : Int := crs a.1 a.2 b.1 b.2
def vl (a : Vc) : Int := la a.1 a.2
theorem vc_neg (a b : Vc) : vc b a = -vc a b := by unfold vc crs; grind
/-- two ways from one spot: never the same ray -/
def Ray (a b : Vc) : Prop := vc a b = 0 → vl a * vl b < 0
theorem Ray.swap {a b : Vc} (h : Ray a b) : Ray b a := fun z => by
  have := h (by rw [vc_neg, z]; rfl)
  rw [Int.mul_comm]; exact this
/-- met sooner, turning from b -/
def snr (b x y : Vc) : Bool := if Int.sign (vc b x) = Int.sign (vc b y) then decide (vc x y < 0) else decide (Int.sign (vc b x) < Int.sign (vc b y))
end SD

set_option Elab.async false
set_option linter.all false
set_option maxRecDepth 100000
/-! Spots as keys: tuples of two tuples of two ints. -/
namespace SD
open PySem PySem.Spec PyProof.Rows
abbrev SpK := Int × Int × Int × Int
section
variable {P : Program} {w : World}
def IsFr (P : Program) (w : World) (h : Heap) (n d : Int) (a : Addr) : Prop := IsTupleKey (intKind P w) h [n, d] a
def IsSp (P : Program) (w : World) (h : Heap) (k : SpK) (a : Addr) : Prop := ∃ o b c m, h.get? a = some o ∧ o.cls = .type "tuple" ∧ o.data = .seq #[.ref b, .ref c] m ∧ IsFr P w h k.1 k.2.1 b ∧ IsFr P w h k.2.2.1 k.2.2.2 c
theorem IsSp.inj {h : Heap} {a : Addr} {x y : SpK} (p : IsSp P w h x a) (q : IsSp P w h y a) : x = y := by
  obtain ⟨o, b, c, m, h1, h2, h3, h4, h5⟩ := p
  obtain ⟨o', b', c', m', g1, g2, g3, g4, g5⟩ := q
  rw [h1] at g1; cases g1
  rw [h3] at g3
  injection g3 with e _
  have e1 : b = b' ∧ c = c' := by simpa using e
  obtain ⟨rfl, rfl⟩ := e1
  have i1 := IsTupleKey.inj h4 g4
  have i2 := IsTupleKey.inj h5 g5
  obtain ⟨x1, x2, x3, x4⟩ := x
  obtain ⟨y1, y2, y3, y4⟩ := y
  simp at i1 i2
  obtain ⟨rfl, rfl⟩ := i1
  obtain ⟨rfl, rfl⟩ := i2
  rfl
theorem IsSp.keeps {h h' : Heap} {k : SpK} {a d : Addr} {o : Obj} {es : Array DictEntry} {ep : Nat} (p : IsSp P w h k a) (hd : h.get? d = some o) (he : o.data = .dict es ep) (sb : Heap.SameBut d h h') : IsSp P w h' k a := by
  obtain ⟨oa, b, c, m, h1, h2, h3, h4, h5⟩ := p
  have ne : a ≠ d := fun z => by rw [z, hd] at h1; cases h1; rw [he] at h3; cases h3
  exact ⟨oa, b, c, m, (sb.2 a ne).trans h1, h2, h3, IsTupleKey.keeps h4 hd he sb, IsTupleKey.keeps h5 hd he sb⟩
def spHash (P : Program) (w : World) (k : SpK) : Int := reduceHash (Builtin.Tuple.tupleHashOf [tupleKeyHash (intKind P w) [k.1, k.2.1], tupleKeyHash (intKind P w) [k.2.2.1, k.2.2.2]])
theorem IsSp.hash {A : Around} {E : Value → Shared → Prop} {s : Shared} {k : SpK} {a : Addr} {Q : Int → Shared → Prop} (hu : A.units + 4 < cLine) (p : IsSp P w s.heap k a) (q : Q (spHash P w k) { s with toks := s.toks + 7 }) : wpAny (model P w) A (pyHash (.ref a)) Q E s := by
  obtain ⟨o, b, c, m, h1, h2, h3, h4, h5⟩ := p
  obtain ⟨hp, g, d, tk, os⟩ := s
  show wpAny _ _ (pyHashByItsType (.ref a)) _ _ _
  refine PySem.W.pyHash_slot (T := "tuple") ⟨o, h1, h2⟩ F.slot_tuple_hash F.entry_tuple_hash (F.args_tuple_hash_1 _) rfl (.inr (by omega)) ?_
  unfold Builtin.«tuple.__hash__»
  simp only [← Array.forIn_toList]
  iterate 4 wp_step
  refine wpAny_pure ?_
  refine wpAny_bind (wpAny_tupleItemsOf h1 h3 ?_)
  refine wpAny_bind ?_
  simp only [List.forIn_cons, List.forIn_nil, pure_bind, bind_assoc]
  refine wpAny_bind (wpAny_pyHash_tuple (knd := intKind P w) (by show A.units + 1 < cLine; omega) h4 ?_)
  refine wpAny_bind (wpAny_pyHash_tuple (knd := intKind P w) (by show A.units + 1 < cLine; omega) h5 ?_)
  refine wpAny_pure ?_
  unfold retInt
  wp_walk
  exact ⟨_, _, rfl, q⟩
theorem isInt_of {n : Int} {v : Value} (h : (intKind P w).is n v = true) : ∃ t, v = .int n t := by
  have h : Value.isInt n v = true := h
  cases v with
  | int i t =>
    have : (i == n) = true := h
    exact ⟨t, by rw [eq_of_beq this]⟩
  | _ => cases h
def frPd (n d : Int) : PyData := .tuple [.int n, .int d]
def spPd (k : SpK) : PyData := .tuple [frPd k.1 k.2.1, frPd k.2.2.1 k.2.2.2]
theorem IsFr.reads {h : Heap} {n d : Int} {a : Addr} (p : IsFr P w h n d a) : ∃ as, Reads h (.ref a) (frPd n d) as := by
  obtain ⟨o, items, m, h1, h2, h3, h4⟩ := p
  generalize hl : items.toList = l at h4
  cases h4 with
  | cons hx r =>
    cases r with
    | cons hy r =>
      cases r
      obtain ⟨t1, rfl⟩ := isInt_of hx
      obtain ⟨t2, rfl⟩ := isInt_of hy
      exact ⟨_, .tuple h1 h2 h3 (by rw [hl]; exact .cons (.int _ _) (.cons (.int _ _) .nil))⟩
theorem IsSp.reads {h : Heap} {k : SpK} {a : Addr} (p : IsSp P w h k a) : ∃ as, Reads h (.ref a) (spPd k) as := by
  obtain ⟨o, b, c, m, h1, h2, h3, h4, h5⟩ := p
  obtain ⟨as, r1⟩ := h4.reads
  obtain ⟨bs, r2⟩ := h5.reads
  exact ⟨_, .tuple h1 h2 h3 (.cons r1 (.cons r2 .nil))⟩
theorem spPd_eqv (x y : SpK) : (spPd x).eqv (spPd y) = decide (x = y) := by
  obtain ⟨x1, x2, x3, x4⟩ := x
  obtain ⟨y1, y2, y3, y4⟩ := y
  simp only [spPd, frPd, PyData.eqv, PyData.eqvAll, Bool.and_true]
  rw [Bool.eq_iff_iff]
  simp [and_assoc]
theorem IsSp.eq {A : Around} {E : Value → Shared → Prop} {s : Shared} {x y : SpK} {a b : Addr} {Q : Bool → Shared → Prop} (hu : A.units + 4 < cLine) (p : IsSp P w s.heap x a) (p' : IsSp P w s.heap y b) (q : Q (decide (x = y)) s) : wpAny (model P w) A (eqBool (.ref a) (.ref b)) Q E s := by
  obtain ⟨as, r1⟩ := p.reads
  obtain ⟨bs, r2⟩ := p'.reads
  have hd : min (spPd x).depth (spPd y).depth ≤ 3 := Nat.le_trans (Nat.min_le_left _ _) (Nat.le_of_ble_eq_true rfl)
  have := SeqAt.eqAt_reads (spPd x) (spPd y) A s (.ref a) (.ref b) as bs r1 r2 rfl rfl (by omega)
  rw [spPd_eqv] at this
  exact this P w E Q q
theorem IsFr.quiet {A : Around} {E : Value → Shared → Prop} {s : Shared} {n d : Int} {a : Addr} {Q : Bool → Shared → Prop} (i : Nat) (p : IsFr P w s.heap n d a) (q : Q true s) : wpAny (model P w) A (eqIsQuiet (i + 1) (.ref a)) Q E s := by
  obtain ⟨o, items, m, h1, h2, h3, h4⟩ := p
  rw [eqIsQuiet.eq_2]
  refine wpAny_bind (wpAny_specialOf ⟨o, h1, h2⟩ F.slot_tuple_eq.lookup ?_)
  refine wpAny_bind (wpAny_isInstance ⟨o, h1, h2⟩ isSubtype_tuple_tuple ?_)
  simp only [Bool.not_true, Bool.false_eq_true, if_false]
  refine wpAny_bind (wpAny_seqItems h1 h3 ?_)
  simp only [Option.getD_some, ← Array.forIn_toList]
  generalize hl : items.toList = l at h4
  cases h4 with
  | cons hx r =>
    cases r with
    | cons hy r =>
      cases r
      obtain ⟨t1, rfl⟩ := isInt_of hx
      obtain ⟨t2, rfl⟩ := isInt_of hy
      refine wpAny_bind ?_
      simp only [List.forIn_cons, List.forIn_nil, pure_bind, bind_assoc, eqIsQuiet_byValue i (show carriedByValue (.int n t1) = true from rfl), eqIsQuiet_byValue i (show carriedByValue (.int d t2) = true from rfl), Bool.not_true, Bool.false_eq_true, if_false]
      refine wpAny_pure ?_
      exact wpAny_pure q
theorem IsSp.quiet {A : Around} {E : Value → Shared → Prop} {s : Shared} {k : SpK} {a : Addr} {Q : Bool → Shared → Prop} (p : IsSp P w s.heap k a) (q : Q true s) : wpAny (model P w) A (eqIsQuiet 8 (.ref a)) Q E s := by
  obtain ⟨o, b, c, m, h1, h2, h3, h4, h5⟩ := p
  rw [eqIsQuiet.eq_2]
  refine wpAny_bind (wpAny_specialOf ⟨o, h1, h2⟩ F.slot_tuple_eq.lookup ?_)
  refine wpAny_bind (wpAny_isInstance ⟨o, h1, h2⟩ isSubtype_tuple_tuple ?_)
  simp only [Bool.not_true, Bool.false_eq_true, if_false]
  refine wpAny_bind (wpAny_seqItems h1 h3 ?_)
  simp only [Option.getD_some, ← Array.forIn_toList]
  refine wpAny_bind ?_
  simp only [List.forIn_cons, List.forIn_nil, pure_bind, bind_assoc]
  refine wpAny_bind (h4.quiet 6 ?_)
  simp only [Bool.not_true, Bool.false_eq_true, if_false, pure_bind]
  refine wpAny_bind (h5.quiet 6 ?_)
  simp only [Bool.not_true, Bool.false_eq_true, if_false, pure_bind]
  refine wpAny_pure ?_
  exact wpAny_pure q
def spotKind (P : Program) (w : World) : HeapKind P w SpK where
  is := IsSp P w
  hash := spHash P w
  draws := fun _ => 7
  room := fun A => A.units + 4 < cLine
  inj := fun p q => p.inj q
  keeps := fun p hd he sb => p.keeps hd he sb
  pyHash := fun hu p q => p.hash hu q
  eqBool := fun hu p p' q => p.eq hu p' q
  quiet := fun p q => p.quiet q
end
end SD

set_option Elab.async false
set_option linter.all false
set_option maxRecDepth 100000
/-! A dict with spots as keys, as a thing of the store of values. -/
namespace SD
open PySem PySem.Spec PyProof.Rows L2
section
variable {X : Cx} {pins : List (Addr × Obj)} {σ : L2.St} {H : Hp} {s : Shared} {a b : Addr} {k : SpK}
/-- the spot k lies at b -/
def SpAt (K : PySem.W.Frag) (H : Hp) (b : Addr) (k : SpK) : Prop := ∃ f g, SqT K H b [.ref f, .ref g] ∧ SqT K H f [.int k.1, .int k.2.1] ∧ SqT K H g [.int k.2.2.1, .int k.2.2.2]
theorem fr_is {n d : Int} {f : Addr} (I : L2.Inv X pins σ H s) (h : SqT X.K H f [.int n, .int d]) : IsFr X.prog X.w s.heap n d f := by
  obtain ⟨its, r, ht, _⟩ := I.tuple h
  cases r with
  | cons a1 r => cases r with
    | cons a2 r =>
      cases r
      obtain ⟨t1, rfl⟩ := a1
      obtain ⟨t2, rfl⟩ := a2
      obtain ⟨o, h1, h2, m, h3⟩ := ht
      exact ⟨o, _, m, h1, h2, h3, .cons (by show ((n == n) = true); simp) (.cons (by show ((d == d) = true); simp) .nil)⟩
theorem sp_is (I : L2.Inv X pins σ H s) (h : SpAt X.K H b k) : IsSp X.prog X.w s.heap k b := by
  obtain ⟨f, g, h1, h2, h3⟩ := h
  obtain ⟨its, r, ht, _⟩ := I.tuple h1
  cases r with
  | cons a1 r => cases r with
    | cons a2 r =>
      cases r
      cases a1
      cases a2
      obtain ⟨o, q1, q2, m, q3⟩ := ht
      exact ⟨o, f, g, m, q1, q2, q3, fr_is I h2, fr_is I h3⟩
/-- spots, where they lie, what they hold -/
abbrev SpE := SpK × Addr × V
def dspF (P : Program) (w : World) (a : Addr) (xs : List SpE) : Heap → Prop := fun h => (a == sysModules) = false ∧ xs.length ≤ sizeLine ∧ (xs.map (·.1)).Nodup ∧ ∃ ys : List (SpK × Addr × Value),
  Paired (fun (p : SpE) (q : SpK × Addr × Value) => p.1 = q.1 ∧ p.2.1 = q.2.1 ∧ RelV p.2.2 q.2.2) xs ys ∧ ∃ o es ep, h.get? a = some o ∧ o.ExactDict ∧ o.data = .dict es ep ∧ es.toList = ys.map (entryOfKey (spotKind P w))
def putS (xs : List SpE) (k : SpK) (b : Addr) (v : V) : List SpE := if (xs.any fun x => decide (x.1 = k)) = true then xs.map (fun x => if x.1 = k then (x.1, x.2.1, v) else x) else xs ++ [(k, b, v)]
abbrev PrS := fun (p : SpE) (q : SpK × Addr × Value) => p.1 = q.1 ∧ p.2.1 = q.2.1 ∧ RelV p.2.2 q.2.2
theorem prs_keys {xs : List SpE} {ys : List (SpK × Addr × Value)} (r : Paired PrS xs ys) : ys.map (·.1) = xs.map (·.1) := by
  induction r with
  | nil => rfl
  | cons h t ih => rw [List.map_cons, List.map_cons, ih, h.1]
theorem prs_any {xs : List SpE} {ys : List (SpK × Addr × Value)} (r : Paired PrS xs ys) (k : SpK) : (xs.any fun x => decide (x.1 = k)) = (atKey ys k).isSome := by
  induction r with
  | nil => rfl
  | @cons p q ps qs h t ih =>
    rw [List.any_cons]
    by_cases e : p.1 = k
    · have e' : q.1 = k := h.1.symm.trans e
      simp [atKey, List.find?_cons, e, e']
    · have e' : ¬ q.1 = k := fun z => e (h.1.trans z)
      rw [decide_eq_false e, Bool.false_or, ih]
      simp [atKey, List.find?_cons, e']
theorem prs_put {xs : List SpE} {ys : List (SpK × Addr × Value)} (r : Paired PrS xs ys) (k : SpK) (b : Addr) {v : V} {u : Value} (rv : RelV v u) : Paired PrS (putS xs k b v) (storedH ys k b u) := by
  unfold putS storedH
  rw [prs_any r k]
  by_cases e : (atKey ys k).isSome = true
  · rw [if_pos e, if_pos e]
    clear e
    induction r with
    | nil => exact .nil
    | @cons p q ps qs h t ih =>
      rw [List.map_cons, List.map_cons]
      refine .cons ?_ ih
      unfold putAt
      by_cases e : p.1 = k
      · rw [if_pos e, if_pos (h.1.symm.trans e)]; exact ⟨h.1, h.2.1, rv⟩
      · rw [if_neg e, if_neg (fun z => e (h.1.trans z))]; exact h
  · rw [if_neg e, if_neg e]
    exact Paired.snoc r ⟨rfl, rfl, rv⟩
theorem prs_len {xs : List SpE} {ys : List (SpK × Addr × Value)} (r : Paired PrS xs ys) : xs.length = ys.length := by
  induction r with
  | nil => rfl
  | cons h t ih => rw [List.length_cons, List.length_cons, ih]
theorem prs_mem {xs : List SpE} {ys : List (SpK × Addr × Value)} (r : Paired PrS xs ys) {q : SpK × Addr × Value} (h : q ∈ ys) : ∃ p ∈ xs, p.1 = q.1 ∧ p.2.1 = q.2.1 := by
  induction r with
  | nil => cases h
  | cons h' t ih =>
    rcases List.mem_cons.mp h with z | z
    · subst z; exact ⟨_, by simp, h'.1, h'.2.1⟩
    · obtain ⟨p, hp, e⟩ := ih z
      exact ⟨p, by simp [hp], e⟩
theorem putS_len (xs : List SpE) (k : SpK) (b : Addr) (v : V) : (putS xs k b v).length ≤ xs.length + 1 := by
  unfold putS
  split
  · rw [List.length_map]; omega
  · simp
/-- what is known of the dict in the heap -/
theorem dsp_of {xs : List SpE} (I : L2.Inv X pins σ H s) (e : H a = some (.ext (dspF X.prog X.w a xs))) (hk : ∀ x ∈ xs, SpAt X.K H x.2.1 x.1) : (a == sysModules) = false ∧ xs.length ≤ sizeLine ∧ ∃ ys, Paired PrS xs ys ∧ s.heap.DictOfH (spotKind X.prog X.w) a ys := by
  obtain ⟨⟨h1, h2, h3, ys, r, o, es, ep, q1, q2, q3, q4⟩, _⟩ := I.hok a _ e
  refine ⟨h1, h2, ys, r, o, es, ep, q1, q2, q3, q4, fun x hx => ?_, by rw [prs_keys r]; exact h3⟩
  obtain ⟨p, hp, e1, e2⟩ := prs_mem r hx
  rw [← e1, ← e2]
  exact sp_is I (hk p hp)
theorem dsp_ext {P : Program} {w : World} {xs : List SpE} (h1 h2 : Heap) (h : dspF P w a xs h1) (k : ∀ o, h1.get? a = some o → h2.get? a = some o) : dspF P w a xs h2 := by
  obtain ⟨p1, p2, p3, ys, r, o, es, ep, q1, q⟩ := h
  exact ⟨p1, p2, p3, ys, r, o, es, ep, k o q1, q⟩
/-- d[spot] = v -/
theorem dsp_set {A : Around} {E : Value → Shared → Prop} {Q : Unit → Shared → Prop} {xs : List SpE} {v : V} {u : Value} (hu : A.units + 8 < cLine) (I : L2.Inv X pins σ H s) (e : H a = some (.ext (dspF X.prog X.w a xs))) (hk : ∀ x ∈ xs, SpAt X.K H x.2.1 x.1) (hb : SpAt X.K H b k) (rv : RelV v u) (hl : xs.length < sizeLine)
    (h : ∀ s', L2.Inv X pins σ (upd H a (.ext (dspF X.prog X.w a (putS xs k b v)))) s' → Q () s') : wpAny (model X.prog X.w) A (setItem (.ref a) (.ref b) u) Q E s := by
  obtain ⟨hd, hz, ys, r, dd⟩ := dsp_of I e hk
  refine wpAny_setItem_heap (knd := spotKind X.prog X.w) (hsz := by rw [← prs_len r]; exact hz) (show A.in1.units + 4 < cLine by show A.units + 1 + 4 < cLine; omega) (sp_is I hb) dd fun h' dd' hs => h _ ?_
  obtain ⟨q, es, ep, hq, q2, q3, q4, _, q5⟩ := dd'
  refine d_write I (by rw [e]; exact True.intro) hs ⟨q, hq⟩ ⟨⟨hd, ?_, ?_, _, prs_put r k b rv, q, es, ep, hq, q2, q3, q4⟩, ⟨q, hq⟩, fun h1 h2 x y => dsp_ext h1 h2 x y⟩
  · have := putS_len xs k b v; omega
  · rw [← prs_keys (prs_put r k b rv)]; exact q5
/-- {} -/
theorem dsp_new (I : L2.Inv X pins σ H s) : L2.Inv X pins σ (upd H s.heap.objs.size (.ext (dspF X.prog X.w s.heap.objs.size []))) { s with heap := s.heap.push { cls := .type "dict", data := .dict #[] } } :=
  I.laid (a := s.heap.objs.size) (t' := s.toks) (fun _ _ q => Heap.get?_push_of_some _ q) (Nat.le_refl _)
    ⟨⟨beq_eq_false_iff_ne.mpr (Ne.symm (Nat.ne_of_lt I.big)), Nat.zero_le _, List.nodup_nil, [], .nil, _, #[], 0, Heap.get?_push_size _ rfl, ⟨rfl, rfl, rfl⟩, rfl, rfl⟩, ⟨_, Heap.get?_push_size _ rfl⟩, fun h1 h2 x y => dsp_ext h1 h2 x y⟩
/-- what lies at a spot -/
def valS (xs : List SpE) (k : SpK) : Option V := (xs.find? fun x => decide (x.1 = k)).map (·.2.2)
end
end SD

set_option Elab.async false
set_option linter.all false
set_option maxRecDepth 100000
/-! setdefault of a dict with spots as keys. -/
namespace SD
open PySem PySem.Spec PyProof.Rows L2
section
variable {prog : Program} {w : World} {K : Type} [DecidableEq K] {knd : HeapKind prog w K} {A : Around} {E : Value → Shared → Prop} {s : Shared}
end
section
variable {X : Cx} {pins : List (Addr × Obj)} {σ : L2.St} {H : Hp} {s : Shared} {a b : Addr} {k : SpK}
end
end SD

set_option Elab.async false
set_option linter.all false
set_option maxRecDepth 100000
/-! Dicts with spots as keys in expressions. -/
namespace SD
open PySem PySem.Spec PyProof.Rows L2
section
variable {X : Cx}
/-- {} -/
def tDsNew (X : Cx) : TE := fun _ H Q => ∀ p, H p = none → Q (.ref p) (upd H p (.ext (dspF X.prog X.w p [])))
theorem pe_dsnew {pos : Pos} : PE X (.Dict [] [] pos) (tDsNew X) := fun pins s σ H Q I h =>
  wpAny_Dict_empty ⟨.ref s.heap.objs.size, _, dsp_new I, rfl, h _ (I.hok.fresh (Nat.le_refl _))⟩
/-- what is asked of the dict at a and the spot at b -/
structure DsAt (X : Cx) (H : Hp) (a b : Addr) (xs : List SpE) (k : SpK) : Prop where
  d : H a = some (.ext (dspF X.prog X.w a xs))
  ks : ∀ x ∈ xs, SpAt X.K H x.2.1 x.1
  key : SpAt X.K H b k
/-- d[spot] -/
def tDsGet (X : Cx) (td ty : TE) : TE := fun σ H Q => td σ H fun x H1 => ty σ H1 fun y H2 => ∃ a b xs k v, x = .ref a ∧ y = .ref b ∧ DsAt X H2 a b xs k ∧ valS xs k = some v ∧ Q v H2
/-- d[spot] = v -/
def sDsPut (X : Cx) (td ty tv : TE) : TS := fun D σ H => tv σ H fun v H1 => td σ H1 fun x H2 => ty σ H2 fun y H3 => ∃ a b xs k, x = .ref a ∧ y = .ref b ∧ DsAt X H3 a b xs k ∧ xs.length < sizeLine ∧ D.nx σ (upd H3 a (.ext (dspF X.prog X.w a (putS xs k b v))))
theorem ps_dsput {o i value : Expr} {td ty tv : TE} {pos pos' : Pos} (hu : X.A.units + 8 < cLine) (ho : PE X o td) (hi : PE X i ty) (hv : PE X value tv) (hs : swapsWith value (some (.Subscript o i pos')) pos.line X.env = pure false) :
    PS X (.Assign [.Subscript o i pos'] value pos) (sDsPut X td ty tv) := by
  intro pins s σ H D I h
  refine wpAny_Assign_Subscript (thn (hv pins s σ H _ I h) fun r s1 ⟨v, H1, I1, rv, q1⟩ => thn (ho pins s1 σ H1 _ I1 q1) fun u s2 ⟨x, H2, I2, rx, q2⟩ => thn (hi pins s2 σ H2 _ I2 q2) fun iv s3 ⟨y, H3, I3, ry, a, b, xs, k, ex, ey, A, hl, q3⟩ => ?_) hs
  subst ex ey
  cases rx
  cases ry
  exact dsp_set hu I3 A.d A.ks A.key rv hl fun s4 I4 => ⟨σ, _, I4, q3⟩
/-- d.setdefault(spot, v) -/
def tDsSd (X : Cx) (to : TE) (t : TA) : TE := fun σ H Q => to σ H fun x H1 => ∃ a xs0, x = .ref a ∧ H1 a = some (.ext (dspF X.prog X.w a xs0)) ∧ t σ H1 fun vs H2 => ∃ b v xs k, vs = [.ref b, v] ∧ DsAt X H2 a b xs k ∧ xs.length < sizeLine ∧
  (∀ v', valS xs k = some v' → Q v' H2) ∧ (valS xs k = none → Q v (upd H2 a (.ext (dspF X.prog X.w a (putS xs k b v)))))
end
end SD

set_option Elab.async false
set_option linter.all false
set_option maxRecDepth 100000
/-! Dicts with spots as keys, as data. -/
namespace SD
open PySem PySem.Spec PyProof.Rows L2
def spD (k : SpK) : D := .tup [.tup [.int k.1, .int k.2.1], .tup [.int k.2.2.1, .int k.2.2.2]]
section
variable {K : PySem.W.Frag} {H H' : Hp} {M : MH} {a b : Addr} {k : SpK}
theorem sp_of {v : V} (r : Rep K H (spD k) v) : ∃ b, v = .ref b ∧ SpAt K H b k := by
  unfold spD at r
  rw [Rep] at r
  obtain ⟨b, xs, rfl, hx, rs⟩ := r
  obtain ⟨v1, v2, rfl, r1, r2⟩ := reps2 rs
  rw [Rep] at r1 r2
  obtain ⟨f, fs, rfl, hf, rf⟩ := r1
  obtain ⟨g, gs, rfl, hg, rg⟩ := r2
  obtain ⟨w1, w2, rfl, q1, q2⟩ := reps2 rf
  obtain ⟨w3, w4, rfl, q3, q4⟩ := reps2 rg
  rw [Rep] at q1 q2 q3 q4
  subst q1 q2 q3 q4
  exact ⟨b, rfl, f, g, hx, hf, hg⟩
theorem sp_rep (h : SpAt K H b k) : Rep K H (spD k) (.ref b) := by
  obtain ⟨f, g, hx, hf, hg⟩ := h
  unfold spD
  rw [Rep]
  refine ⟨b, _, rfl, hx, ?_⟩
  have i2 : ∀ (m n : Int), Reps K H [D.int m, D.int n] [V.int m, V.int n] := fun m n => reps_ints [m, n]
  rw [Reps]
  refine ⟨_, _, rfl, ?_, ?_⟩
  · rw [Rep]; exact ⟨f, _, rfl, hf, i2 _ _⟩
  · rw [Reps]
    refine ⟨_, _, rfl, ?_, ?_⟩
    · rw [Rep]; exact ⟨g, _, rfl, hg, i2 _ _⟩
    · rw [Reps]
theorem SpAt.mono (g : Grow K H H') (h : SpAt K H b k) : SpAt K H' b k := by
  obtain ⟨b', e, r⟩ := sp_of ((sp_rep h).mono g)
  cases e
  exact r
abbrev SpT := List (SpK × D)
def dsA (kvs : SpT) : PySem.W.Frag → Hp → Addr → Prop := fun K H a => ∃ xs : List SpE, (∀ P w, H a = some (.ext (dspF P w a xs))) ∧ xs.map (·.1) = kvs.map (·.1) ∧ (∀ x ∈ xs, SpAt K H x.2.1 x.1) ∧ Reps K H (kvs.map (·.2)) (xs.map (·.2.2))
theorem dsA_mono {kvs : SpT} (h : dsA kvs K H a) (g : Grow K H H') (e : H' a = H a) : dsA kvs K H' a := by
  obtain ⟨xs, h1, h2, h3, h4⟩ := h
  exact ⟨xs, fun P w => e.trans (h1 P w), h2, fun x hx => (h3 x hx).mono g, h4.mono g⟩
def dsM (kvs : SpT) : MO := .gen (dsA kvs)
theorem Abs.dsp {kvs : SpT} (h : Abs K H M) (e : M a = some (dsM kvs)) : dsA kvs K H a := (h a _ e).1
theorem dsA.absO {kvs : SpT} (h : dsA kvs K H a) (ne : H a ≠ none) : AbsO K H a (dsM kvs) := ⟨h, ne, fun H' g e => dsA_mono h g e⟩
theorem Abs.newDs {p : Addr} (P : Program) (w : World) (h : Abs K H M) (hp : H p = none) : Abs K (upd H p (.ext (dspF P w p []))) (updM M p (dsM [])) := fun a u e => by
  by_cases ne : a = p
  · subst ne
    rw [updM_same] at e; cases e
    exact dsA.absO ⟨[], (fun P w => upd_same), rfl, (fun x hx => by simp at hx), (by simp [Reps])⟩ (by rw [upd_same]; simp)
  · rw [updM_ne ne] at e
    exact (h a u e).stay (.new hp) (upd_ne ne)
def valD (kvs : SpT) (k : SpK) : Option D := (kvs.find? fun x => decide (x.1 = k)).map (·.2)
def putD (kvs : SpT) (k : SpK) (d : D) : SpT := if (kvs.any fun x => decide (x.1 = k)) = true then kvs.map (fun x => if x.1 = k then (x.1, d) else x) else kvs ++ [(k, d)]
theorem ds_val (k : SpK) : ∀ {kvs : SpT} {xs : List SpE}, xs.map (·.1) = kvs.map (·.1) → Reps K H (kvs.map (·.2)) (xs.map (·.2.2)) → (∀ d, valD kvs k = some d → ∃ v, valS xs k = some v ∧ Rep K H d v) ∧ (valD kvs k = none → valS xs k = none) ∧ ((xs.any fun x => decide (x.1 = k)) = kvs.any fun x => decide (x.1 = k))
  | [], [], _, _ => ⟨(fun d h => by simp [valD] at h), (fun _ => rfl), rfl⟩
  | [], x :: xs, h, _ => by cases h
  | y :: kvs, [], h, _ => by cases h
  | y :: kvs, x :: xs, h, r => by
    rw [List.map_cons, List.map_cons] at h
    injection h with h1 h2
    rw [List.map_cons, List.map_cons, Reps] at r
    obtain ⟨v, vs, e, r1, r2⟩ := r
    injection e with e1 e2
    subst e1 e2
    obtain ⟨i1, i2, i3⟩ := ds_val k h2 r2
    by_cases e : y.1 = k
    · have e' : x.1 = k := h1.trans e
      refine ⟨fun d hd => ?_, fun hn => ?_, ?_⟩
      · simp [valD, List.find?_cons, e] at hd
        subst hd
        exact ⟨x.2.2, by simp [valS, List.find?_cons, e'], r1⟩
      · simp [valD, List.find?_cons, e] at hn
      · simp [e, e']
    · have e' : ¬ x.1 = k := fun z => e (h1.symm.trans z)
      refine ⟨fun d hd => ?_, fun hn => ?_, ?_⟩
      · obtain ⟨v, q1, q2⟩ := i1 d (by simpa [valD, List.find?_cons, e] using hd)
        exact ⟨v, by simpa [valS, List.find?_cons, e'] using q1, q2⟩
      · have := i2 (by simpa [valD, List.find?_cons, e] using hn)
        simpa [valS, List.find?_cons, e'] using this
      · rw [List.any_cons, List.any_cons, i3, decide_eq_false e, decide_eq_false e']
theorem ds_repl (k : SpK) {d : D} {v : V} (r : Rep K H d v) : ∀ {kvs : SpT} {xs : List SpE}, xs.map (·.1) = kvs.map (·.1) → Reps K H (kvs.map (·.2)) (xs.map (·.2.2)) →
    (xs.map fun x => if x.1 = k then (x.1, x.2.1, v) else x).map (·.1) = (kvs.map fun x => if x.1 = k then (x.1, d) else x).map (·.1) ∧ Reps K H ((kvs.map fun x => if x.1 = k then (x.1, d) else x).map (·.2)) ((xs.map fun x => if x.1 = k then (x.1, x.2.1, v) else x).map (·.2.2))
  | [], [], _, h => ⟨rfl, h⟩
  | [], x :: xs, h, _ => by cases h
  | y :: kvs, [], h, _ => by cases h
  | y :: kvs, x :: xs, h, q => by
    rw [List.map_cons, List.map_cons] at h
    injection h with h1 h2
    rw [List.map_cons, List.map_cons, Reps] at q
    obtain ⟨v', vs, e, r1, r2⟩ := q
    injection e with e1 e2
    subst e1 e2
    obtain ⟨i1, i2⟩ := ds_repl k r h2 r2
    by_cases e : y.1 = k
    · have e' : x.1 = k := h1.trans e
      simp only [List.map_cons, if_pos e, if_pos e']
      exact ⟨by rw [i1]; exact congrArg (· :: _) h1, by rw [Reps]; exact ⟨_, _, rfl, r, i2⟩⟩
    · have e' : ¬ x.1 = k := fun z => e (h1.symm.trans z)
      simp only [List.map_cons, if_neg e, if_neg e']
      exact ⟨by rw [i1]; exact congrArg (· :: _) h1, by rw [Reps]; exact ⟨_, _, rfl, r1, i2⟩⟩
theorem ds_put {kvs : SpT} {xs : List SpE} {d : D} {v : V} (h1 : xs.map (·.1) = kvs.map (·.1)) (h2 : Reps K H (kvs.map (·.2)) (xs.map (·.2.2))) (h3 : ∀ x ∈ xs, SpAt K H x.2.1 x.1) (hb : SpAt K H b k) (r : Rep K H d v) :
    (putS xs k b v).map (·.1) = (putD kvs k d).map (·.1) ∧ Reps K H ((putD kvs k d).map (·.2)) ((putS xs k b v).map (·.2.2)) ∧ ∀ x ∈ putS xs k b v, SpAt K H x.2.1 x.1 := by
  unfold putS putD
  rw [(ds_val k h1 h2).2.2]
  by_cases e : (kvs.any fun x => decide (x.1 = k)) = true
  · rw [if_pos e, if_pos e]
    obtain ⟨i1, i2⟩ := ds_repl k r h1 h2
    refine ⟨i1, i2, fun x hx => ?_⟩
    obtain ⟨y, hy, rfl⟩ := List.mem_map.mp hx
    have := h3 y hy
    by_cases e : y.1 = k
    · rw [if_pos e]; exact this
    · rw [if_neg e]; exact this
  · rw [if_neg e, if_neg e]
    refine ⟨by rw [List.map_append, List.map_append, h1]; rfl, ?_, fun x hx => ?_⟩
    · rw [List.map_append, List.map_append]
      exact h2.append (by rw [List.map_cons, List.map_cons, List.map_nil, List.map_nil, Reps]; exact ⟨_, _, rfl, r, by rw [Reps]⟩)
    · rcases List.mem_append.mp hx with z | z
      · exact h3 x z
      · have : x = (k, b, v) := by simpa using z
        subst this; exact hb
theorem Grow.ext {φ : Heap → Prop} {o : HO} (h : H a = some (.ext φ)) : Grow K H (upd H a o) := .put (fun xs e => by rw [h] at e; cases e) (fun u xs e => by rw [h] at e; cases e)
theorem Abs.putDs {kvs : SpT} {xs : List SpE} {d : D} {v : V} (P : Program) (w : World) (h : Abs K H M) (hx : ∀ P w, H a = some (.ext (dspF P w a xs))) (h1 : xs.map (·.1) = kvs.map (·.1)) (h2 : Reps K H (kvs.map (·.2)) (xs.map (·.2.2))) (h3 : ∀ x ∈ xs, SpAt K H x.2.1 x.1) (hb : SpAt K H b k) (r : Rep K H d v) :
    Abs K (upd H a (.ext (dspF P w a (putS xs k b v)))) (updM M a (dsM (putD kvs k d))) := fun c u e => by
  have g : Grow K H (upd H a (.ext (dspF P w a (putS xs k b v)))) := .ext (hx P w)
  by_cases ne : c = a
  · subst ne
    rw [updM_same] at e; cases e
    obtain ⟨q1, q2, q3⟩ := ds_put h1 h2 h3 hb r
    exact dsA.absO ⟨_, fun P w => upd_same, q1, fun x hx => (q3 x hx).mono g, q2.mono g⟩ (by rw [upd_same]; simp)
  · rw [updM_ne ne] at e
    exact (h c u e).stay g (upd_ne ne)
end
section
variable {X : Cx}
/-- {}, a dict of spots -/
def tDsNewD : TD := fun _ M Q => ∀ p, M p = none → Q (.ref p) (updM M p (dsM []))
theorem de_dsnew {pos : Pos} : DE X (.Dict [] [] pos) tDsNewD := pe_imp pe_dsnew fun σ H Q ⟨δ, M, R, hs, hM, q, fin⟩ => fun p hp => fin _ _ _ _ (.new hp) (by rw [Rep]) (hM.newDs _ _ hp) (q p (hM.fresh hp))
/-- d[spot] -/
def tDsGetD (td ty : TD) : TD := fun δ M Q => td δ M fun x M1 => ty δ M1 fun y M2 => ∃ l kvs k d, x = .ref l ∧ y = spD k ∧ M2 l = some (dsM kvs) ∧ valD kvs k = some d ∧ Q d M2
/-- d[spot] = v -/
def tDsPutD (td ty tv : TD) : TSD := fun B δ M => tv δ M fun d M1 => td δ M1 fun x M2 => ty δ M2 fun y M3 => ∃ l kvs k, x = .ref l ∧ y = spD k ∧ M3 l = some (dsM kvs) ∧ kvs.length < 1000000 ∧ B.nx δ (updM M3 l (dsM (putD kvs k d)))
theorem ds_dsput {o i value : Expr} {td ty tv : TD} {pos pos' : Pos} (hu : X.A.units + 66 < cLine) (ho : DE X o td) (hi : DE X i ty) (hv : DE X value tv) (hs : swapsWith value (some (.Subscript o i pos')) pos.line X.env = pure false := by rfl) : DSt X (.Assign [.Subscript o i pos'] value pos) (tDsPutD td ty tv) :=
  ps_imp (ps_dsput (by omega) ho hi hv hs) fun D σ H ⟨δ, M, hs, hM, B, ok, q⟩ => ⟨δ, M, _, hs, hM, q, fun d M1 v H1 g1 r1 a1 q1 => ⟨δ, M1, _, hs.mono g1, a1, q1, fun x M2 u H2 g2 r2 a2 q2 => ⟨δ, M2, _, (hs.mono g1).mono g2, a2, q2, fun y M3 u3 H3 g3 r3 a3 ⟨l, kvs, k, ex, ey, hl, hn, q3⟩ => by
    subst ex ey
    rw [Rep] at r2; subst r2
    obtain ⟨b, rfl, sp⟩ := sp_of r3
    obtain ⟨xs, h1, h2, h3, h4⟩ := a3.dsp hl
    have hlen : xs.length = kvs.length := by have := congrArg List.length h2; simpa using this
    have sz : 1000000 ≤ sizeLine := Nat.le_of_ble_eq_true rfl
    refine ⟨l, b, xs, k, rfl, rfl, ⟨h1 _ _, h3, sp⟩, by omega, ?_⟩
    have g4 : Grow X.K H3 (upd H3 l (.ext (dspF X.prog X.w l (putS xs k b v)))) := .ext (h1 X.prog X.w)
    exact ok.nx _ _ _ _ (((g1.trans g2).trans g3).trans g4) (hs.mono (((g1.trans g2).trans g3).trans g4)) (a3.putDs _ _ h1 h2 h4 h3 sp (r1.mono (g2.trans g3))) q3⟩⟩⟩
/-- d.setdefault(spot, v) -/
def tDsSdD (to : TD) (t : TAD) : TD := fun δ M Q => to δ M fun x M1 => ∃ l kvs0, x = .ref l ∧ M1 l = some (dsM kvs0) ∧ t δ M1 fun ds M2 => ∃ kvs k d, ds = [spD k, d] ∧ M2 l = some (dsM kvs) ∧ kvs.length < 1000000 ∧ (∀ d', valD kvs k = some d' → Q d' M2) ∧ (valD kvs k = none → Q d (updM M2 l (dsM (putD kvs k d))))
end
end SD

set_option Elab.async false
set_option linter.all false
set_option maxRecDepth 100000
/-! isinstance of a list of the store. -/
namespace SD
open PySem PySem.Spec PyProof.Rows L2
def rIsInstL (K : PySem.W.Frag) : RC := fun ds M Q => rIsInst K ds M Q ∨ ∃ a xs n b, ds = [.ref a, .ty n] ∧ M a = some (.lst xs) ∧ PySem.W.kitOne K (.type "list") (.type n) = some b ∧ Q (.bl b) M
section
variable {X : Cx}
theorem cd_isinstL {K : PySem.W.Frag} (hK : X.K = K) : CallD X (.builtin "isinstance") (rIsInstL K) := by
  subst hK
  intro pins s σ H vs us Q I rv ⟨ds, M, R, rs, a, q, fin⟩
  rcases q with q | ⟨x, xs, n, b, ed, hM, hk, q⟩
  · exact cd_isinst pins s σ H vs us Q I rv ⟨ds, M, R, rs, a, q, fin⟩
  · subst ed
    obtain ⟨v, u, rfl, r, r'⟩ := reps2 rs
    rw [Rep] at r; subst r
    rw [Rep] at r'; subst r'
    obtain ⟨v', u', rfl, rw0, ru⟩ := vals2 rv
    cases (show v' = Value.ref x from rw0)
    cases (show u' = Value.type n from ru)
    obtain ⟨ys, hy, _⟩ := a _ _ hM
    obtain ⟨its, _, ⟨o, m, z1, z2, _⟩, _⟩ := I.list (SqL.of hy)
    have h : ∀ tk, EP X pins σ Q (.bool b) { s with toks := tk } := fun tk => ⟨.bl b, H, I.tok tk, rfl, fin _ _ _ _ .refl (by rw [Rep]) a q⟩
    exact PySem.W.kia_one PySem.W.kitx_list I.kIn ⟨o, z1, z2⟩ hk (fun z => nomatch z) h
end
end SD

set_option Elab.async false
set_option linter.all false
set_option maxRecDepth 100000
/-! a tree of asks, told by keys that are all unlike: what the sort of fewer than 64 items tells. -/
namespace SD
open PySem PyProof.Rows
section
variable {α β : Type} {n : Nat} {k : Nat → Int}
def kwp (n : Nat) (k : Nat → Int) {α : Type} : PySem.W.KasT α → (α → Prop) → Prop
  | .ret a, Q => Q a
  | .ask i j f, Q => i < n ∧ j < n ∧ kwp n k (f (decide (k i < k j))) Q
theorem kwp_bind {f : α → PySem.W.KasT β} {Q : β → Prop} : ∀ (t : PySem.W.KasT α), kwp n k t (fun a => kwp n k (f a) Q) → kwp n k (t.bind f) Q
  | .ret _, h => h
  | .ask i j g, h => ⟨h.1, h.2.1, kwp_bind _ h.2.2⟩
theorem kwp_mono {Q R : α → Prop} (hq : ∀ a, Q a → R a) : ∀ (t : PySem.W.KasT α), kwp n k t Q → kwp n k t R
  | .ret _, h => hq _ h
  | .ask i j g, h => ⟨h.1, h.2.1, kwp_mono hq _ h.2.2⟩
theorem kwp_run {cmp : Nat → Nat → (Bool → Shared → Prop) → Shared → Prop} {s : Shared} (hc : ∀ i j (C : Bool → Shared → Prop), i < n → j < n → C (decide (k i < k j)) s → cmp i j C s) {Q : α → Shared → Prop} : ∀ (t : PySem.W.KasT α), kwp n k t (fun a => Q a s) → t.kasWp cmp Q s
  | .ret _, h => h
  | .ask i j g, h => hc i j _ h.1 h.2.1 (kwp_run hc _ h.2.2)
/-- an order of 0 .. n - 1 -/
structure Pmu (n : Nat) (p : Array Nat) : Prop where
  perm : p.Perm (List.range n).toArray
theorem Pmu.size {p : Array Nat} (h : Pmu n p) : p.size = n := by have := h.perm.size_eq; simpa using this
theorem Pmu.lt {p : Array Nat} (h : Pmu n p) {i : Nat} (hi : i < n) : p.getD i 0 < n := by
  have hi' : i < p.size := by rw [h.size]; exact hi
  have : p[i] ∈ (List.range n).toArray := h.perm.mem_iff.mp (Array.getElem_mem hi')
  simpa [Array.getD, hi'] using this
theorem Pmu.inj {p : Array Nat} (h : Pmu n p) {i j : Nat} (hi : i < n) (hj : j < n) (e : p.getD i 0 = p.getD j 0) : i = j := by
  have hi' : i < p.size := by rw [h.size]; exact hi
  have hj' : j < p.size := by rw [h.size]; exact hj
  have nd : p.toList.Nodup := (Array.perm_iff_toList_perm.mp h.perm).nodup_iff.mpr (by simpa using List.nodup_range)
  have e' : p.toList[i] = p.toList[j] := by simpa [Array.getD, hi', hj'] using e
  have pw := List.pairwise_iff_getElem.mp nd
  rcases Nat.lt_trichotomy i j with h | h | h
  · exact absurd e' (pw i j _ _ h)
  · exact h
  · exact absurd e'.symm (pw j i _ _ h)
def ky (k : Nat → Int) (p : Array Nat) (i : Nat) : Int := k (p.getD i 0)
def Inj (n : Nat) (k : Nat → Int) : Prop := ∀ i j, i < n → j < n → k i = k j → i = j
theorem ky_inj (hk : Inj n k) {p : Array Nat} (h : Pmu n p) {i j : Nat} (hi : i < n) (hj : j < n) (hij : i ≠ j) : ky k p i ≠ ky k p j := fun e => hij (h.inj hi hj (hk _ _ (h.lt hi) (h.lt hj) e))
def Up (k : Nat → Int) (p : Array Nat) (m : Nat) : Prop := ∀ i j, i < j → j < m → ky k p i < ky k p j
def Dn (k : Nat → Int) (p : Array Nat) (m : Nat) : Prop := ∀ i j, i < j → j < m → ky k p j < ky k p i
theorem up_succ {p : Array Nat} {m : Nat} (h1 : 1 ≤ m) (h : Up k p m) (h2 : ky k p (m - 1) < ky k p m) : Up k p (m + 1) := fun i j hij hj => by
  by_cases e : j = m
  · subst e
    by_cases e' : i = j - 1
    · subst e'; exact h2
    · have := h i (j - 1) (by omega) (by omega); omega
  · exact h i j hij (by omega)
theorem dn_succ {p : Array Nat} {m : Nat} (h1 : 1 ≤ m) (h : Dn k p m) (h2 : ky k p m < ky k p (m - 1)) : Dn k p (m + 1) := fun i j hij hj => by
  by_cases e : j = m
  · subst e
    by_cases e' : i = j - 1
    · subst e'; exact h2
    · have := h i (j - 1) (by omega) (by omega); omega
  · exact h i j hij (by omega)
theorem kwp_asc (hk : Inj n k) {p : Array Nat} (hp : Pmu n p) : ∀ (f m : Nat), 1 ≤ m → m + f = n → Up k p m → kwp n k (PySem.W.kas_asc p f m) fun r => m ≤ r ∧ r ≤ n ∧ Up k p r ∧ (r = n ∨ ky k p r < ky k p (r - 1))
  | 0, m, h1, e, u => ⟨Nat.le_refl _, by omega, u, .inl (by omega)⟩
  | f + 1, m, h1, e, u => by
    refine ⟨hp.lt (by omega), hp.lt (by omega), ?_⟩
    by_cases c : k (p.getD m 0) < k (p.getD (m - 1) 0)
    · rw [decide_eq_true c]
      exact ⟨Nat.le_refl _, by omega, u, .inr c⟩
    · rw [decide_eq_false c]
      have ne := ky_inj hk hp (i := m) (j := m - 1) (by omega) (by omega) (by omega)
      refine kwp_mono (fun r h => ⟨by omega, h.2⟩) _ (kwp_asc hk hp f (m + 1) (by omega) (by omega) (up_succ h1 u ?_))
      unfold ky at ne ⊢; omega
theorem kwp_desc (hk : Inj n k) {p : Array Nat} (hp : Pmu n p) : ∀ (f m : Nat), 1 ≤ m → m + f = n → Dn k p m → kwp n k (PySem.W.kas_desc f p m 0) fun r => r.1 = p ∧ r.2.2 = 0 ∧ m ≤ r.2.1 ∧ r.2.1 ≤ n ∧ Dn k p r.2.1
  | 0, m, h1, e, u => ⟨rfl, rfl, Nat.le_refl _, by show m ≤ n; omega, u⟩
  | f + 1, m, h1, e, u => by
    refine ⟨hp.lt (by omega), hp.lt (by omega), ?_⟩
    by_cases c : k (p.getD m 0) < k (p.getD (m - 1) 0)
    · rw [decide_eq_true c]
      exact kwp_mono (fun r h => ⟨h.1, h.2.1, by omega, h.2.2.2⟩) _ (kwp_desc hk hp f (m + 1) (by omega) (by omega) (dn_succ h1 u c))
    · rw [decide_eq_false c]
      have ne := ky_inj hk hp (i := m) (j := m - 1) (by omega) (by omega) (by omega)
      have c2 : k (p.getD (m - 1) 0) < k (p.getD m 0) := by unfold ky at ne; omega
      refine ⟨hp.lt (by omega), hp.lt (by omega), ?_⟩
      rw [decide_eq_true c2]
      exact ⟨rfl, rfl, Nat.le_refl _, by show m ≤ n; omega, u⟩
theorem getD_eq (p : Array Nat) (i : Nat) : p.getD i 0 = (p[i]?).getD 0 := by
  simp [Array.getD_eq_getD_getElem?]
theorem rev_pmu {p : Array Nat} {m : Nat} (hp : Pmu n p) : Pmu n (PySem.W.kas_rev p 0 m) := ⟨(mirror_perm _ _ _ _).trans hp.perm⟩
theorem rev_up {p : Array Nat} {m : Nat} (hp : Pmu n p) (hm : m ≤ n) (h : Dn k p m) : Up k (PySem.W.kas_rev p 0 m) m := fun i j hij hj => by
  unfold ky PySem.W.kas_rev
  rw [getD_eq, getD_eq, getElem?_mirror_all (by rw [hp.size]; exact hm), getElem?_mirror_all (by rw [hp.size]; exact hm), if_pos ⟨by omega, by omega⟩, if_pos ⟨by omega, hj⟩, ← getD_eq, ← getD_eq]
  exact h (0 + m - 1 - j) (0 + m - 1 - i) (by omega) (by omega)
theorem kwp_tail3 (hk : Inj n k) {p : Array Nat} (hp : Pmu n p) {m : Nat} (h1 : 1 ≤ m) (hm : m ≤ n) (d : Dn k p m) : kwp n k (PySem.W.kas_tail3 m n p) fun r => Pmu n r.2 ∧ 1 ≤ r.1 ∧ r.1 ≤ n ∧ Up k r.2 r.1 :=
  kwp_bind _ (kwp_mono (fun r h => show Pmu n _ ∧ _ from ⟨rev_pmu hp, by show 1 ≤ r; omega, h.2.1, h.2.2.1⟩) _ (kwp_asc hk (rev_pmu hp) (n - m) m h1 (by omega) (rev_up hp hm d)))
theorem kwp_count (hk : Inj n k) (hn : 2 ≤ n) {p : Array Nat} (hp : Pmu n p) : kwp n k (PySem.W.kas_count n p) fun r => Pmu n r.2 ∧ 1 ≤ r.1 ∧ r.1 ≤ n ∧ Up k r.2 r.1 := by
  refine kwp_bind _ (kwp_mono (fun r h => ?_) _ (kwp_asc hk hp (n - 1) 1 (Nat.le_refl _) (by omega) fun i j hij hj => by omega))
  obtain ⟨r1, r2, u, hr⟩ := h
  by_cases e : r = n
  · rw [if_pos (by simp [e])]
    exact ⟨hp, r1, r2, u⟩
  · rw [if_neg (by simp [e])]
    by_cases e1 : r > 1
    · rw [if_pos e1]
      refine ⟨hp.lt (by omega), hp.lt (by omega), ?_⟩
      have : k (p.getD 0 0) < k (p.getD (r - 1) 0) := u 0 (r - 1) (by omega) (by omega)
      rw [decide_eq_true this]
      exact ⟨hp, r1, r2, u⟩
    · rw [if_neg e1]
      have er : r = 1 := by omega
      subst er
      refine kwp_bind _ (kwp_mono (fun q h => ?_) _ (kwp_desc hk hp (n - (1 + 1)) (1 + 1) (by omega) (by omega) fun i j hij hj => ?_))
      · obtain ⟨e2, e3, e4, e5, d⟩ := h
        rw [if_neg (by rw [e3]; exact Nat.lt_irrefl 0), e2]
        exact kwp_tail3 hk hp (by omega) e5 d
      · obtain rfl : i = 0 := by omega
        obtain rfl : j = 1 := by omega
        exact hr.resolve_left e
theorem kwp_place (hk : Inj n k) {p : Array Nat} (hp : Pmu n p) {m : Nat} (hm : m < n) (u : Up k p m) : ∀ (f l r : Nat), r ≤ l + f → l ≤ r → r ≤ m → (∀ i, i < l → ky k p i < ky k p m) → (∀ i, r ≤ i → i < m → ky k p m < ky k p i) →
    kwp n k (PySem.W.kas_place p m f l r) fun x => x ≤ m ∧ (∀ i, i < x → ky k p i < ky k p m) ∧ (∀ i, x ≤ i → i < m → ky k p m < ky k p i)
  | 0, l, r, h1, h2, h3, a, b => ⟨by omega, a, fun i hi hm => b i (by omega) hm⟩
  | f + 1, l, r, h1, h2, h3, a, b => by
    show kwp n k (if l ≥ r then _ else _) _
    by_cases e : l ≥ r
    · rw [if_pos e]
      exact ⟨by omega, a, fun i hi hm => b i (by omega) hm⟩
    · rw [if_neg e]
      refine ⟨hp.lt hm, hp.lt (by omega), ?_⟩
      by_cases c : k (p.getD m 0) < k (p.getD ((l + r) / 2) 0)
      · rw [decide_eq_true c]
        refine kwp_place hk hp hm u f l ((l + r) / 2) (by omega) (by omega) (by omega) a fun i hi him => ?_
        by_cases ei : i = (l + r) / 2
        · subst ei; exact c
        · have := u ((l + r) / 2) i (by omega) him
          unfold ky at this ⊢; omega
      · rw [decide_eq_false c]
        have ne := ky_inj hk hp (i := m) (j := (l + r) / 2) hm (by omega) (by omega)
        refine kwp_place hk hp hm u f ((l + r) / 2 + 1) r (by omega) (by omega) h3 (fun i hi => ?_) b
        by_cases ei : i = (l + r) / 2
        · subst ei; unfold ky at ne ⊢; omega
        · have := u i ((l + r) / 2) (by omega) (by omega)
          unfold ky at ne this ⊢; omega
theorem bub_ky {p : Array Nat} (hp : Pmu n p) {m x : Nat} (hm : m < n) (hx : x ≤ m) (i : Nat) : ky k (bubble p m (m - x)) i = if i = x then ky k p m else if x < i ∧ i ≤ m then ky k p (i - 1) else ky k p i := by
  unfold ky
  rw [getD_eq, getElem?_bubble (by rw [hp.size]; exact hm) _ (by omega), show m - (m - x) = x by omega]
  split
  · rw [← getD_eq]
  · split
    · rw [← getD_eq]
    · rw [← getD_eq]
theorem kwp_bin (hk : Inj n k) : ∀ (f : Nat) (p : Array Nat) (m : Nat), Pmu n p → m + f = n → Up k p m → kwp n k (PySem.W.kas_bin f p m) fun q => Pmu n q ∧ Up k q n
  | 0, p, m, hp, e, u => ⟨hp, by rw [show n = m by omega]; exact u⟩
  | f + 1, p, m, hp, e, u => by
    have hm : m < n := by omega
    refine kwp_bind _ (kwp_mono (fun x h => ?_) _ (kwp_place hk hp hm u m 0 m (by omega) (by omega) (Nat.le_refl _) (fun i hi => by omega) fun i hi him => by omega))
    obtain ⟨hx, a, b⟩ := h
    refine kwp_bin hk f _ (m + 1) ⟨(bubble_perm _ _ _).trans hp.perm⟩ (by omega) fun i j hij hj => ?_
    rw [bub_ky hp hm hx, bub_ky hp hm hx]
    by_cases e1 : i = x
    · rw [if_pos e1, if_neg (by omega), if_pos ⟨by omega, by omega⟩]
      exact b _ (by omega) (by omega)
    · rw [if_neg e1]
      by_cases e2 : x < i
      · rw [if_pos ⟨e2, by omega⟩, if_neg (by omega), if_pos ⟨by omega, by omega⟩]
        exact u _ _ (by omega) (by omega)
      · rw [if_neg (by omega)]
        by_cases e3 : j = x
        · rw [if_pos e3]; exact a i (by omega)
        · rw [if_neg e3]
          by_cases e4 : x < j
          · rw [if_pos ⟨e4, by omega⟩]
            by_cases e5 : i = j - 1
            · omega
            · exact u _ _ (by omega) (by omega)
          · rw [if_neg (by omega)]
            exact u _ _ hij (by omega)
theorem kwp_sort (hk : Inj n k) (hn : 2 ≤ n) : kwp n k (PySem.W.kas_sort n) fun p => Pmu n p ∧ Up k p n := by
  refine kwp_bind _ (kwp_mono (fun r h => ?_) _ (kwp_count hk hn (p := (List.range n).toArray) ⟨Array.Perm.refl _⟩))
  obtain ⟨hp, h1, h2, u⟩ := h
  by_cases e : r.1 < n
  · rw [if_pos e, show max r.1 1 = r.1 by omega]
    exact kwp_bin hk _ _ _ hp (by omega) u
  · rw [if_neg e]
    have : r.1 = n := by omega
    exact ⟨hp, by rw [this] at u; exact u⟩
end
end SD

set_option Elab.async false
set_option linter.all false
set_option maxRecDepth 100000
/-! sorted of a list of pairs of ints, all unlike, fewer than 64. -/
namespace SD
open PySem PySem.Spec PyProof.Rows L2
section
variable {prog : Program} {w : World} {A : Around} {E : Value → Shared → Prop} {s : Shared}
abbrev srtE (h : Heap) (a : Addr) (vs : List Value) : Heap := ((h.update a (Obj.mapSeq fun _ => #[])).push (seqObj "tuple" vs.toArray 0)).push (seqObj "list" #[] 0)
theorem srtE_at {h : Heap} {a : Addr} {vs : List Value} {n : Nat} (ho : h.get? a = some (seqObj "list" vs.toArray n)) : ∃ e, (h.update a (Obj.mapSeq fun _ => #[])).get? a = some (seqObj "list" #[] e) ∧ (srtE h a vs).get? a = some (seqObj "list" #[] e) :=
  ⟨_, get?_update_seq ho (fun _ => #[]), Heap.get?_push_of_some _ (Heap.get?_push_of_some _ (get?_update_seq ho (fun _ => #[])))⟩
theorem srtE_old {h : Heap} {a b : Addr} {vs : List Value} {o : Obj} (hb : b ≠ a) (e : h.get? b = some o) : (srtE h a vs).get? b = some o :=
  Heap.get?_push_of_some _ (Heap.get?_push_of_some _ (((Heap.SameBut.update h a (Obj.mapSeq fun _ => (#[] : Array Value))).2 b hb).trans e))
def srtOut (vs : List Value) (p : Array Nat) : Array Value := List.toArray (p.toList.map fun i => vs.getD i Value.none)
theorem lsort_by {a : Addr} {vs : List Value} {n : Nat} {k : Nat → Int} {κ : SortKind} {P : PySem.Fin → Shared → Prop} (ho : s.heap.get? a = some (seqObj "list" vs.toArray n)) (h64 : vs.length < 64) (hinj : Inj vs.length k)
    (hk : 2 ≤ vs.length → ∀ (R : SortKind → Shared → Prop) (E' : Value → Shared → Prop), R κ { s with heap := srtE s.heap a vs } → wpAny (model prog w) A (keyKind' vs.toArray) R E' { s with heap := srtE s.heap a vs })
    (hc : ∀ i j (C : Bool → Shared → Prop), i < vs.length → j < vs.length → C (decide (k i < k j)) { s with heap := srtE s.heap a vs } → PySem.W.kas_ask prog w A κ vs i j C { s with heap := srtE s.heap a vs })
    (h : ∀ p, Pmu vs.length p → Up k p vs.length → P (.done (.ret .none)) { s with heap := sortedHeap s.heap a vs (srtOut vs p) }) : wpAny (model prog w) A (Builtin.«list.sort» ⟨[.ref a], []⟩) P E s := by
  obtain ⟨e, ho1, ho6⟩ := srtE_at (vs := vs) ho
  rw [list_sort_plain]
  refine wpAny_bind (listItems_at ho rfl (wpAny_bind (listUpdate_at ho rfl ?_ (by rw [List.size_toArray, sizeLine_eq]; omega) (Nat.zero_le _))))
  refine wpAny_bind (seqEpoch_at ho1 rfl (wpAny_bind (wpAny_newTuple ?_ (by show vs.length ≤ _; rw [sizeLine_eq]; omega))))
  refine wpAny_bind (wpAny_newList (wpAny_holding ?_) (Nat.zero_le _))
  show wpAny (model prog w) A _ P E { s with heap := srtE s.heap a vs }
  dsimp only
  by_cases h2 : ¬ 2 ≤ vs.length
  · have hn : vs.toArray.size < 2 := by rw [List.size_toArray]; omega
    rw [if_pos hn, if_pos hn]
    refine wpAny_bind (wpAny_pure ?_)
    rw [StateT.run_pure]
    refine wpAny_bind (wpAny_pure ?_)
    dsimp only
    have hp : Pmu vs.length (List.range vs.length).toArray := ⟨Array.Perm.refl _⟩
    have hz : (srtOut vs (List.range vs.length).toArray).size = vs.length := by unfold srtOut; simp
    have har : arrOf (SortSt.mk' general' (vs.toArray.zip vs.toArray) #[] 7 none) = (List.range vs.length).toArray.map (PySem.W.kas_item (vs.toArray.zip vs.toArray)) := by
      have e := PySem.W.kas_range (vs.toArray.zip vs.toArray)
      rw [show (vs.toArray.zip vs.toArray).size = vs.length by simp] at e
      exact e.symm
    rw [show (arrOf (SortSt.mk' general' (vs.toArray.zip vs.toArray) #[] 7 none)).map (·.2) = srtOut vs (List.range vs.length).toArray from PySem.W.kat_snds rfl har]
    refine wpAny_bind (seqEpoch_at ho6 rfl (wpAny_bind (listUpdate_at ho6 rfl ?_ (Nat.zero_le _) (by rw [hz, sizeLine_eq]; omega))))
    simp only [bne_self_eq_false, Bool.false_eq_true, if_false]
    exact wpAny_pure (h _ hp fun i j hij hj => by omega)
  have h2 : 2 ≤ vs.length := Decidable.not_not.mp h2
  have hn : ¬ vs.toArray.size < 2 := by rw [List.size_toArray]; omega
  rw [if_neg hn, if_neg hn]
  refine wpAny_bind (hk h2 _ _ ?_)
  refine wpAny_bind (wpAny_mono (PySem.W.kat_run (Q := fun st s' => s' = { s with heap := srtE s.heap a vs } ∧ ∃ p, Pmu vs.length p ∧ Up k p vs.length ∧ arrOf st = p.map (PySem.W.kas_item (vs.toArray.zip vs.toArray)) ∧ failedOf st = none)
    (G := fun p s' => s' = { s with heap := srtE s.heap a vs } ∧ Pmu vs.length p ∧ Up k p vs.length) rfl h2 h64 (fun p st s' _ b1 b2 b3 => ⟨b3.1, p, b3.2.1, b3.2.2, b1, b2⟩)
    (kwp_run (n := vs.length) (k := k) hc _ (kwp_mono (fun p q => ⟨rfl, q⟩) _ (kwp_sort hinj h2)))) ?_ fun _ _ x => x)
  rintro ⟨⟨⟩, st⟩ s1 ⟨q0, p, hp, hu, har, hf⟩
  dsimp only at q0 ⊢
  subst q0
  have hz : (srtOut vs p).size = vs.length := by unfold srtOut; rw [List.size_toArray, List.length_map, Array.length_toList, hp.size]
  rw [show (arrOf st).map (·.2) = srtOut vs p from PySem.W.kat_snds rfl har]
  refine wpAny_bind (seqEpoch_at ho6 rfl (wpAny_bind (listUpdate_at ho6 rfl ?_ (Nat.zero_le _) (by rw [hz, sizeLine_eq]; omega))))
  rw [hf]
  simp only [bne_self_eq_false, Bool.false_eq_true, if_false]
  exact wpAny_pure (h p hp hu)
theorem sorted_by {l : Addr} {vs : List Value} {k : Nat → Int} {κ : SortKind} {Q : Value → Shared → Prop} (hl : s.heap.IsList l vs.toArray) (h64 : vs.length < 64) (hinj : Inj vs.length k)
    (hk : ∀ h' : Heap, (∀ b o, s.heap.get? b = some o → h'.get? b = some o) → 2 ≤ vs.length → ∀ (R : SortKind → Shared → Prop) (E' : Value → Shared → Prop), R κ { s with heap := h' } → wpAny (model prog w) A.in1.in1 (keyKind' vs.toArray) R E' { s with heap := h' })
    (hc : ∀ h' : Heap, (∀ b o, s.heap.get? b = some o → h'.get? b = some o) → ∀ i j (C : Bool → Shared → Prop), i < vs.length → j < vs.length → C (decide (k i < k j)) { s with heap := h' } → PySem.W.kas_ask prog w A.in1.in1 κ vs i j C { s with heap := h' })
    (h : ∀ p, Pmu vs.length p → Up k p vs.length → Q (.ref (s.heap.objs.size + 1)) { s with heap := sortedAll s.heap vs (srtOut vs p) }) : wpAny (model prog w) A (call (.builtin "sorted") [.ref l]) Q E s := by
  refine Calls.call_function_entry kind_sorted plain_sorted entry_sorted (args_sorted1 _) ?_
  unfold Builtin.«sorted»
  refine wpAny_bind (m := checkCount "sorted" 1 1 _) (wpAny_pure (wpAny_bind (collect_list hl ?_ (by rw [sizeLine_eq]; omega))))
  refine wpAny_bind (wpAny_newList ?_ (by rw [sizeLine_eq]; omega))
  generalize e1 : ((s.heap.push (seqObj "list" #[] 0)).update s.heap.objs.size (Obj.mapSeq (· ++ vs.toArray))) = h1
  have z1 : h1.objs.size = s.heap.objs.size + 1 := by rw [← e1, Heap.size_update, size_push']
  have o1 : ∀ b o, s.heap.get? b = some o → h1.get? b = some o := fun b o q => by
    rw [← e1, Heap.get?_update_ne _ _ _ _ (Nat.ne_of_lt (Heap.lt_size q)), Heap.get?_push_ne _ _ _ (Nat.ne_of_lt (Heap.lt_size q))]
    exact q
  have at1 : (h1.push (seqObj "list" vs.toArray 0)).get? (s.heap.objs.size + 1) = some (seqObj "list" vs.toArray 0) := by rw [← z1]; exact Heap.get?_push_size _ rfl
  show wpAny _ _ _ _ _ { s with heap := h1.push (seqObj "list" vs.toArray 0) }
  rw [z1]
  have kp : ∀ b o, s.heap.get? b = some o → (srtE (h1.push (seqObj "list" vs.toArray 0)) (s.heap.objs.size + 1) vs).get? b = some o := fun b o q =>
    srtE_old (Nat.ne_of_lt (Nat.lt_succ_of_lt (Heap.lt_size q))) (Heap.get?_push_of_some _ (o1 b o q))
  refine wpAny_bind (wpAny_holding (wpAny_call_entry slot_list_sort ⟨_, at1, rfl⟩ entry_list_sort (lsort_by (s := { s with heap := h1.push (seqObj "list" vs.toArray 0) }) at1 h64 hinj (hk _ kp) (hc _ kp) fun p hp hu => ⟨_, rfl, wpAny_pure ⟨_, rfl, ?_⟩⟩) (args_list_sort _)))
  have := h p hp hu
  unfold sortedAll at this
  rw [e1] at this
  exact this
end
end SD

set_option Elab.async false
set_option linter.all false
set_option maxRecDepth 100000
/-! sorted of a list of pairs of ints: as a call. -/
namespace SD
open PySem PySem.Spec PyProof.Rows L2
section
variable {X : Cx}
def p0 (us : List (Int × Int)) (i : Nat) : Int × Int := us.getD i (0, 0)
def pky (us : List (Int × Int)) (i : Nat) : Int := 100 * (p0 us i).1 + (p0 us i).2
def Pb (us : List (Int × Int)) : Prop := us.length < 64 ∧ us.Nodup ∧ ∀ u ∈ us, 0 ≤ u.2 ∧ u.2 < 100
theorem p0_mem {us : List (Int × Int)} {i : Nat} (h : i < us.length) : p0 us i ∈ us := by
  unfold p0; rw [List.getD_eq_getElem?_getD, List.getElem?_eq_getElem h]; exact List.getElem_mem h
theorem Pb.inj {us : List (Int × Int)} (h : Pb us) : Inj us.length (pky us) := fun i j hi hj e => by
  have b1 := h.2.2 _ (p0_mem hi)
  have b2 := h.2.2 _ (p0_mem hj)
  unfold pky at e
  have e1 : p0 us i = p0 us j := Prod.ext (by omega) (by omega)
  unfold p0 at e1
  rw [List.getD_eq_getElem?_getD, List.getD_eq_getElem?_getD, List.getElem?_eq_getElem hi, List.getElem?_eq_getElem hj] at e1
  have pw := List.pairwise_iff_getElem.mp h.2.1
  rcases Nat.lt_trichotomy i j with q | q | q
  · exact absurd e1 (pw i j _ _ q)
  · exact q
  · exact absurd e1.symm (pw j i _ _ q)
theorem vals_at {xs : List V} {its : List Value} (h : Vals xs its) : ∀ i, RelV (xs.getD i .non) (its.getD i .none) := by
  induction h with
  | nil => intro i; simp; rfl
  | cons a _ ih => intro i; cases i with
    | zero => exact a
    | succ i => exact ih i
theorem vals_pick {xs : List V} {its : List Value} (h : Vals xs its) : ∀ l : List Nat, Vals (l.map fun i => xs.getD i .non) (l.map fun i => its.getD i .none)
  | [] => .nil
  | i :: l => .cons (vals_at h i) (vals_pick h l)
variable {prog : Program} {w : World} {A : Around} {E : Value → Shared → Prop} {s : Shared}
/-- two pairs of ints compared as the sort compares them -/
theorem lt_pair {x y : Addr} {a b c d : Int} {t1 t2 t3 t4 : Tok} {C : Bool → Shared → Prop} (hx : IsTup s.heap x #[.int a t1, .int b t2]) (hy : IsTup s.heap y #[.int c t3, .int d t4]) (hb : 0 ≤ b ∧ b < 100) (hd : 0 ≤ d ∧ d < 100)
    (h : C (decide (100 * a + b < 100 * c + d)) s) : wpAny (model prog w) A (keyLt' (tuples' true) (.ref x) (.ref y)) C E s := by
  obtain ⟨ox, gx, _, n, dx⟩ := hx
  obtain ⟨oy, gy, _, m, dy⟩ := hy
  refine PySem.W.kat_lt gx dx gy dy ?_
  refine PySem.W.kat_cons (wpAny_eqBool_int ?_)
  by_cases e : a = c
  · subst e
    rw [show (a == a) = true by simp]
    refine PySem.W.kat_yes (PySem.W.kat_cons (wpAny_eqBool_int ?_))
    by_cases e2 : b = d
    · subst e2
      rw [show (b == b) = true by simp]
      refine PySem.W.kat_yes (PySem.W.kat_nil ?_)
      rw [show decide (100 * a + b < 100 * a + b) = false by simp] at h
      exact h
    · rw [show (b == d) = false by simpa using e2]
      refine PySem.W.kat_no ?_
      rw [show (true && (0 + 1 == 0)) = false by rfl]
      refine PySem.W.kat_one _ _ ?_
      rw [show decide (100 * a + b < 100 * a + d) = decide (b < d) by exact decide_eq_decide.mpr (by omega)] at h
      exact lt_int h
  · rw [show (a == c) = false by simpa using e]
    refine PySem.W.kat_no ?_
    show wpAny _ _ (oneLt' true _ _) _ _ _
    rw [show decide (100 * a + b < 100 * c + d) = decide (a < c) by exact decide_eq_decide.mpr (by omega)] at h
    exact oneLt_int h
end
section
variable {X : Cx}
def Prs (K : PySem.W.Frag) (H : Hp) : List V → List (Int × Int) → Prop
  | [], [] => True
  | x :: xs, u :: us => (∃ a, x = .ref a ∧ SqT K H a [.int u.1, .int u.2]) ∧ Prs K H xs us
  | _, _ => False
theorem Prs.len {K : PySem.W.Frag} {H : Hp} : ∀ {xs : List V} {us : List (Int × Int)}, Prs K H xs us → xs.length = us.length
  | [], [], _ => rfl
  | _ :: _, _ :: _, h => by rw [List.length_cons, List.length_cons, Prs.len h.2]
  | [], _ :: _, h => h.elim
  | _ :: _, [], h => h.elim
def TupI (h : Heap) (v : Value) (u : Int × Int) : Prop := ∃ a t1 t2, v = .ref a ∧ IsTup h a #[.int u.1 t1, .int u.2 t2]
theorem prs_tupI {pins : List (Addr × Obj)} {σ : List (Option V)} {H : Hp} {s : Shared} (I : Inv X pins σ H s) {x : V} {v : Value} {u : Int × Int} (h : ∃ a, x = .ref a ∧ SqT X.K H a [.int u.1, .int u.2]) (r : RelV x v) : TupI s.heap v u := by
  obtain ⟨a, rfl, ht⟩ := h
  cases r
  obtain ⟨its, rv, hi, _⟩ := I.tuple ht
  obtain ⟨y1, y2, rfl, ⟨t1, rfl⟩, ⟨t2, rfl⟩⟩ := vals2 rv
  exact ⟨a, t1, t2, rfl, hi⟩
theorem prs_at {pins : List (Addr × Obj)} {σ : List (Option V)} {H : Hp} {s : Shared} (I : Inv X pins σ H s) : ∀ {xs : List V} {us : List (Int × Int)} {its : List Value}, Prs X.K H xs us → Vals xs its → ∀ i, i < us.length → TupI s.heap (its.getD i .none) (p0 us i)
  | [], [], _, _, _, i, hi => by simp at hi
  | x :: xs, u :: us, _, h, .cons a r, i, hi => by
    cases i with
    | zero => exact prs_tupI I h.1 a
    | succ i => exact prs_at I h.2 r i (by simpa using hi)
  | [], _ :: _, _, h, _, _, _ => h.elim
  | _ :: _, [], _, h, _, _, _ => h.elim
theorem prs_tups {h : Heap} : ∀ {its : List Value} {us : List (Int × Int)}, its.length = us.length → (∀ i, i < us.length → TupI h (its.getD i .none) (p0 us i)) → ∃ fs : List Value, PySem.W.KatTups h its fs ∧ fs.length = us.length ∧ ∀ v ∈ fs, ∃ n t, v = Value.int n t
  | [], [], _, _ => ⟨[], PySem.W.KatTups.nil, rfl, fun v hv => by simp at hv⟩
  | v :: its, u :: us, hl, q => by
    obtain ⟨fs, k1, k2, k3⟩ := prs_tups (its := its) (us := us) (by simpa using hl) fun i hi => q (i + 1) (by simpa using hi)
    obtain ⟨a, t1, t2, e, o, ho, hc, n, hd⟩ := q 0 (by simp)
    have e' : v = .ref a := e
    subst e'
    refine ⟨.int u.1 t1 :: fs, PySem.W.KatTups.cons ho hc hd rfl k1, by simp [k2], fun v hv => ?_⟩
    rcases List.mem_cons.mp hv with rfl | hv
    · exact ⟨_, _, rfl⟩
    · exact k3 v hv
  | [], _ :: _, hl, _ => by simp at hl
  | _ :: _, [], hl, _ => by simp at hl
theorem TupI.kept {h h' : Heap} {v : Value} {u : Int × Int} (q : TupI h v u) (k : ∀ b o, h.get? b = some o → h'.get? b = some o) : TupI h' v u := by
  obtain ⟨a, t1, t2, e, o, ho, r⟩ := q
  exact ⟨a, t1, t2, e, o, k _ _ ho, r⟩
theorem call_sortP : CallR X (.builtin "sorted") (fun vs H Q => ∃ p xs us, vs = [.ref p] ∧ SqL X.K H p xs ∧ Prs X.K H xs us ∧ Pb us ∧ ∀ l π, H l = none → Pmu us.length π → Up (pky us) π us.length → Q (.ref l) (upd H l (.lst (π.toList.map fun i => xs.getD i .non)))) := by
  intro pins s σ H vs us' Q I r ⟨l, xs, us, ev, hl, hp, hb, q⟩
  subst ev
  obtain ⟨u, rfl, ru⟩ := vals1 r
  cases ru
  obtain ⟨its, r1, p1, hz⟩ := I.list hl
  have hlen : its.length = us.length := by rw [← r1.length, hp.len]
  have tp := prs_at I hp r1
  refine sorted_by (k := pky us) (κ := tuples' true) p1.isList (by rw [hlen]; exact hb.1) (by rw [hlen]; exact hb.inj) (fun h' kp h2 R E' hr => ?_) (fun h' kp i j C hi hj hC => ?_) fun π hπ hu => ?_
  · obtain ⟨fs, k1, k2, k3⟩ := prs_tups (h := h') hlen fun i hi => (tp i hi).kept kp
    refine PySem.W.kat_kind (s := { s with heap := h' }) (T := .type "int") k1 (by omega) (fun v hv => ?_) (by decide) hr
    obtain ⟨n, t, rfl⟩ := k3 v hv
    exact PySem.W.Looks.now
  · obtain ⟨a, t1, t2, ea, ha⟩ := (tp i (by omega)).kept kp
    obtain ⟨b, t3, t4, eb, hb'⟩ := (tp j (by omega)).kept kp
    unfold PySem.W.kas_ask
    rw [ea, eb]
    exact lt_pair (s := { s with heap := h' }) ha hb' (hb.2.2 _ (p0_mem (by omega))) (hb.2.2 _ (p0_mem (by omega))) hC
  · rw [hlen] at hπ hu
    obtain ⟨e, he⟩ := sortedAll_at s.heap its (srtOut its π)
    refine ⟨.ref (s.heap.objs.size + 1), _, I.laid (t' := s.toks) (fun b o q => sortedAll_old q) (Nat.le_succ _) (show ObjOk X.prog X.w _ _ _ (.lst _) from ⟨?_, _, e, vals_pick r1 π.toList, he⟩), rfl, q _ π (I.hok.fresh (Nat.le_succ _)) hπ hu⟩
    rw [List.length_map, Array.length_toList, hπ.size, ← hp.len]
    exact hz
/-- pairs of ints as data -/
def prD (u : Int × Int) : D := .tup [.int u.1, .int u.2]
theorem prs_of {K : PySem.W.Frag} {H : Hp} : ∀ {us : List (Int × Int)} {xs : List V}, Reps K H (us.map prD) xs → Prs K H xs us
  | [], xs, h => by
    rw [List.map_nil, Reps] at h
    subst h; trivial
  | u :: us, xs, h => by
    rw [List.map_cons, Reps] at h
    obtain ⟨x, r, rfl, a, b⟩ := h
    refine ⟨?_, prs_of b⟩
    unfold prD at a
    rw [Rep] at a
    obtain ⟨p, ys, rfl, hy, ry⟩ := a
    obtain ⟨y1, y2, rfl, e1, e2⟩ := reps2 ry
    rw [Rep] at e1 e2
    subst e1 e2
    exact ⟨p, rfl, hy⟩
theorem reps_at {K : PySem.W.Frag} {H : Hp} : ∀ {ds : List D} {xs : List V}, Reps K H ds xs → ∀ i, i < ds.length → Rep K H (ds.getD i .non) (xs.getD i .non)
  | [], _, _, i, hi => by simp at hi
  | d :: ds, xs, h, i, hi => by
    rw [Reps] at h
    obtain ⟨x, r, rfl, a, b⟩ := h
    cases i with
    | zero => exact a
    | succ i => exact reps_at b i (by simpa using hi)
theorem reps_pick {K : PySem.W.Frag} {H : Hp} {ds : List D} {xs : List V} (h : Reps K H ds xs) : ∀ l : List Nat, (∀ i ∈ l, i < ds.length) → Reps K H (l.map fun i => ds.getD i .non) (l.map fun i => xs.getD i .non)
  | [], _ => Reps.nil
  | i :: l, q => Reps.cons (reps_at h i (q i (by simp))) (reps_pick h l fun j hj => q j (by simp [hj]))
/-- the keys of two pairs in their order -/
def plt (u v : Int × Int) : Prop := 100 * u.1 + u.2 < 100 * v.1 + v.2
theorem pick_perm {us : List (Int × Int)} {π : Array Nat} (h : Pmu us.length π) : (π.toList.map (p0 us)).Perm us := by
  have e1 := (Array.perm_iff_toList_perm.mp h.perm).map (p0 us)
  have e2 : (List.range us.length).map (p0 us) = us := by
    apply List.ext_getElem
    · simp
    · intro i h1 h2
      simp [p0, h2]
  simpa [e2] using e1
theorem pick_up {us : List (Int × Int)} {π : Array Nat} (h : Pmu us.length π) (u : Up (pky us) π us.length) : (π.toList.map (p0 us)).Pairwise plt := by
  rw [List.pairwise_iff_getElem]
  intro i j hi hj hij
  have hj' : j < us.length := by rw [List.length_map, Array.length_toList, h.size] at hj; exact hj
  have := u i j hij hj'
  have zi : i < π.size := by rw [h.size]; omega
  have zj : j < π.size := by rw [h.size]; omega
  simpa [plt, ky, pky, Array.getD, zi, zj] using this
theorem pick_map {us : List (Int × Int)} {π : Array Nat} (h : Pmu us.length π) : (π.toList.map fun i => (us.map prD).getD i .non) = (π.toList.map (p0 us)).map prD := by
  rw [List.map_map]
  refine List.map_congr_left fun i hi => ?_
  have hi' : i < us.length := by
    have : i ∈ π := by simpa using hi
    have := h.perm.mem_iff.mp this
    simpa using this
  simp [p0, hi']
def rSortP : RC := fun ds M Q => match ds with
  | [.ref l] => ∃ us : List (Int × Int), M l = some (.lst (us.map prD)) ∧ Pb us ∧ ∀ (z : Addr) (us' : List (Int × Int)), M z = none → us'.Perm us → us'.Pairwise plt → Q (.ref z) (updM M z (.lst (us'.map prD)))
  | _ => False
theorem cd_sortP : CallD X (.builtin "sorted") rSortP := call_imp call_sortP fun vs H Q ⟨ds, M, R, rs, a, q, fin⟩ => by
  unfold rSortP at q
  split at q
  · obtain ⟨us, e, hb, q⟩ := q
    obtain ⟨v, rfl, r⟩ := reps1 rs
    rw [Rep] at r; subst r
    obtain ⟨xs, hx, rx⟩ := a _ _ e
    refine ⟨_, xs, us, rfl, SqL.of hx, prs_of rx, hb, fun z π hz hπ hu => fin (.ref z) _ _ _ (.new hz) (by rw [Rep]) (a.newL hz (reps_pick rx π.toList fun i hi => ?_)) ?_⟩
    · have : i ∈ π := by simpa using hi
      have := hπ.perm.mem_iff.mp this
      simpa using this
    · rw [pick_map hπ]
      exact q z _ (a.fresh hz) (pick_perm hπ) (pick_up hπ hu)
  · exact q.elim
theorem bt_sorted : bootBuiltins "sorted" = some (.builtin "sorted") := by first | exact boot_sorted | rfl
end
end SD

set_option Elab.async false
set_option linter.all false
set_option maxRecDepth 100000
/-! list(d) of a dict, told by its entries alone. -/
namespace SD
open PySem PySem.Spec PyProof.Rows L2
/-- a dict with these entries -/
def RawD (h : Heap) (d : Addr) (es : Array DictEntry) (ep : Nat) : Prop := ∃ o, h.get? d = some o ∧ o.ExactDict ∧ o.data = .dict es ep
section
variable {prog : Program} {w : World} {A : Around} {E : Value → Shared → Prop} {s : Shared} {d it : Addr} {es : Array DictEntry} {ep i : Nat}
theorem RawD.ty (h : RawD s.heap d es ep) : s.TypeIs (.ref d) "dict" := let ⟨o, a, b, _⟩ := h; ⟨o, a, b.1⟩
theorem RawD.kept {h h' : Heap} (q : RawD h d es ep) (k : ∀ o, h.get? d = some o → h'.get? d = some o) : RawD h' d es ep := let ⟨o, a, b⟩ := q; ⟨o, k o a, b⟩
theorem RawD.lt {h : Heap} (q : RawD h d es ep) : d < h.objs.size := let ⟨_, a, _⟩ := q; Heap.lt_size a
theorem raw_iter {Q : Value → Shared → Prop} (lo : (d == sysModules) = false) (hm : RawD s.heap d es ep)
    (q : Q (.ref s.heap.objs.size) { s with heap := s.heap.push { cls := .type "dict_keyiterator", data := .fields #[.ref d, .int 0 0, .int es.size 0, .int ep 0] } }) : wpAny (model prog w) A (pyIter (.ref d)) Q E s := by
  have hT := hm.ty
  obtain ⟨o, g1, g2, g3⟩ := hm
  refine wpAny_pyIter_slot hT F.slot_dict_iter (wpAny_call_entry F.slot_dict_iter hT F.entry_dict_iter ?_ (F.args_dict_iter_1 _))
  unfold Builtin.«dict.__iter__»
  refine wpAny_bind ?_
  unfold Builtin.Dict.dictSlotNone
  refine wpAny_bind (wpAny_notOrdered_dict hT ?_)
  show wpAny _ _ (pure (Value.ref d)) _ _ s
  refine wpAny_pure ?_
  show wpAny _ _ (Builtin.Dict.showsAll d >>= _) _ _ s
  unfold Builtin.Dict.showsAll
  rw [if_neg (by rw [lo]; exact Bool.false_ne_true)]
  refine wpAny_bind (wpAny_pure (wpAny_bind (wpAny_dictEntries g1 g3 (wpAny_bind (wpAny_dictEpoch g1 g3 ?_)))))
  refine wpAny_bind (wpAny_newObj_type (wpAny_pure ⟨_, rfl, "dict_keyiterator", _, ⟨_, Heap.get?_push_size _ rfl, rfl⟩, F.slot_dict_keyiterator_next.lookup, ?_⟩))
  simpa [rawInt] using q
theorem raw_item {Q : Option Value → Shared → Prop} (hit : s.heap.IsKeyIter it d i es.size ep) (hm : RawD s.heap d es ep) (hi : i < es.size)
    (hQ : ∀ h' : Heap, h'.IsKeyIter it d (i + 1) es.size ep → Heap.SameBut it s.heap h' → Q (some es[i].key) { s with heap := h' }) : wpAny (model prog w) A (pyNext (.ref it)) Q E s := by
  obtain ⟨o, ho, hc, hd⟩ := id hit
  obtain ⟨od, g1, g2, g3⟩ := hm
  have hT := hit.typeIs
  unfold pyNext
  refine wpAny_bind (wpAny_attempt (wpAny_callSpecial?_slot (name := Str.ofString "__next__") hT F.slot_dict_keyiterator_next (wpAny_call_entry F.slot_dict_keyiterator_next hT F.entry_dict_keyiterator_next ?_ (F.args_dict_keyiterator_next_1 _))))
  refine wpAny_bind (wpAny_pure (wpAny_bind (wpAny_bind ?_)))
  first | refine wpAny_bind (wpAny_typeNameOfWhole_keyiter hT (wpAny_pure ?_)) | refine wpAny_bind (wpAny_typeNameOf_keyiter hT (wpAny_pure ?_))
  refine wpAny_bind (wpAny_fieldsOf ho hd ?_)
  simp only [show Builtin.Dict_items.ownsTuple "dict_keyiterator" = false by decide, Bool.false_eq_true, if_false]
  show wpAny _ _ (if (Value.ref d == Value.none) = true then _ else _) _ _ s
  rw [if_neg (show ¬ ((Value.ref d == Value.none) = true) from Bool.false_ne_true)]
  refine wpAny_bind (wpAny_pure (wpAny_bind (wpAny_dictEntries g1 g3 ?_)))
  rw [if_neg (by simp)]
  refine wpAny_bind (wpAny_pure (wpAny_bind (wpAny_dictEpoch g1 g3 ?_)))
  rw [if_neg (by simp)]
  refine wpAny_pure ?_
  simp only [show ¬ ((i : Int) < 0) from by omega, if_false, Int.toNat_natCast, Array.getElem?_eq_getElem hi]
  refine wpAny_bind ?_
  first | refine wpAny_bind (wpAny_typeNameOfWhole_keyiter hT (wpAny_pure ?_)) | refine wpAny_bind (wpAny_typeNameOf_keyiter hT (wpAny_pure ?_))
  refine wpAny_bind (wpAny_isOneOf_keyiter hT ?_)
  show wpAny _ _ (setField (.ref it) 1 (rawInt ((i : Int) + 1)) >>= _) _ _ s
  refine wpAny_bind (wpAny_setField ho hd (by simp) ?_)
  have n1 : (s.heap.update it (Obj.mapFields (·.setIfInBounds 1 (rawInt ((i : Int) + 1))))).IsKeyIter it d (i + 1) es.size ep :=
    ⟨_, Heap.get?_update_self _ ho (Obj.isFreed_of_fields (Obj.data_mapFields hd _)), (Obj.cls_mapFields ..).trans hc, by rw [Obj.data_mapFields hd]; simp [rawInt]⟩
  refine wpAny_bind (wpAny_holding (wpAny_bind (wpAny_isOneOf_keyiter (s := { s with heap := s.heap.update it (Obj.mapFields (·.setIfInBounds 1 (rawInt ((i : Int) + 1)))) }) n1.typeIs ?_)))
  show wpAny _ _ (pure es[i].key) _ _ _
  exact wpAny_pure (wpAny_pure ⟨_, rfl, wpAny_pure (hQ _ n1 (Heap.SameBut.update ..))⟩)
theorem raw_end {Q : Option Value → Shared → Prop} (hh : A.handled = none) (hit : s.heap.IsKeyIter it d es.size es.size ep) (hm : RawD s.heap d es ep)
    (hQ : ∀ h', Heap.ExtBut it s.heap h' → Q none { s with heap := h' }) : wpAny (model prog w) A (pyNext (.ref it)) Q E s := by
  obtain ⟨o, ho, hc, hd⟩ := id hit
  obtain ⟨od, g1, g2, g3⟩ := hm
  have hT := hit.typeIs
  unfold pyNext
  refine wpAny_bind (wpAny_attempt (wpAny_callSpecial?_slot (name := Str.ofString "__next__") hT F.slot_dict_keyiterator_next (wpAny_call_entry F.slot_dict_keyiterator_next hT F.entry_dict_keyiterator_next ?_ (F.args_dict_keyiterator_next_1 _))))
  refine wpAny_bind (wpAny_pure (wpAny_bind (wpAny_bind ?_)))
  first | refine wpAny_bind (wpAny_typeNameOfWhole_keyiter hT (wpAny_pure ?_)) | refine wpAny_bind (wpAny_typeNameOf_keyiter hT (wpAny_pure ?_))
  refine wpAny_bind (wpAny_fieldsOf ho hd ?_)
  simp only [show Builtin.Dict_items.ownsTuple "dict_keyiterator" = false by decide, Bool.false_eq_true, if_false]
  show wpAny _ _ (if (Value.ref d == Value.none) = true then _ else _) _ _ s
  rw [if_neg (show ¬ ((Value.ref d == Value.none) = true) from Bool.false_ne_true)]
  refine wpAny_bind (wpAny_pure (wpAny_bind (wpAny_dictEntries g1 g3 ?_)))
  rw [if_neg (by simp)]
  refine wpAny_bind (wpAny_pure (wpAny_bind (wpAny_dictEpoch g1 g3 ?_)))
  rw [if_neg (by simp)]
  refine wpAny_pure ?_
  simp only [show ¬ ((es.size : Int) < 0) from by omega, if_false, Int.toNat_natCast, Array.getElem?_eq_none (Nat.le_refl es.size)]
  refine wpAny_bind ?_
  first | refine wpAny_bind (wpAny_typeNameOfWhole_keyiter hT (wpAny_pure ?_)) | refine wpAny_bind (wpAny_typeNameOf_keyiter hT (wpAny_pure ?_))
  show wpAny _ _ (setField (.ref it) 0 .none >>= _) _ _ s
  refine wpAny_bind (wpAny_setField ho hd (by simp) ?_)
  show wpAny _ _ (newExc (.type "StopIteration") [] >>= _) _ _ _
  refine wpAny_bind ?_
  simp only [newExc, newTuple]
  refine wpAny_bind (wpAny_newObj_type ?_ (by size_fits))
  refine wpAny_bind (m := firstArgMember _ _) (wpAny_of_eq (a := Value.none) (by first | rfl | (simp only [firstArgMember]; rfl)) ?_)
  refine wpAny_newObj_type ?_ (by size_fits)
  simp only [raiseNew]
  refine wpAny_bind (wpAny_handled ?_)
  rw [show A.in1.handled = none from hh]
  refine wpAny_bind (wpAny_pure (wpAny_throw ?_))
  refine wpAny_bind (wpAny_isInstance (T := "StopIteration") (b := true) ⟨_, Heap.get?_push_size _ rfl, rfl⟩ isSubtype_stop ?_)
  exact wpAny_pure (hQ _ (((Heap.SameBut.update ..).extBut.push _).push _))
theorem raw_walks (hh : A.handled = none) (I d : Addr) (hne : d ≠ I) (es : Array DictEntry) (ep : Nat) : Walks prog w A I [I, d] [I] es.size (fun i v => ∃ e, es[i]? = some e ∧ v = e.key) (fun i h => h.IsKeyIter I d i es.size ep ∧ RawD h d es ep) where
  sub := fun b hb => by simp at hb; simp [hb]
  frame := fun _ _ _ st hk => ⟨st.1.at fun o e => hk I (by simp) o e, st.2.kept fun o e => hk d (by simp) o e⟩
  item := fun i s Q E hi st hQ => raw_item st.1 st.2 hi fun h' n1 sb => hQ _ h' s.toks ⟨es[i], by simp [hi], rfl⟩ ⟨n1, st.2.kept fun o e => (sb.2 d hne).trans e⟩ fun b o hb e => sb.extBut b o (fun h => hb (by simp [h])) e
  done := fun s Q E st hQ => raw_end hh st.1 st.2 fun h' he => hQ h' s.toks fun b o hb e => he b o (fun h => hb (by simp [h])) e
  self := fun _ _ _ _ st hQ => wpAny_pyIter_keyiter st.1 hQ
theorem raw_src (lo : (d == sysModules) = false) : PySem.W.KdlSrc prog w "dict" d d es.size (fun i v => ∃ e, es[i]? = some e ∧ v = e.key) (fun h => RawD h d es ep) where
  type := fun _ hm => hm.ty
  there := fun _ hm => ⟨hm.lt, hm.lt⟩
  keep := fun _ _ hm hk => hm.kept fun o e => hk d (.inl rfl) o e
  notList := by decide
  notTuple := by decide
  hint := fun _ _ _ _ hm hq => PySem.W.kdl_hint_dict hm.ty hq
  iter := fun _ _ hh hm => ⟨_, _, (fun _ _ hq => raw_iter lo hm hq), raw_walks hh _ d (Nat.ne_of_lt hm.lt) es ep, ⟨⟨_, Heap.get?_push_size _ rfl, rfl, rfl⟩, hm.kept fun o e => Heap.get?_push_of_some _ e⟩⟩
end
section
variable {X : Cx}
/-- the keys of the spots' table, in their order -/
theorem prs_ents {P : Program} {w : World} {xs : List SpE} {ys : List (SpK × Addr × Value)} (r : Paired PrS xs ys) : (ys.map (entryOfKey (spotKind P w))).map (·.key) = xs.map fun x => Value.ref x.2.1 := by
  induction r with
  | nil => rfl
  | cons h t ih => simp only [List.map_cons, ih, h.2.1]; rfl
theorem vals_refs : ∀ xs : List SpE, Vals (xs.map fun x => V.ref x.2.1) (xs.map fun x => Value.ref x.2.1)
  | [] => .nil
  | x :: xs => .cons rfl (vals_refs xs)
theorem call_listDs (hc : X.calm = true) : CallR X (.type "list") (fun vs H Q => ∃ p xs, vs = [.ref p] ∧ H p = some (.ext (dspF X.prog X.w p xs)) ∧ ∀ l, H l = none → Q (.ref l) (upd H l (.lst (xs.map fun x => V.ref x.2.1)))) := by
  intro pins s σ H vs us Q I r ⟨p, xs, ev, hp, q⟩
  subst ev
  obtain ⟨u, rfl, ru⟩ := vals1 r
  cases ru
  obtain ⟨⟨h1, h2, h3, ys, r1, o, es, ep, q1, q2, q3, q4⟩, _⟩ := I.hok p _ hp
  have hz : es.size = xs.length := by rw [← Array.length_toList, q4, List.length_map, prs_len r1]
  refine PySem.W.kdl_call (raw_src (es := es) (ep := ep) h1) (I.ok.hd hc) ⟨o, q1, q2, q3⟩ (by rw [hz]; exact h2) fun h' tk acc c kp hl it => ?_
  have ea : acc.toList = xs.map fun x => Value.ref x.2.1 := by
    rw [← prs_ents (P := X.prog) (w := X.w) r1, ← q4]
    apply List.ext_getElem?
    intro i
    by_cases hi : i < es.size
    · have hi' : i < acc.size := by rw [it.1]; exact hi
      obtain ⟨e, e1, e2⟩ := it.2 i acc[i] (by simp [hi'])
      simp [hi', hi] at e1 ⊢
      rw [e2, ← e1]
    · have hi' : ¬ i < acc.size := by rw [it.1]; exact hi
      simp [hi, hi']
  refine ⟨.ref s.heap.objs.size, _, I.laid (t' := tk) kp (Nat.le_refl _) (show ObjOk X.prog X.w _ h' _ (.lst _) from ⟨by rw [List.length_map]; exact h2, _, c, vals_refs xs, ?_⟩), rfl, q _ (I.hok.fresh (Nat.le_refl _))⟩
  rw [← ea, Array.toArray_toList]
  exact hl
def rListX : RC := fun ds M Q => rList ds M Q ∨ ∃ l kvs, ds = [.ref l] ∧ M l = some (dsM kvs) ∧ ∀ p, M p = none → Q (.ref p) (updM M p (.lst (kvs.map fun x => spD x.1)))
theorem keys_reps {K : PySem.W.Frag} {H : Hp} : ∀ {kvs : SpT} {xs : List SpE}, xs.map (·.1) = kvs.map (·.1) → (∀ x ∈ xs, SpAt K H x.2.1 x.1) → Reps K H (kvs.map fun x => spD x.1) (xs.map fun x => V.ref x.2.1)
  | [], [], _, _ => by rw [List.map_nil, List.map_nil]; exact Reps.nil
  | y :: kvs, x :: xs, h, k => by
    rw [List.map_cons, List.map_cons] at h
    injection h with e1 e2
    rw [List.map_cons, List.map_cons]
    exact Reps.cons (by rw [← e1]; exact sp_rep (k x (by simp))) (keys_reps e2 fun z hz => k z (by simp [hz]))
  | [], _ :: _, h, _ => by cases h
  | _ :: _, [], h, _ => by cases h
theorem cd_listX (hc : X.calm = true) : CallD X (.type "list") rListX := by
  intro pins s σ H vs us Q I rv ⟨ds, M, R, rs, a, q, fin⟩
  rcases q with q | ⟨l, kvs, ed, hl, q⟩
  · exact cd_list pins s σ H vs us Q I rv ⟨ds, M, R, rs, a, q, fin⟩
  · subst ed
    obtain ⟨v, rfl, r⟩ := reps1 rs
    rw [Rep] at r; subst r
    obtain ⟨xs, h1, h2, h3, h4⟩ := a.dsp hl
    exact call_listDs hc pins s σ H _ us Q I rv ⟨_, xs, rfl, h1 _ _, fun z hz => fin (.ref z) _ _ _ (.new hz) (by rw [Rep]) (a.newL hz (keys_reps h2 h3)) (q z (a.fresh hz))⟩
end
end SD

set_option Elab.async false
set_option linter.all false
set_option maxRecDepth 100000
/-! Corners: all ends, each once, and in their order. -/
namespace SD
open PySem PySem.Spec PyProof.Rows L2
def gsp (t b X Y : Int) (u : Vc) : D := Ma.spt (Ma.ut t b X 1 u.1) (Ma.ut t b Y 1 u.2)
def gk (t b X Y : Int) (u : Vc) : SpK := ((Ma.ut t b X 1 u.1).num, ((Ma.ut t b X 1 u.1).den : Int), (Ma.ut t b Y 1 u.2).num, ((Ma.ut t b Y 1 u.2).den : Int))
theorem gsp_gk (t b X Y : Int) (u : Vc) : gsp t b X Y u = spD (gk t b X Y u) := rfl
theorem gk_inj {t b X Y : Int} (ht : 0 < t) (hb : 0 < b) {p q : Vc} (h : gk t b X Y p = gk t b X Y q) : p = q := by
  unfold gk at h
  injection h with h1 h
  injection h with h2 h
  injection h with h3 h4
  have e1 : Ma.ut t b X 1 p.1 = Ma.ut t b X 1 q.1 := Rat.ext h1 (by exact_mod_cast h2)
  have e2 : Ma.ut t b Y 1 p.2 = Ma.ut t b Y 1 q.2 := Rat.ext h3 (by exact_mod_cast h4)
  have f1 := (Ma.ut_eq ht hb (by decide) (by decide)).mp e1
  have f2 := (Ma.ut_eq ht hb (by decide) (by decide)).mp e2
  exact Prod.ext (by omega) (by omega)
def B20 (u : Vc) : Prop := (0 ≤ u.1 ∧ u.1 ≤ 20) ∧ (0 ≤ u.2 ∧ u.2 ≤ 20)
def ea (w : Wl) : Vc := (w.1, w.2.1)
def eb (w : Wl) : Vc := (w.2.2.1, w.2.2.2)
theorem Un5.ea {w : Wl} (h : Un5 w) : B20 (ea w) := ⟨h.a, h.b⟩
theorem Un5.eb {w : Wl} (h : Un5 w) : B20 (eb w) := ⟨h.c, h.d⟩
theorem Un5.eab {w : Wl} (h : Un5 w) : SD.ea w ≠ SD.eb w := fun e => by
  have := h.lt
  unfold SD.ea SD.eb at e
  injection e with e1 e2
  unfold l1 l2 la at this
  omega
def addU (us : List Vc) (u : Vc) : List Vc := if u ∈ us then us else us ++ [u]
theorem mem_addU {us : List Vc} {u v : Vc} : v ∈ addU us u ↔ v ∈ us ∨ v = u := by
  unfold addU
  split
  · constructor
    · exact .inl
    · rintro (h | rfl)
      · exact h
      · assumption
  · simp
theorem nd_addU {us : List Vc} {u : Vc} (h : us.Nodup) : (addU us u).Nodup := by
  unfold addU
  split
  · exact h
  · rename_i hn
    rw [List.nodup_append]
    refine ⟨h, by simp, fun a ha b hb e => ?_⟩
    have : b = u := by simpa using hb
    subst this; subst e; exact hn ha
theorem len_addU (us : List Vc) (u : Vc) : (addU us u).length ≤ us.length + 1 := by
  unfold addU
  split
  · omega
  · simp
/-- the ends of the first i walls, each once -/
def cnr (ws : List Wl) : Nat → List Vc
  | 0 => []
  | i + 1 => match ws[i]? with
    | some w => addU (addU (cnr ws i) (ea w)) (eb w)
    | none => cnr ws i
theorem cnr_nd (ws : List Wl) : ∀ i, (cnr ws i).Nodup
  | 0 => List.nodup_nil
  | i + 1 => by
    unfold cnr
    split
    · exact nd_addU (nd_addU (cnr_nd ws i))
    · exact cnr_nd ws i
theorem cnr_len (ws : List Wl) : ∀ i, (cnr ws i).length ≤ 2 * i
  | 0 => Nat.le_refl _
  | i + 1 => by
    have ih := cnr_len ws i
    unfold cnr
    split
    · have h1 := len_addU (addU (cnr ws i) (ea ‹_›)) (eb ‹_›)
      have h2 := len_addU (cnr ws i) (ea ‹_›)
      omega
    · omega
theorem mem_cnr {ws : List Wl} {u : Vc} : ∀ i, u ∈ cnr ws i ↔ ∃ j w, j < i ∧ ws[j]? = some w ∧ (u = ea w ∨ u = eb w)
  | 0 => by simp [cnr]
  | i + 1 => by
    have ih := mem_cnr (ws := ws) (u := u) i
    unfold cnr
    split
    · rename_i w hw
      rw [mem_addU, mem_addU, ih]
      constructor
      · rintro ((⟨j, v, h1, h2, h3⟩ | h) | h)
        · exact ⟨j, v, by omega, h2, h3⟩
        · exact ⟨i, w, by omega, hw, .inl h⟩
        · exact ⟨i, w, by omega, hw, .inr h⟩
      · rintro ⟨j, v, h1, h2, h3⟩
        by_cases e : j = i
        · subst e
          rw [hw] at h2; cases h2
          rcases h3 with h3 | h3
          · exact .inl (.inr h3)
          · exact .inr h3
        · exact .inl (.inl ⟨j, v, by omega, h2, h3⟩)
    · rename_i hw
      rw [ih]
      constructor
      · rintro ⟨j, v, h1, h2, h3⟩
        exact ⟨j, v, by omega, h2, h3⟩
      · rintro ⟨j, v, h1, h2, h3⟩
        by_cases e : j = i
        · subst e; rw [hw] at h2; cases h2
        · exact ⟨j, v, by omega, h2, h3⟩
theorem cnr_b {ws : List Wl} (hU : ∀ w ∈ ws, Un5 w) {i : Nat} : ∀ u ∈ cnr ws i, B20 u := fun u hu => by
  obtain ⟨j, w, _, h2, h3⟩ := (mem_cnr i).mp hu
  have := hU w (List.mem_of_getElem? h2)
  rcases h3 with rfl | rfl
  · exact this.ea
  · exact this.eb
/-- the dict of the corners -/
def cdT (t b X Y : Int) (us : List Vc) : SpT := us.map fun u => (gk t b X Y u, D.bl true)
theorem cdT_put {t b X Y : Int} (ht : 0 < t) (hb : 0 < b) (us : List Vc) (u : Vc) : putD (cdT t b X Y us) (gk t b X Y u) (.bl true) = cdT t b X Y (addU us u) := by
  have ea : ((cdT t b X Y us).any fun x => decide (x.1 = gk t b X Y u)) = decide (u ∈ us) := by
    rw [Bool.eq_iff_iff, List.any_eq_true, decide_eq_true_eq]
    constructor
    · rintro ⟨x, hx, e⟩
      obtain ⟨v, hv, rfl⟩ := List.mem_map.mp hx
      have : gk t b X Y v = gk t b X Y u := by simpa using e
      rw [← gk_inj ht hb this]; exact hv
    · intro h
      exact ⟨_, List.mem_map.mpr ⟨u, h, rfl⟩, by simp⟩
  unfold putD addU
  rw [ea]
  by_cases h : u ∈ us
  · rw [if_pos (by simpa using h), if_pos h]
    unfold cdT
    rw [List.map_map]
    refine List.map_congr_left fun v hv => ?_
    dsimp only [Function.comp]
    split
    · rfl
    · rfl
  · rw [if_neg (by simpa using h), if_neg h]
    unfold cdT
    rw [List.map_append]
    rfl
theorem plt_uniq {a c : List Vc} (hp : a.Perm c) (ha : a.Pairwise plt) (hc : c.Pairwise plt) : a = c :=
  List.Perm.eq_of_pairwise (le := plt) (fun x y _ _ h1 h2 => by unfold plt at h1 h2; omega) ha hc hp
theorem ins_up {ps : List Vc} {u : Vc} {j : Nat} (h : ps.Pairwise plt) (hj : j ≤ ps.length) (h1 : ∀ i, i < j → plt (p0 ps i) u) (h2 : ∀ i, j ≤ i → i < ps.length → plt u (p0 ps i)) : (insD ps j u).Pairwise plt ∧ (insD ps j u).Perm (u :: ps) := by
  constructor
  · unfold insD
    rw [List.pairwise_append]
    have lt : ∀ x ∈ ps.take j, plt x u := fun x hx => by
      obtain ⟨i, hi, rfl⟩ := List.getElem_of_mem hx
      have hi' : i < j ∧ i < ps.length := by rw [List.length_take] at hi; omega
      have := h1 i hi'.1
      unfold p0 at this
      simpa [hi'.2] using this
    have gt : ∀ x ∈ ps.drop j, plt u x := fun x hx => by
      obtain ⟨i, hi, rfl⟩ := List.getElem_of_mem hx
      have hi' : j + i < ps.length := by rw [List.length_drop] at hi; omega
      have := h2 (j + i) (by omega) hi'
      unfold p0 at this
      simpa [hi'] using this
    refine ⟨h.sublist (List.take_sublist _ _), List.pairwise_cons.mpr ⟨gt, h.sublist (List.drop_sublist _ _)⟩, fun x hx y hy => ?_⟩
    rcases List.mem_cons.mp hy with rfl | hy
    · exact lt x hx
    · have a1 := lt x hx
      have a2 := gt y hy
      unfold plt at a1 a2 ⊢; omega
  · unfold insD
    have : (ps.take j ++ u :: ps.drop j).Perm (u :: (ps.take j ++ ps.drop j)) := List.perm_middle
    rwa [List.take_append_drop] at this
theorem gsp_ah {t b X Y : Int} (ht : 0 < t) (hb : 0 < b) {u v : Vc} (hu : B20 u) (hv : B20 v) : Ma.ah (Ma.ut t b X 1 u.1) (Ma.ut t b Y 1 u.2) (Ma.ut t b X 1 v.1) (Ma.ut t b Y 1 v.2) ↔ plt u v := dec_la ht hb hu.2 hv.2
theorem B20.bx {t b X Y : Int} (S : Scl t b X Y) {u : Vc} (h : B20 u) : Ma.Bq 200 (Ma.ut t b X 1 u.1) := S.bx (by decide) (by have := h.1; omega)
theorem B20.by' {t b X Y : Int} (S : Scl t b X Y) {u : Vc} (h : B20 u) : Ma.Bq 200 (Ma.ut t b Y 1 u.2) := S.by' (by decide) (by have := h.2; omega)
theorem plt_tri {u v : Vc} (hu : B20 u) (hv : B20 v) (ne : u ≠ v) (h : ¬ plt u v) : plt v u := by
  have h1 := hu.2
  have h2 := hv.2
  unfold plt at h ⊢
  by_cases e : 100 * u.1 + u.2 = 100 * v.1 + v.2
  · exact absurd (Prod.ext (by omega) (by omega)) ne
  · omega
end SD

set_option Elab.async false
set_option linter.all false
set_option maxRecDepth 100000
/-! Lists of pairs of ints and of spots, as data; compared, looked through. -/
namespace SD
open PySem PySem.Spec PyProof.Rows L2
def prP (u : Vc) : PyData := .tuple [.int u.1, .int u.2]
theorem pds_prs {M : MH} : ∀ us : List Vc, Pds M (us.map prD) (us.map prP)
  | [] => .nil
  | u :: us => .cons (Pd.of rfl) (pds_prs us)
theorem lay_prs : ∀ us : List Vc, PyData.canLayAll0 (us.map prP) = true
  | [] => rfl
  | u :: us => by rw [List.map_cons, PyData.canLayAll0, lay_prs us]; rfl
theorem any_prs (u : Vc) (us : List Vc) : (us.map prP).any (fun q => PyData.eqv q (prP u)) = decide (u ∈ us) := by
  rw [List.any_map, Bool.eq_iff_iff, List.any_eq_true, decide_eq_true_eq]
  constructor
  · rintro ⟨v, hv, e⟩
    have e : PyData.eqv (.tuple [.int v.1, .int v.2]) (.tuple [.int u.1, .int u.2]) = true := e
    rw [eqv_two] at e
    have e := of_decide_eq_true e
    rw [show u = v from Prod.ext e.1.symm e.2.symm]
    exact hv
  · intro h
    refine ⟨u, h, ?_⟩
    show PyData.eqv (.tuple [.int u.1, .int u.2]) (.tuple [.int u.1, .int u.2]) = true
    rw [eqv_two]
    exact decide_eq_true ⟨rfl, rfl⟩
theorem in_prs {M : MH} {l : Addr} {us : List Vc} (u : Vc) (g : Bool → Bool) (Q : DK) (h : M l = some (.lst (us.map prD))) (q : Q (.bl (g (decide (u ∈ us)))) M) : rInG g (prD u) (.ref l) M Q := by
  refine ⟨_, _, Pd.of (p := prP u) rfl, .inl (.lst h (pds_prs us)), rfl, lay_prs us, ?_⟩
  rw [any_prs]
  exact q
def gP (t b X Y : Int) (u : Vc) : PyData := spPd (gk t b X Y u)
theorem pds_gsp {M : MH} (t b X Y : Int) : ∀ us : List Vc, Pds M (us.map (gsp t b X Y)) (us.map (gP t b X Y))
  | [] => .nil
  | u :: us => .cons (Pd.of rfl) (pds_gsp t b X Y us)
theorem lay_gsp (t b X Y : Int) : ∀ us : List Vc, PyData.canLayAll0 (us.map (gP t b X Y)) = true
  | [] => rfl
  | u :: us => by rw [List.map_cons, PyData.canLayAll0, lay_gsp t b X Y us]; rfl
theorem dep_gsp (t b X Y : Int) : ∀ us : List Vc, PyData.depthAll (us.map (gP t b X Y)) ≤ 10
  | [] => Nat.le_of_ble_eq_true rfl
  | u :: us => by
    rw [List.map_cons, PyData.depthAll]
    exact Nat.max_le.mpr ⟨Nat.le_of_ble_eq_true rfl, dep_gsp t b X Y us⟩
theorem shaped_gsp (t b X Y : Int) (us : List Vc) : SeqAt.shaped (.list (us.map (gP t b X Y))) = true := by
  unfold SeqAt.shaped
  have h1 := lay_gsp t b X Y us
  have h2 := dep_gsp t b X Y us
  rw [Bool.and_eq_true]
  refine ⟨by rw [PyData.canLay0]; exact h1, decide_eq_true ?_⟩
  rw [PyData.depth]
  omega
theorem gP_eqv {t b X Y : Int} (ht : 0 < t) (hb : 0 < b) (u v : Vc) : PyData.eqv (gP t b X Y u) (gP t b X Y v) = decide (u = v) := by
  unfold gP
  rw [spPd_eqv, decide_eq_decide]
  exact ⟨fun h => gk_inj ht hb h, fun h => by rw [h]⟩
theorem eqvAll_gsp {t b X Y : Int} (ht : 0 < t) (hb : 0 < b) : ∀ us : List Vc, PyData.eqvAll (us.map (gP t b X Y)) (us.map (gP t b X Y)) = true
  | [] => rfl
  | u :: us => by rw [List.map_cons, PyData.eqvAll, gP_eqv ht hb, eqvAll_gsp ht hb us]; simp
/-- the comparing of a plot with the same plot -/
theorem shaped_rw (t b x y : Int) (ws : List Wl) : SeqAt.shaped (.tuple (ws.map (rwP t b x y))) = true := by
  unfold SeqAt.shaped
  have h1 := lay_rw t b x y ws
  have h2 := dep_rw t b x y ws
  rw [Bool.and_eq_true]
  refine ⟨by rw [PyData.canLay0]; exact h1, decide_eq_true ?_⟩
  rw [PyData.depth]
  omega
theorem eqv_rws (t b x y : Int) (ws : List Wl) : PyData.eqv (.tuple (ws.map (rwP t b x y))) (.tuple (ws.map (rwP t b x y))) = true := by
  rw [PyData.eqv]; exact eqvAll_rw t b x y ws
/-- the new ends of a wall -/
theorem fm_ends (us : List Vc) (u v : Vc) (ne : u ≠ v) : us.map prD ++ (List.range 2).filterMap (fun j => if j = 0 then (if u ∈ us then none else some (prD u)) else (if v ∈ us then none else some (prD v))) = (addU (addU us u) v).map prD := by
  unfold addU
  by_cases h1 : u ∈ us <;> by_cases h2 : v ∈ us <;> simp [List.range, List.range.loop, h1, h2, ne.symm]
end SD

set_option Elab.async false
set_option linter.all false
set_option maxRecDepth 100000
local macro_rules | `(tactic| walk_at "rd") => `(tactic| repeat (first | refine ⟨_, rfl, ?_⟩ | refine ⟨trivial, ?_⟩ | refine ⟨_, _, rfl, ?_⟩ | refine ⟨rfl, ?_⟩ | refine ⟨Nat.le_of_ble_eq_true rfl, ?_⟩))
local macro_rules | `(tactic| walk_at "un") => `(tactic| try dsimp only [SD.tSeqD, SD.tAsgD, SD.gNameD, SD.tIfSD, SD.tRetD, SD.tNextD, SD.tDropD, SD.tBD, SD.tNotD])
local macro_rules | `(tactic| walk_at "nx") => `(tactic| try dsimp only [SD.gNameD])

namespace Q_k10_corners
open PySem PySem.Spec PyProof.Rows L2 SD
def top (i : Nat) : Stmt := PySem.Challenge.pw_spotlook_k10_corners.main.body.getD i (.Pass ⟨0, 0, 0, 0⟩)
abbrev s_law_cell_at : Stmt := top 15
abbrev s_law_take : Stmt := top 16
abbrev s_law_scale : Stmt := top 18
abbrev s_law_turn : Stmt := top 21
abbrev s_law_on : Stmt := top 22
abbrev s_law_fair : Stmt := top 23
abbrev s_law_shuts_here : Stmt := top 24
abbrev s_law_low : Stmt := top 17
abbrev s_law_spot : Stmt := top 19
abbrev s_law_made : Stmt := top 20
abbrev s_greatest_divisor : Stmt := top 4
abbrev s_fraction : Stmt := top 5
abbrev s_own_spot : Stmt := top 11
abbrev s_is_less : Stmt := top 6
abbrev s_is_ahead : Stmt := top 8
abbrev s_place_among : Stmt := top 9
abbrev s_ahead_first : Stmt := top 10
abbrev s_corners_of : Stmt := top 13
abbrev s_law : Stmt := top 25
structure Tx (K : PySem.W.Frag) (mg : Str → Option Value) : Prop where
  f_law_cell_at : Txt K mg "_law_cell_at" s_law_cell_at
  f_law_take : Txt K mg "_law_take" s_law_take
  f_law_scale : Txt K mg "_law_scale" s_law_scale
  f_law_turn : Txt K mg "_law_turn" s_law_turn
  f_law_on : Txt K mg "_law_on" s_law_on
  f_law_fair : Txt K mg "_law_fair" s_law_fair
  f_law_shuts_here : Txt K mg "_law_shuts_here" s_law_shuts_here
  f_law_low : Txt K mg "_law_low" s_law_low
  f_law_spot : Txt K mg "_law_spot" s_law_spot
  f_law_made : Txt K mg "_law_made" s_law_made
  f_greatest_divisor : Txt K mg "greatest_divisor" s_greatest_divisor
  f_fraction : Txt K mg "fraction" s_fraction
  f_own_spot : Txt K mg "own_spot" s_own_spot
  f_is_less : Txt K mg "is_less" s_is_less
  f_is_ahead : Txt K mg "is_ahead" s_is_ahead
  f_place_among : Txt K mg "place_among" s_place_among
  f_ahead_first : Txt K mg "ahead_first" s_ahead_first
  f_corners_of : Txt K mg "corners_of" s_corners_of
  f_law : Txt K mg "law" s_law
  b_abs : mg "abs" = none
  b_all : mg "all" = none
  b_int : mg "int" = none
  b_isinstance : mg "isinstance" = none
  b_len : mg "len" = none
  b_list : mg "list" = none
  b_max : mg "max" = none
  b_min : mg "min" = none
  b_range : mg "range" = none
  b_sorted : mg "sorted" = none
  b_tuple : mg "tuple" = none
/-! ### _law_cell_at, level 1 -/
theorem sc_law_cell_at : FnScope ["_law_script", "_law_k"] ["_law_script", "_law_k"] (defScope s_law_cell_at) := ⟨rfl, rfl, rfl, by decide +kernel, rfl, by decide +kernel, by decide +kernel⟩
def sp_law_cell_at : SpD := fun ds M Q => match ds with
  | [x, y] => ∃ ns k, x = .rol (List.map D.int ns) ∧ y = .int k ∧ 0 ≤ k ∧ ∀ z, Q (.int z) M
  | _ => False
theorem ln_law_cell_at : ∀ ds M Q, sp_law_cell_at ds M Q → ds.length = 2 := fun ds M Q h => by
  unfold sp_law_cell_at at h
  split at h
  · rfl
  · exact h.elim
set_option maxHeartbeats 4000000 in
theorem c_law_cell_at {P : Program} {w : World} {K : PySem.W.Frag} {mg : Str → Option Value} {base : Heap} (T : Tx K mg) : Cal P w K mg base 1 "_law_cell_at" sp_law_cell_at := by
  refine calD (k := 0) (N := ["_law_script", "_law_k"]) (ps := ["_law_script", "_law_k"]) T.f_law_cell_at sc_law_cell_at (fun _ _ _ _ _ _ us hl => match us, hl with | [_, _], _ => rfl) ln_law_cell_at fun f cdv A outer s H E hr => ⟨_, (dss_cons (ds_if (dt_cmp (od_ltX hr.units) (dv 1) (de_callB cd_len rfl T.b_len bt_len (da_cons (dv 0) da_nil))) (dss_one (ds_ret (de_ix (dv 0) (dv 1)))) dss_nil)
      (dss_one (ds_ret de_int))), fun ds M Q h => ?r⟩
  case r =>
    -- slots: 0 _law_script, 1 _law_k
    unfold sp_law_cell_at at h
    split at h
    case h_2 => exact h.elim
    obtain ⟨ns, k, rfl, rfl, hk, q⟩ := h
    walk_at "rd"
    refine ite2 (fun hl => ?_) (fun _ => ?_)
    · have hl' : k < (ns.length : Int) := by simpa using hl
      obtain ⟨j, rfl⟩ : ∃ j : Nat, k = (j : Int) := ⟨k.toNat, by omega⟩
      have hj : j < ns.length := by omega
      refine ⟨_, rfl, _, rfl, .int ns[j], atI_nat (by simp [hj]), rtn (q _)⟩
    · exact rtn (q 0)
/-! ### _law_take, level 1 -/
theorem sc_law_take : FnScope ["_law_row", "_law_base", "_law_rest", "_law_number"] ["_law_row", "_law_base"] (defScope s_law_take) := ⟨rfl, rfl, rfl, by decide +kernel, rfl, by decide +kernel, by decide +kernel⟩
def sp_law_take : SpD := fun ds M Q => match ds with
  | [y, z] => ∃ r b x c, y = .ref r ∧ z = .int b ∧ M r = some (.lst [.int x, .int c]) ∧ 0 ≤ c ∧ c < 1000000 ∧ 0 < b ∧ Bd 8000 b ∧ ∀ x' v, 0 ≤ v → v < b → Q (.int v) (updM M r (.lst [.int x', .int (c + 1)]))
  | _ => False
theorem ln_law_take : ∀ ds M Q, sp_law_take ds M Q → ds.length = 2 := fun ds M Q h => by
  unfold sp_law_take at h
  split at h
  · rfl
  · exact h.elim
set_option maxHeartbeats 4000000 in
theorem c_law_take {P : Program} {w : World} {K : PySem.W.Frag} {mg : Str → Option Value} {base : Heap} (T : Tx K mg) : Cal P w K mg base 1 "_law_take" sp_law_take := by
  refine calD (k := 0) (N := ["_law_row", "_law_base", "_law_rest", "_law_number"]) (ps := ["_law_row", "_law_base"]) T.f_law_take sc_law_take (fun _ _ _ _ _ _ us hl => match us, hl with | [_, _], _ => rfl) ln_law_take fun f cdv A outer s H E hr => ⟨_, (dss_cons (ds_asg (de_op od_add (de_ix (dv 0) de_int) de_int) (dg_sub (dv 0) de_int))
      (dss_cons (ds_if (dt_cmp (od_geX hr.units) (de_ix (dv 0) de_int) (de_op od_pow de_int de_int)) (dss_cons (ds_set 2 sc_law_take.nd (de_op od_sub (de_ix (dv 0) de_int) (de_op od_pow de_int de_int)))
      (dss_cons (ds_asg (de_op od_add (de_op od_pow de_int de_int) (de_op od_fd (dv 2) (dv 1))) (dg_sub (dv 0) de_int))
      (dss_one (ds_ret (de_op od_mod (dv 2) (dv 1)))))) dss_nil)
      (dss_cons (ds_set 3 sc_law_take.nd (de_op od_mod (de_op od_add (de_op od_add (de_op od_add (de_op od_mul (de_ix (dv 0) de_int) de_int) (de_op od_mul (de_op od_mul de_int (de_ix (dv 0) de_int)) (de_ix (dv 0) de_int))) (de_op od_mul de_int (de_ix (dv 0) de_int))) de_int) de_int))
      (dss_cons (ds_set 3 sc_law_take.nd (de_op od_mod (de_op od_add (de_op od_add (de_op od_mul (dv 3) (dv 3)) (de_op od_mul de_int (dv 3))) (de_ix (dv 0) de_int)) de_int))
      (dss_one (ds_ret (de_op od_mod (de_op od_fd (dv 3) de_int) (dv 1)))))))), fun ds M Q h => ?r⟩
  case r =>
    -- slots: 0 _law_row, 1 _law_base, 2 _law_rest, 3 _law_number
    unfold sp_law_take at h
    split at h
    case h_2 => exact h.elim
    obtain ⟨r, b, x, c, rfl, rfl, hM, hc0, hc1, hb, hbd, q⟩ := h
    have hc64 : Bd 64 (c + 1) := by show (c + 1).natAbs < 2 ^ 64; omega
    have hb0 : b ≠ 0 := by omega
    have hm : ∀ n : Int, 0 ≤ n.fmod b ∧ n.fmod b < b := fun n => ⟨Int.fmod_nonneg_of_pos _ hb, Int.fmod_lt_of_pos _ hb⟩
    refine ⟨_, rfl, _, _, hM, rfl, ?_⟩
    refine ⟨_, rfl, _, _, hM, rfl, ?_⟩
    refine ⟨_, rfl, _, _, updM_same, rfl, ⟨by decide, by decide, by decide⟩, trivial, _, rfl, ?_⟩
    refine ite2 (fun h => ?_) (fun h => ?_)
    · refine ⟨_, rfl, _, _, updM_same, rfl, ⟨by decide, by decide, by decide⟩, trivial, ?_⟩
      refine ⟨⟨by decide, by decide, by decide⟩, _, rfl, _, rfl, ⟨hb0, hbd⟩, _, rfl, _, _, updM_same, rfl, ?_⟩
      refine ⟨_, rfl, _, rfl, hb0, ?_⟩
      rw [updM_updM]
      exact rtn (q _ _ (hm _).1 (hm _).2)
    · refine ⟨_, rfl, _, _, updM_same, rfl, mulOk_r (by decide), ?_⟩
      refine ⟨_, rfl, _, _, updM_same, rfl, mulOk_l (by decide), ?_⟩
      refine ⟨_, rfl, _, _, updM_same, rfl, mulOk_r hc64, ?_⟩
      refine ⟨_, rfl, _, _, updM_same, rfl, mulOk_l (by decide), (show (2147483399 : Int) ≠ 0 by decide), ?_⟩
      have hn : ∀ n : Int, Bd 64 (n.fmod 2147483399) := fun n => by
        have h1 := Int.fmod_nonneg_of_pos n (show (0 : Int) < 2147483399 by decide)
        have h2 := Int.fmod_lt_of_pos n (show (0 : Int) < 2147483399 by decide)
        show (n.fmod 2147483399).natAbs < 2 ^ 64
        omega
      refine ⟨_, rfl, _, rfl, mulOk_l (hn _), _, rfl, mulOk_l (by decide), _, rfl, _, _, updM_same, rfl, (show (2147483647 : Int) ≠ 0 by decide), ?_⟩
      refine ⟨_, rfl, ⟨by decide, bd64 (by decide)⟩, _, rfl, hb0, ?_⟩
      exact rtn (q _ _ (hm _).1 (hm _).2)
/-! ### _law_scale, level 2 -/
theorem sc_law_scale : FnScope ["_law_row", "_law_top", "_law_bottom", "_law_far"] ["_law_row"] (defScope s_law_scale) := ⟨rfl, rfl, rfl, by decide +kernel, rfl, by decide +kernel, by decide +kernel⟩
def sp_law_scale : SpD := fun ds M Q => match ds with
  | [u] => ∃ (r : Addr) (x c : Int), u = .ref r ∧ M r = some (.lst [.int x, .int c]) ∧ 0 ≤ c ∧ c < 900000 ∧ ∀ x' c' t b p q, Scl t b p q → 0 ≤ c' → c' ≤ c + 10 → Q (scl t b p q) (updM M r (.lst [.int x', .int c']))
  | _ => False
theorem ln_law_scale : ∀ ds M Q, sp_law_scale ds M Q → ds.length = 1 := fun ds M Q h => by
  unfold sp_law_scale at h
  split at h
  · rfl
  · exact h.elim
set_option maxHeartbeats 4000000 in
theorem c_law_scale {P : Program} {w : World} {K : PySem.W.Frag} {mg : Str → Option Value} {base : Heap} (T : Tx K mg) : Cal P w K mg base 2 "_law_scale" sp_law_scale := by
  refine calD (k := 1) (N := ["_law_row", "_law_top", "_law_bottom", "_law_far"]) (ps := ["_law_row"]) T.f_law_scale sc_law_scale (fun _ _ _ _ _ _ us hl => match us, hl with | [_], _ => rfl) ln_law_scale fun f cdv A outer s H E hr => ⟨_, (dss_cons (ds_par 1 2 rfl sc_law_scale.nd (da_cons (de_op od_add de_int (de_call ((c_law_take T).mono (by decide)) hr (da_cons (dv 0) (da_cons de_int da_nil)))) (da_cons (de_op od_add de_int (de_call ((c_law_take T).mono (by decide)) hr (da_cons (dv 0) (da_cons de_int da_nil)))) da_nil)))
      (dss_cons (ds_if (dt_cmp (od_eq hr.units) (de_call ((c_law_take T).mono (by decide)) hr (da_cons (dv 0) (da_cons de_int da_nil))) de_int) (dss_one (ds_par 1 2 rfl sc_law_scale.nd (da_cons (de_op od_add de_int (de_call ((c_law_take T).mono (by decide)) hr (da_cons (dv 0) (da_cons (de_op od_pow de_int de_int) da_nil)))) (da_cons (de_op od_add de_int (de_call ((c_law_take T).mono (by decide)) hr (da_cons (dv 0) (da_cons (de_op od_pow de_int de_int) da_nil)))) da_nil)))) dss_nil)
      (dss_cons (ds_set 3 sc_law_scale.nd (de_ix (de_lst (da_cons de_int (da_cons (de_op od_pow de_int de_int) da_nil))) (de_callTy cd_int rfl T.b_int bt_int (da_cons (de_cmp (od_eq hr.units) (de_call ((c_law_take T).mono (by decide)) hr (da_cons (dv 0) (da_cons de_int da_nil))) de_int) da_nil))))
      (dss_one (ds_ret (de_tup (da_cons (dv 1) (da_cons (dv 2) (da_cons (de_op od_mul (dv 3) (de_op od_sub (de_call ((c_law_take T).mono (by decide)) hr (da_cons (dv 0) (da_cons de_int da_nil))) de_int)) (da_cons (de_op od_mul (dv 3) (de_op od_sub (de_call ((c_law_take T).mono (by decide)) hr (da_cons (dv 0) (da_cons de_int da_nil))) de_int)) da_nil)))))))))), fun ds M Q h => ?r⟩
  case r =>
    -- slots: 0 _law_row, 1 _law_top, 2 _law_bottom, 3 _law_far
    unfold sp_law_scale at h
    split at h
    case h_2 => exact h.elim
    obtain ⟨r, x, c, rfl, hM, hc0, hc1, k⟩ := h
    refine ⟨_, rfl, r, 6, x, c, rfl, rfl, hM, hc0, by omega, by decide, bd64 (by decide), fun x1 v1 h10 h11 => ?_⟩
    refine ⟨_, rfl, r, 6, x1, c + 1, rfl, rfl, updM_same, by omega, by omega, by decide, bd64 (by decide), fun x2 v2 h20 h21 => ?_⟩
    refine ⟨_, _, rfl, ?_⟩
    walk_at "nx"
    refine seq_cut (fun δ M' => ∃ x c' t b o3, 0 ≤ c' ∧ c' ≤ c + 5 ∧ (0 < t ∧ t ≤ 10 ^ 9 ∧ 0 < b ∧ b ≤ 10 ^ 9) ∧ M' = updM M r (.lst [.int x, .int c']) ∧ δ = [some (.ref r), some (.int t), some (.int b), o3]) ?_ (fun hu => ?_)
    rotate_left
    · refine ⟨_, rfl, r, 4, x2, c + 1 + 1, rfl, rfl, updM_same, by omega, by omega, by decide, bd64 (by decide), fun x3 v3 h30 h31 => ⟨_, rfl, ?_⟩⟩
      refine ite2 (fun _ => ?_) (fun _ => ?_)
      · refine ⟨_, rfl, ⟨by decide, by decide, by decide⟩, r, 10 ^ 9, x3, c + 1 + 1 + 1, rfl, rfl, updM_same, by omega, by omega, by decide, bd64 (by decide), fun x4 v4 h40 h41 => ?_⟩
        refine ⟨_, rfl, ⟨by decide, by decide, by decide⟩, r, 10 ^ 9, x4, c + 1 + 1 + 1 + 1, rfl, rfl, updM_same, by omega, by omega, by decide, bd64 (by decide), fun x5 v5 h50 h51 => ?_⟩
        refine ⟨_, _, rfl, hu _ _ ⟨x5, c + 1 + 1 + 1 + 1 + 1, 1 + v4, 1 + v5, none, by omega, by omega, by omega, ?_, rfl⟩⟩
        simp only [updM_updM]
      · refine hu _ _ ⟨x3, c + 1 + 1 + 1, 1 + v1, 1 + v2, none, by omega, by omega, by omega, ?_, rfl⟩
        simp only [updM_updM]
    rintro δ M' ⟨x, c', t, b, o3, hc0', hc1', hb, rfl, rfl⟩
    refine ⟨⟨by decide, by decide, by decide⟩, Nat.le_of_ble_eq_true rfl, fun p hp => ?_⟩
    have npr : r ≠ p := ne_fresh updM_same hp
    refine ⟨_, rfl, r, 6, x, c', rfl, rfl, (by rw [updM_ne npr, updM_same]), by omega, by omega, by decide, bd64 (by decide), fun x6 v6 h60 h61 => ?_⟩
    have hf : ∃ f : Int, atI [D.int 1, D.int (10 ^ 15)] (if decide (v6 = 0) = true then 1 else 0) = some (.int f) ∧ 1 ≤ f ∧ f ≤ 10 ^ 15 := by
      by_cases z : v6 = 0
      · exact ⟨10 ^ 15, by rw [if_pos (by simpa using z)]; rfl, by decide, by decide⟩
      · exact ⟨1, by rw [if_neg (by simpa using z)]; rfl, by decide, by decide⟩
    obtain ⟨f, ef, hf0, hf1⟩ := hf
    refine ⟨_, _, (by rw [updM_ne npr.symm, updM_same]; rfl), ef, ?_⟩
    have bf : Bd 64 f := by show f.natAbs < 2 ^ 64; omega
    refine ⟨_, rfl, _, rfl, _, rfl, _, rfl, r, 41, x6, c' + 1, rfl, rfl, updM_same, by omega, by omega, by decide, bd64 (by decide), fun x7 v7 h70 h71 => ⟨trivial, mulOk_l bf, ?_⟩⟩
    refine ⟨_, rfl, _, rfl, r, 41, x7, c' + 1 + 1, rfl, rfl, updM_same, by omega, by omega, by decide, bd64 (by decide), fun x8 v8 h80 h81 => ⟨trivial, mulOk_l bf, Nat.le_of_ble_eq_true rfl, ?_⟩⟩
    have bnd : ∀ v : Int, 0 ≤ v → v < 41 → -(10 ^ 17) ≤ f * (v - 20) ∧ f * (v - 20) ≤ 10 ^ 17 := fun v a b => by
      have h1 : f * (v - 20) ≤ f * 20 := Int.mul_le_mul_of_nonneg_left (by omega) (by omega)
      have h2 : f * (-20) ≤ f * (v - 20) := Int.mul_le_mul_of_nonneg_left (by omega) (by omega)
      omega
    have q7 := bnd v7 h70 h71
    have q8 := bnd v8 h80 h81
    refine ⟨updM M r (.lst [.int x8, .int (c' + 1 + 1 + 1)]), ?_, k _ _ _ _ _ _ ⟨hb.1, hb.2.1, hb.2.2.1, hb.2.2.2, q7.1, q7.2, q8.1, q8.2⟩ (by omega) (by omega)⟩
    simp only [updM_updM]
    refine .updR ?_
    intro a o ne e
    have : a ≠ p := fun z => by subst z; rw [updM_ne ne] at hp; rw [hp] at e; cases e
    rw [updM_ne this, updM_ne ne]
    exact e
/-! ### _law_turn, level 1 -/
theorem sc_law_turn : FnScope ["_law_one", "_law_two", "_law_three", "_law_far", "_law_beside", "_law_found"] ["_law_one", "_law_two", "_law_three"] (defScope s_law_turn) := ⟨rfl, rfl, rfl, by decide +kernel, rfl, by decide +kernel, by decide +kernel⟩
def sp_law_turn : SpD := fun ds M Q => match ds with
  | [u, v, w] => ∃ a b c d e f : Int, u = .tup [.int a, .int b] ∧ v = .tup [.int c, .int d] ∧ w = .tup [.int e, .int f] ∧ Bd 6 a ∧ Bd 6 b ∧ Bd 6 c ∧ Bd 6 d ∧ Q (.int (Int.sign (crs (c - a) (d - b) (e - a) (f - b)))) M
  | _ => False
theorem ln_law_turn : ∀ ds M Q, sp_law_turn ds M Q → ds.length = 3 := fun ds M Q h => by
  unfold sp_law_turn at h
  split at h
  · rfl
  · exact h.elim
set_option maxHeartbeats 4000000 in
theorem c_law_turn {P : Program} {w : World} {K : PySem.W.Frag} {mg : Str → Option Value} {base : Heap} (T : Tx K mg) : Cal P w K mg base 1 "_law_turn" sp_law_turn := by
  refine calD (k := 0) (N := ["_law_one", "_law_two", "_law_three", "_law_far", "_law_beside", "_law_found"]) (ps := ["_law_one", "_law_two", "_law_three"]) T.f_law_turn sc_law_turn (fun _ _ _ _ _ _ us hl => match us, hl with | [_, _, _], _ => rfl) ln_law_turn fun f cdv A outer s H E hr => ⟨_, (dss_cons (ds_set 3 sc_law_turn.nd (de_tup (da_cons (de_op od_sub (de_ix (dv 1) de_int) (de_ix (dv 0) de_int)) (da_cons (de_op od_sub (de_ix (dv 1) de_int) (de_ix (dv 0) de_int)) da_nil))))
      (dss_cons (ds_set 4 sc_law_turn.nd (de_tup (da_cons (de_op od_sub (de_ix (dv 2) de_int) (de_ix (dv 0) de_int)) (da_cons (de_op od_sub (de_ix (dv 2) de_int) (de_ix (dv 0) de_int)) da_nil))))
      (dss_cons (ds_set 5 sc_law_turn.nd (de_op od_sub (de_op od_mul (de_ix (dv 3) de_int) (de_ix (dv 4) de_int)) (de_op od_mul (de_ix (dv 3) de_int) (de_ix (dv 4) de_int))))
      (dss_one (ds_ret (de_op od_sub (de_callTy cd_int rfl T.b_int bt_int (da_cons (de_cmp (od_gtX hr.units) (dv 5) de_int) da_nil)) (de_callTy cd_int rfl T.b_int bt_int (da_cons (de_cmp (od_ltX hr.units) (dv 5) de_int) da_nil)))))))), fun ds M Q h => ?r⟩
  case r =>
    -- slots: 0 _law_one, 1 _law_two, 2 _law_three, 3 _law_far, 4 _law_beside, 5 _law_found
    unfold sp_law_turn at h
    split at h
    case h_2 => exact h.elim
    obtain ⟨a, b, c, d, e, f, rfl, rfl, rfl, ha, hb, hc, hd, k⟩ := h
    refine ⟨_, rfl, _, rfl, _, rfl, _, rfl, trivial, _, rfl, _, rfl, _, rfl, _, rfl, trivial, Nat.le_of_ble_eq_true rfl, ?_⟩
    refine ⟨_, rfl, _, rfl, _, rfl, _, rfl, trivial, _, rfl, _, rfl, _, rfl, _, rfl, trivial, Nat.le_of_ble_eq_true rfl, ?_⟩
    refine ⟨_, rfl, _, rfl, _, rfl, _, rfl, mulOk_l ((hc.sub ha).mono (by decide)), _, rfl, _, rfl, _, rfl, _, rfl, mulOk_l ((hd.sub hb).mono (by decide)), trivial, ?_⟩
    refine ⟨_, rfl, trivial, _, rfl, trivial, trivial, ?_⟩
    have e1 : (if decide (0 < (c - a) * (f - b) - (d - b) * (e - a)) = true then (1 : Int) else 0) - (if decide ((c - a) * (f - b) - (d - b) * (e - a) < 0) = true then (1 : Int) else 0) = Int.sign (crs (c - a) (d - b) (e - a) (f - b)) := by
      unfold crs
      generalize (c - a) * (f - b) - (d - b) * (e - a) = z
      rcases Int.lt_trichotomy z 0 with h | h | h
      · rw [Int.sign_eq_neg_one_of_neg h, if_neg (by simp; omega), if_pos (by simpa using h)]; rfl
      · subst h; rfl
      · rw [Int.sign_eq_one_of_pos h, if_pos (by simpa using h), if_neg (by simp; omega)]; rfl
    dsimp only
    rw [e1]
    exact rtn k
/-! ### _law_on, level 2 -/
theorem sc_law_on : FnScope ["_law_shut", "_law_spot_here"] ["_law_shut", "_law_spot_here"] (defScope s_law_on) := ⟨rfl, rfl, rfl, by decide +kernel, rfl, by decide +kernel, by decide +kernel⟩
def sp_law_on : SpD := fun ds M Q => match ds with
  | [u, v] => ∃ (w : Wl) (x y : Int), u = uw w ∧ v = .tup [.int x, .int y] ∧ Un5 w ∧ (0 ≤ x ∧ x ≤ 20) ∧ (0 ≤ y ∧ y ≤ 20) ∧ Q (.bl (decide (l1 w ≤ la x y) && decide (la x y ≤ l2 w) && decide (sd w x y = 0))) M
  | _ => False
theorem ln_law_on : ∀ ds M Q, sp_law_on ds M Q → ds.length = 2 := fun ds M Q h => by
  unfold sp_law_on at h
  split at h
  · rfl
  · exact h.elim
set_option maxHeartbeats 4000000 in
theorem c_law_on {P : Program} {w : World} {K : PySem.W.Frag} {mg : Str → Option Value} {base : Heap} (T : Tx K mg) : Cal P w K mg base 2 "_law_on" sp_law_on := by
  refine calD (k := 1) (N := ["_law_shut", "_law_spot_here"]) (ps := ["_law_shut", "_law_spot_here"]) T.f_law_on sc_law_on (fun _ _ _ _ _ _ us hl => match us, hl with | [_, _], _ => rfl) ln_law_on fun f cdv A outer s H E hr => ⟨_, (dss_one (ds_ret (de_and (de_chain (od_leX hr.units) (od_leX hr.units) (de_ix (dv 0) de_int) (dv 1) (de_ix (dv 0) de_int)) (de_one (de_cmp (od_eq hr.units) (de_call ((c_law_turn T).mono (by decide)) hr (da_cons (de_ix (dv 0) de_int) (da_cons (de_ix (dv 0) de_int) (da_cons (dv 1) da_nil)))) de_int))))), fun ds M Q h => ?r⟩
  case r =>
    -- slots: 0 _law_shut, 1 _law_spot_here
    unfold sp_law_on at h
    split at h
    case h_2 => exact h.elim
    obtain ⟨w, x, y, rfl, rfl, W, hx, hy, k⟩ := h
    walk_at "un"
    refine andV (decide (l1 w ≤ la x y) && decide (la x y ≤ l2 w)) (decide (sd w x y = 0)) (fun K hK => ?_) (fun _ K hK => ?_) (rtn k)
    · refine ⟨_, rfl, _, rfl, _, rfl, [w.1, w.2.1], [x, y], rfl, rfl, _, rfl, ?_⟩
      rw [le_la W.b hy]
      refine ite2 (fun h => ?_) (fun h => ?_)
      · refine ⟨_, rfl, _, rfl, [x, y], [w.2.2.1, w.2.2.2], rfl, rfl, ?_⟩
        rw [le_la hy W.d]
        have h' : decide (l1 w ≤ la x y) = true := h
        rw [h', Bool.true_and] at hK
        exact hK
      · have h' : decide (l1 w ≤ la x y) = false := eq_false_of_ne_true h
        rw [h', Bool.false_and] at hK
        exact hK
    · refine ⟨_, rfl, _, rfl, _, rfl, _, rfl, _, rfl, w.1, w.2.1, w.2.2.1, w.2.2.2, x, y, rfl, rfl, rfl, bd20 W.a, bd20 W.b, bd20 W.c, bd20 W.d, ?_⟩
      have e : decide (Int.sign (crs (w.2.2.1 - w.1) (w.2.2.2 - w.2.1) (x - w.1) (y - w.2.1)) = 0) = decide (sd w x y = 0) := by
        rw [decide_eq_decide]; exact Int.sign_eq_zero_iff_zero
      dsimp only
      show K (.bl (decide _)) _
      rw [e]
      exact hK
/-! ### _law_fair, level 3 -/
theorem sc_law_fair : FnScope ["_law_one", "_law_other", "_law_shut", "_law_beside", "_law_spot_here", "_law_sides", "_law_others"] ["_law_one", "_law_other"] (defScope s_law_fair) := ⟨rfl, rfl, rfl, by decide +kernel, rfl, by decide +kernel, by decide +kernel⟩
def sp_law_fair : SpD := fun ds M Q => match ds with
  | [u, v] => ∃ (U V : Wl), u = uw U ∧ v = uw V ∧ Un5 U ∧ Un5 V ∧ ∀ b : Bool, (b = true → Fair U V) → Q (.bl b) M
  | _ => False
theorem ln_law_fair : ∀ ds M Q, sp_law_fair ds M Q → ds.length = 2 := fun ds M Q h => by
  unfold sp_law_fair at h
  split at h
  · rfl
  · exact h.elim
set_option maxHeartbeats 4000000 in
theorem c_law_fair {P : Program} {w : World} {K : PySem.W.Frag} {mg : Str → Option Value} {base : Heap} (T : Tx K mg) : Cal P w K mg base 3 "_law_fair" sp_law_fair := by
  refine calD (k := 2) (N := ["_law_one", "_law_other", "_law_shut", "_law_beside", "_law_spot_here", "_law_sides", "_law_others"]) (ps := ["_law_one", "_law_other"]) T.f_law_fair sc_law_fair (fun _ _ _ _ _ _ us hl => match us, hl with | [_, _], _ => rfl) ln_law_fair fun f cdv A outer s H E hr => ⟨_, (dss_cons (ds_if (dt_cmp (od_eq hr.units) (dv 0) (dv 1)) (dss_one (ds_ret de_bl)) dss_nil)
      (dss_cons (ds_for PassesOwn.never rfl (di_seq (de_tup (da_cons (de_tup (da_cons (dv 0) (da_cons (dv 1) da_nil))) (da_cons (de_tup (da_cons (dv 1) (da_cons (dv 0) da_nil))) da_nil)))) (dg_tup rfl (dgs_cons (dg_name 2 sc_law_fair.nd) (dgs_cons (dg_name 3 sc_law_fair.nd) dgs_nil))) (dss_one (ds_for PassesOwn.never rfl (di_seq (dv 3)) (dg_name 4 sc_law_fair.nd) (dss_one (ds_if (dt_w (dw_and (dt_cmp (od_notin (ru66 hr)) (dv 4) (dv 2) (by with_unfolding_all rfl)) (dw_and1 (dt_val (de_call ((c_law_on T).mono (by decide)) hr (da_cons (dv 2) (da_cons (dv 4) da_nil))))))) (dss_one (ds_ret de_bl)) dss_nil)))))
      (dss_cons (ds_comp1 5 sc_law_fair.nd (CScope.of (xs := ["_law_spot_here"]) (js := [0]) rfl) rfl (di_seq (dv 1)) (fun _ _ _ _ => dts_nil) (fun _ _ _ _ => (de_call ((c_law_turn T).mono (by decide)) hr (da_cons (de_ix (dv 1) de_int) (da_cons (de_ix (dv 1) de_int) (da_cons (dv 0) da_nil))))))
      (dss_cons (ds_comp1 6 sc_law_fair.nd (CScope.of (xs := ["_law_spot_here"]) (js := [1]) rfl) rfl (di_seq (dv 0)) (fun _ _ _ _ => dts_nil) (fun _ _ _ _ => (de_call ((c_law_turn T).mono (by decide)) hr (da_cons (de_ix (dv 1) de_int) (da_cons (de_ix (dv 1) de_int) (da_cons (dv 0) da_nil))))))
      (dss_one (ds_ret (de_or (de_cmp (od_geX hr.units) (de_op od_mul (de_ix (dv 5) de_int) (de_ix (dv 5) de_int)) de_int) (de_one (de_cmp (od_geX hr.units) (de_op od_mul (de_ix (dv 6) de_int) (de_ix (dv 6) de_int)) de_int))))))))), fun ds M Q h => ?r⟩
  case r =>
    -- slots: 0 _law_one, 1 _law_other, 2 _law_shut, 3 _law_beside, 4 _law_spot_here, 5 _law_sides, 6 _law_others
    unfold sp_law_fair at h
    split at h
    case h_2 => exact h.elim
    obtain ⟨U, V, rfl, rfl, HU, HV, k⟩ := h
    refine ⟨_, rfl, _, rfl, _, _, Pd.of rfl, Pd.of rfl, rfl, rfl, _, rfl, ?_⟩
    refine ite2 (fun h => rtn (k false (fun z => absurd z Bool.false_ne_true))) (fun h => ?_)
    have hne : ¬ (l1 U = l1 V ∧ l2 U = l2 V) := fun ⟨z1, z2⟩ => by
      apply h
      obtain ⟨a1, a2⟩ := la_inj HU.b HV.b z1
      obtain ⟨a3, a4⟩ := la_inj HU.d HV.d z2
      simp only [PyData.eqv, PyData.eqvAll, beq_dec, a1, a2, a3, a4]
      simp
    dsimp only [SD.tNextD]
    refine seq_cut (fun δ M' => M' = M ∧ (∃ o2 o3 o4, δ = [some (uw U), some (uw V), o2, o3, o4, none, none]) ∧ (EndOk U (l1 V) (sd1 U V) ∧ EndOk U (l2 V) (sd2 U V)) ∧ (EndOk V (l1 U) (sd1 V U) ∧ EndOk V (l2 U) (sd2 V U))) ?_ (fun hu => ?_)
    rotate_left
    · refine ⟨_, rfl, _, rfl, Nat.le_of_ble_eq_true rfl, _, rfl, _, rfl, Nat.le_of_ble_eq_true rfl, Nat.le_of_ble_eq_true rfl, [.tup [uw U, uw V], .tup [uw V, uw U]], rfl, ?_⟩
      refine ⟨fun i δ M' => M' = M ∧ (∃ o2 o3 o4, δ = [some (uw U), some (uw V), o2, o3, o4, none, none]) ∧ (0 < i → EndOk U (l1 V) (sd1 U V) ∧ EndOk U (l2 V) (sd2 U V)) ∧ (1 < i → EndOk V (l1 U) (sd1 V U) ∧ EndOk V (l2 U) (sd2 V U)), ⟨rfl, ⟨_, _, _, rfl⟩, fun z => absurd z (by decide), fun z => absurd z (by decide)⟩, fun _ _ _ _ _ => rfl, ?_, ?_⟩
      · rintro i d δ M' hi hd ⟨rfl, ⟨o2, o3, o4, rfl⟩, p1, p2⟩
        have hi : i < 2 := hi
        have hd : [D.tup [uw U, uw V], .tup [uw V, uw U]][i]? = some d := hd
        have pick : ∃ A B, d = .tup [uw A, uw B] ∧ Un5 A ∧ Un5 B ∧ ((EndOk A (l1 B) (sd1 A B) ∧ EndOk A (l2 B) (sd2 A B)) → (0 < i + 1 → EndOk U (l1 V) (sd1 U V) ∧ EndOk U (l2 V) (sd2 U V)) ∧ (1 < i + 1 → EndOk V (l1 U) (sd1 V U) ∧ EndOk V (l2 U) (sd2 V U))) := by
          rcases (show i = 0 ∨ i = 1 by omega) with rfl | rfl
          · cases hd
            exact ⟨U, V, rfl, HU, HV, fun z => ⟨fun _ => z, fun y => absurd y (by decide)⟩⟩
          · cases hd
            exact ⟨V, U, rfl, HV, HU, fun z => ⟨fun _ => p1 (by decide), fun _ => z⟩⟩
        obtain ⟨A, B, rfl, HA, HB, nxt⟩ := pick
        refine ⟨_, rfl, rfl, _, _, rfl, _, _, rfl, rfl, ?_⟩
        refine ⟨_, rfl, [.tup [.int B.1, .int B.2.1], .tup [.int B.2.2.1, .int B.2.2.2]], rfl, ?_⟩
        refine ⟨fun j δ M'' => M'' = M' ∧ (∃ o4, δ = [some (uw U), some (uw V), some (uw A), some (uw B), o4, none, none]) ∧ (0 < j → EndOk A (l1 B) (sd1 A B)) ∧ (1 < j → EndOk A (l2 B) (sd2 A B)), ⟨rfl, ⟨_, rfl⟩, fun z => absurd z (by decide), fun z => absurd z (by decide)⟩, fun _ _ _ _ _ => rfl, ?_, ?_⟩
        · rintro j d δ M'' hj hd ⟨rfl, ⟨o4, rfl⟩, q1, q2⟩
          have hj : j < 2 := hj
          have hd : [D.tup [.int B.1, .int B.2.1], .tup [.int B.2.2.1, .int B.2.2.2]][j]? = some d := hd
          have pk : ∃ x y, d = .tup [.int x, .int y] ∧ (0 ≤ x ∧ x ≤ 20) ∧ (0 ≤ y ∧ y ≤ 20) ∧ (EndOk A (la x y) (sd A x y) → (0 < j + 1 → EndOk A (l1 B) (sd1 A B)) ∧ (1 < j + 1 → EndOk A (l2 B) (sd2 A B))) := by
            rcases (show j = 0 ∨ j = 1 by omega) with rfl | rfl
            · cases hd
              exact ⟨_, _, rfl, HB.a, HB.b, fun z => ⟨fun _ => z, fun y => absurd y (by decide)⟩⟩
            · cases hd
              exact ⟨_, _, rfl, HB.c, HB.d, fun z => ⟨fun _ => q1 (by decide), fun _ => z⟩⟩
          obtain ⟨x, y, rfl, hx, hy, nx2⟩ := pk
          walk_at "un"
          refine andT (!(decide (A.1 = x ∧ A.2.1 = y) || decide (A.2.2.1 = x ∧ A.2.2.2 = y))) (decide (l1 A ≤ la x y) && decide (la x y ≤ l2 A) && decide (sd A x y = 0)) (fun K hK => ⟨_, rfl, _, rfl, in_two _ A x y _ _ ⟨_, rfl, hK⟩⟩) (fun _ K hK => ⟨_, rfl, _, rfl, A, x, y, rfl, rfl, HA, hx, hy, _, rfl, hK⟩) ?_
          refine ite2 (fun _ => rtn (k false (fun z => absurd z Bool.false_ne_true))) (fun h => ?_)
          exact ⟨rfl, ⟨_, rfl⟩, nx2 (endOk_of HA hy (eq_false_of_ne_true h))⟩
        · rintro δ M'' ⟨rfl, ⟨o4, rfl⟩, q1, q2⟩
          exact ⟨rfl, ⟨_, _, _, rfl⟩, nxt ⟨q1 (show 0 < 2 by decide), q2 (show 1 < 2 by decide)⟩⟩
      · rintro δ M' ⟨rfl, ⟨o2, o3, o4, rfl⟩, p1, p2⟩
        exact hu _ _ ⟨rfl, ⟨_, _, _, rfl⟩, p1 (show 0 < 2 by decide), p2 (show 1 < 2 by decide)⟩
    rintro δ M' ⟨rfl, ⟨o2, o3, o4, rfl⟩, ⟨e1, e2⟩, ⟨e3, e4⟩⟩
    refine ⟨_, rfl, [.tup [.int V.1, .int V.2.1], .tup [.int V.2.2.1, .int V.2.2.2]], rfl, comp_map (fun j => if j = 0 then .int (Int.sign (sd1 U V)) else .int (Int.sign (sd2 U V))) (Nat.le_of_ble_eq_true rfl) (fun _ _ _ => rfl) ?_ (fun p hp => ?_)⟩
    · intro j e' M2 hj he' _
      have hj : j < 2 := hj
      have he' : [D.tup [.int V.1, .int V.2.1], .tup [.int V.2.2.1, .int V.2.2.2]][j]? = some e' := he'
      rcases (show j = 0 ∨ j = 1 by omega) with rfl | rfl
      · cases he'
        exact ⟨_, rfl, fun K2 hK2 => ⟨_, rfl, _, rfl, _, rfl, _, rfl, _, rfl, U.1, U.2.1, U.2.2.1, U.2.2.2, _, _, rfl, rfl, rfl, bd20 HU.a, bd20 HU.b, bd20 HU.c, bd20 HU.d, hK2 _ .refl⟩⟩
      · cases he'
        exact ⟨_, rfl, fun K2 hK2 => ⟨_, rfl, _, rfl, _, rfl, _, rfl, _, rfl, U.1, U.2.1, U.2.2.1, U.2.2.2, _, _, rfl, rfl, rfl, bd20 HU.a, bd20 HU.b, bd20 HU.c, bd20 HU.d, hK2 _ .refl⟩⟩
    refine ⟨_, rfl, [.tup [.int U.1, .int U.2.1], .tup [.int U.2.2.1, .int U.2.2.2]], rfl, comp_map (fun j => if j = 0 then .int (Int.sign (sd1 V U)) else .int (Int.sign (sd2 V U))) (Nat.le_of_ble_eq_true rfl) (fun _ _ _ => rfl) ?_ (fun p2 hp2 => ?_)⟩
    · intro j e' M2 hj he' _
      have hj : j < 2 := hj
      have he' : [D.tup [.int U.1, .int U.2.1], .tup [.int U.2.2.1, .int U.2.2.2]][j]? = some e' := he'
      rcases (show j = 0 ∨ j = 1 by omega) with rfl | rfl
      · cases he'
        exact ⟨_, rfl, fun K2 hK2 => ⟨_, rfl, _, rfl, _, rfl, _, rfl, _, rfl, V.1, V.2.1, V.2.2.1, V.2.2.2, _, _, rfl, rfl, rfl, bd20 HV.a, bd20 HV.b, bd20 HV.c, bd20 HV.d, hK2 _ .refl⟩⟩
      · cases he'
        exact ⟨_, rfl, fun K2 hK2 => ⟨_, rfl, _, rfl, _, rfl, _, rfl, _, rfl, V.1, V.2.1, V.2.2.1, V.2.2.2, _, _, rfl, rfl, rfl, bd20 HV.a, bd20 HV.b, bd20 HV.c, bd20 HV.d, hK2 _ .refl⟩⟩
    have n12 : p ≠ p2 := ne_fresh updM_same hp2
    have c1 : (updM (updM M' p (.lst [.int (Int.sign (sd1 U V)), .int (Int.sign (sd2 U V))])) p2 (.lst [.int (Int.sign (sd1 V U)), .int (Int.sign (sd2 V U))])) p = some (.lst [.int (Int.sign (sd1 U V)), .int (Int.sign (sd2 U V))]) := by rw [updM_ne n12, updM_same]
    walk_at "un"
    refine orV (decide (0 ≤ Int.sign (sd1 U V) * Int.sign (sd2 U V))) (decide (0 ≤ Int.sign (sd1 V U) * Int.sign (sd2 V U))) (fun K hK => ⟨_, rfl, _, _, c1, rfl, _, rfl, _, _, c1, rfl, mulOk_l (sg_bd _), trivial, hK⟩) (fun _ K hK => ⟨_, rfl, _, _, updM_same, rfl, _, rfl, _, _, updM_same, rfl, mulOk_l (sg_bd _), trivial, hK⟩) ?_
    refine ⟨M', .new hp2 (.new hp .refl), k _ fun z => ⟨hne, e1, e2, e3, e4, ?_⟩⟩
    rw [Bool.or_eq_true, decide_eq_true_eq, decide_eq_true_eq] at z
    exact z
/-! ### _law_shuts_here, level 4 -/
theorem sc_law_shuts_here : FnScope ["_law_row", "_law_most", "_law_size", "_law_shuts", "_law_turn_here", "_law_one", "_law_other", "_law_shut"] ["_law_row", "_law_most", "_law_size"] (defScope s_law_shuts_here) := ⟨rfl, rfl, rfl, by decide +kernel, rfl, by decide +kernel, by decide +kernel⟩
def sp_law_shuts_here : SpD := fun ds M Q => match ds with
  | [u, m, n] => ∃ (r : Addr) (x c m' : Int), u = .ref r ∧ m = .int m' ∧ (0 ≤ m' ∧ m' ≤ 12) ∧ n = .int 5 ∧ M r = some (.lst [.int x, .int c]) ∧ 0 ≤ c ∧ c < 1000 ∧
      ∀ (M'' : MH) (x' c' : Int) (l : Addr) (ws : List Wl), r ≠ l → M'' r = some (.lst [.int x', .int c']) → M'' l = some (.lst (ws.map uw)) → 0 ≤ c' → c' ≤ c + 140 → ws.length ≤ 12 → (∀ w ∈ ws, Un5 w) → PF ws → Q (.ref l) M''
  | _ => False
theorem ln_law_shuts_here : ∀ ds M Q, sp_law_shuts_here ds M Q → ds.length = 3 := fun ds M Q h => by
  unfold sp_law_shuts_here at h
  split at h
  · rfl
  · exact h.elim
set_option maxHeartbeats 4000000 in
theorem c_law_shuts_here {P : Program} {w : World} {K : PySem.W.Frag} {mg : Str → Option Value} {base : Heap} (T : Tx K mg) : Cal P w K mg base 4 "_law_shuts_here" sp_law_shuts_here := by
  refine calD (k := 3) (N := ["_law_row", "_law_most", "_law_size", "_law_shuts", "_law_turn_here", "_law_one", "_law_other", "_law_shut"]) (ps := ["_law_row", "_law_most", "_law_size"]) T.f_law_shuts_here sc_law_shuts_here (fun _ _ _ _ _ _ us hl => match us, hl with | [_, _, _], _ => rfl) ln_law_shuts_here fun f cdv A outer s H E hr => ⟨_, (dss_cons (ds_set 3 sc_law_shuts_here.nd (de_lst da_nil))
      (dss_cons (ds_forR PassesOwn.never rfl rfl T.b_range (da_cons (de_call ((c_law_take T).mono (by decide)) hr (da_cons (dv 0) (da_cons (de_op od_add (dv 1) de_int) da_nil))) da_nil) (dg_name 4 sc_law_shuts_here.nd) (dss_cons (ds_set 5 sc_law_shuts_here.nd (de_tup (da_cons (de_call ((c_law_take T).mono (by decide)) hr (da_cons (dv 0) (da_cons (dv 2) da_nil))) (da_cons (de_call ((c_law_take T).mono (by decide)) hr (da_cons (dv 0) (da_cons (dv 2) da_nil))) da_nil))))
      (dss_cons (ds_set 6 sc_law_shuts_here.nd (de_tup (da_cons (de_call ((c_law_take T).mono (by decide)) hr (da_cons (dv 0) (da_cons (dv 2) da_nil))) (da_cons (de_call ((c_law_take T).mono (by decide)) hr (da_cons (dv 0) (da_cons (dv 2) da_nil))) da_nil))))
      (dss_cons (ds_if (dt_w (dw_and (dt_cmp (od_ne hr.units) (dv 3) (de_lst da_nil)) (dw_and1 (dt_cmp (od_gtX hr.units) (de_call ((c_law_take T).mono (by decide)) hr (da_cons (dv 0) (da_cons de_int da_nil))) de_int)))) (dss_one (ds_set 5 sc_law_shuts_here.nd (de_ix (de_ix (dv 3) (de_call ((c_law_take T).mono (by decide)) hr (da_cons (dv 0) (da_cons (de_callB cd_len rfl T.b_len bt_len (da_cons (dv 3) da_nil)) da_nil)))) (de_call ((c_law_take T).mono (by decide)) hr (da_cons (dv 0) (da_cons de_int da_nil)))))) dss_nil)
      (dss_cons (ds_set 7 sc_law_shuts_here.nd (de_tup (da_cons (de_callB (cd_minX rfl hr.units) rfl T.b_min bt_min (da_cons (dv 5) (da_cons (dv 6) da_nil))) (da_cons (de_callB (cd_maxX rfl hr.units) rfl T.b_max bt_max (da_cons (dv 5) (da_cons (dv 6) da_nil))) da_nil))))
      (dss_one (ds_if (dt_w (dw_and (dt_cmp (od_ne hr.units) (dv 5) (dv 6)) (dw_and1 (dt_val (de_callB (cd_all rfl) rfl T.b_all bt_all (da_cons (de_comp1 (CScope.of (xs := ["_law_beside"]) (js := [7]) rfl) rfl (di_seq (dv 3)) (fun _ _ _ _ => dts_nil) (fun _ _ _ _ => (de_call ((c_law_fair T).mono (by decide)) hr (da_cons (dv 1) (da_cons (dv 0) da_nil))))) da_nil)))))) (dss_one (ds_expr (de_m_append (dv 3) (da_cons (dv 7) da_nil)))) dss_nil)))))))
      (dss_one (ds_ret (dv 3))))), fun ds M Q h => ?r⟩
  case r =>
    -- slots: 0 _law_row, 1 _law_most, 2 _law_size, 3 _law_shuts, 4 _law_turn_here, 5 _law_one, 6 _law_other, 7 _law_shut
    unfold sp_law_shuts_here at h
    split at h
    case h_2 => exact h.elim
    obtain ⟨r, x0, c0, m, rfl, rfl, hm, rfl, hM, hc0, hc1, k⟩ := h
    refine ⟨Nat.le_of_ble_eq_true rfl, fun l hl => ?_⟩
    have nrl : r ≠ l := ne_fresh hM hl
    refine ⟨_, rfl, _, rfl, r, m + 1, x0, c0, rfl, rfl, (by rw [updM_ne nrl]; exact hM), hc0, by omega, by omega, bd64 (by omega), fun x1 v h0 h1 => ?_⟩
    refine ⟨v.toNat, ?_, by omega, fun i δ M' => ∃ (x c : Int) (ws : List Wl) (o4 o5 o6 o7 : Option D), δ = [some (.ref r), some (.int m), some (.int 5), some (.ref l), o4, o5, o6, o7] ∧ M' r = some (.lst [.int x, .int c]) ∧ M' l = some (.lst (ws.map uw)) ∧ 0 ≤ c ∧ c ≤ c0 + 1 + 10 * i ∧ ws.length ≤ i ∧ (∀ w ∈ ws, Un5 w) ∧ PF ws, ?_, ?_, ?_⟩
    · rw [Int.toNat_of_nonneg h0]
    · refine ⟨x1, c0 + 1, [], _, _, _, _, rfl, updM_same, (by rw [updM_ne nrl.symm, updM_same]; rfl), by omega, by omega, by decide, fun w hw => absurd hw (by simp), pf_nil⟩
    rotate_left
    · rintro δ M' ⟨x, c, ws, o4, o5, o6, o7, rfl, hr', hl', g0, g1, g2, g3, g4⟩
      exact ⟨_, rfl, rtn (k M' x c l ws nrl hr' hl' g0 (by omega) (by omega) g3 g4)⟩
    rintro i δ M' hi ⟨x, c, ws, o4, o5, o6, o7, rfl, hr', hl', g0, g1, g2, g3, g4⟩
    have hi8 : i ≤ 12 := by omega
    refine ⟨_, rfl, _, rfl, r, 5, x, c, rfl, rfl, hr', g0, by omega, by decide, bd64 (by decide), fun x1 p hp0 hp1 => ?_⟩
    refine ⟨_, rfl, _, rfl, r, 5, x1, c + 1, rfl, rfl, updM_same, by omega, by omega, by decide, bd64 (by decide), fun x2 q hq0 hq1 => ⟨Nat.le_of_ble_eq_true rfl, ?_⟩⟩
    refine ⟨_, rfl, _, rfl, r, 5, x2, c + 1 + 1, rfl, rfl, updM_same, by omega, by omega, by decide, bd64 (by decide), fun x3 e he0 he1 => ?_⟩
    refine ⟨_, rfl, _, rfl, r, 5, x3, c + 1 + 1 + 1, rfl, rfl, updM_same, by omega, by omega, by decide, bd64 (by decide), fun x4 f hf0 hf1 => ⟨Nat.le_of_ble_eq_true rfl, ?_⟩⟩
    simp only [updM_updM]
    have hl4 : (updM M' r (.lst [.int x4, .int (c + 1 + 1 + 1 + 1)])) l = some (.lst (ws.map uw)) := by rw [updM_ne nrl.symm]; exact hl'
    have hr4 : (updM M' r (.lst [.int x4, .int (c + 1 + 1 + 1 + 1)])) r = some (.lst [.int x4, .int (c + 1 + 1 + 1 + 1)]) := updM_same
    generalize updM M' r (.lst [.int x4, .int (c + 1 + 1 + 1 + 1)]) = M4 at hl4 hr4 ⊢
    walk_at "nx"
    refine seq_cut (fun δ M' => ∃ (x c' p q : Int) (o7 : Option D), δ = [some (.ref r), some (.int m), some (.int 5), some (.ref l), some (.int (i : Int)), some (.tup [.int p, .int q]), some (.tup [.int e, .int f]), o7] ∧ M' r = some (.lst [.int x, .int c']) ∧ M' l = some (.lst (ws.map uw)) ∧ 0 ≤ c' ∧ c' ≤ c + 10 ∧ (0 ≤ p ∧ p ≤ 20) ∧ (0 ≤ q ∧ q ≤ 20)) ?_ (fun hu => ?_)
    rotate_left
    · refine ⟨_, rfl, Nat.le_of_ble_eq_true rfl, fun z hz => ?_⟩
      have nrz : r ≠ z := ne_fresh hr4 hz
      have nlz : l ≠ z := ne_fresh hl4 hz
      have hl5 : (updM M4 z (.lst [])) l = some (.lst (ws.map uw)) := by rw [updM_ne nlz]; exact hl4
      have hr5 : (updM M4 z (.lst [])) r = some (.lst [.int x4, .int (c + 1 + 1 + 1 + 1)]) := by rw [updM_ne nrz]; exact hr4
      refine ⟨_, _, .lst hl5 (pds_ws ws), .lst updM_same .nil, shaped_ws ws, rfl, _, rfl, ?_⟩
      rw [eqv_ws_nil]
      refine ite2 (fun hne => ?_) (fun hnil => ?_)
      · have hpos : 0 < ws.length := by
          cases ws with
          | nil => simp at hne
          | cons w ws => simp
        refine ⟨_, rfl, r, 3, x4, c + 1 + 1 + 1 + 1, rfl, rfl, hr5, by omega, by omega, by decide, bd64 (by decide), fun x5 v5 h50 h51 => ⟨trivial, _, rfl, ?_⟩⟩
        have hl6 : (updM (updM M4 z (.lst [])) r (.lst [.int x5, .int (c + 1 + 1 + 1 + 1 + 1)])) l = some (.lst (ws.map uw)) := by rw [updM_ne nrl.symm]; exact hl5
        refine ite2 (fun _ => ?_) (fun _ => ?_)
        · refine ⟨_, rfl, _, rfl, _, rfl, _, hl6, r, ((ws.map uw).length : Int), x5, c + 1 + 1 + 1 + 1 + 1, rfl, rfl, updM_same, by omega, by omega, by simpa using hpos, bd64 (by simp; omega), fun x6 v6 h60 h61 => ?_⟩
          obtain ⟨w, hw, ew⟩ := ws_pick (ws := ws) h60 (by simpa using h61)
          have hw5 := g3 w hw
          refine ⟨_, _, (by rw [updM_ne nrl.symm]; exact hl6), ew, ?_⟩
          refine ⟨_, rfl, r, 2, x6, c + 1 + 1 + 1 + 1 + 1 + 1, rfl, rfl, updM_same, by omega, by omega, by decide, bd64 (by decide), fun x7 v7 h70 h71 => ?_⟩
          obtain ⟨a, b, ea, ha, hb⟩ := end_pick hw5 h70 h71
          refine ⟨_, ea, hu _ _ ⟨x7, _, a, b, _, rfl, updM_same, (by rw [updM_ne nrl.symm, updM_ne nrl.symm]; exact hl6), by omega, by omega, ha, hb⟩⟩
        · exact hu _ _ ⟨x5, _, p, q, _, rfl, updM_same, hl6, by omega, by omega, by omega, by omega⟩
      · refine iteB rfl ?_
        exact hu _ _ ⟨x4, _, p, q, _, rfl, hr5, hl5, by omega, by omega, by omega, by omega⟩
    rintro δ M5 ⟨x5, c5, p, q, o7, rfl, hr5, hl5, k0, k1, hp, hq⟩
    have he : 0 ≤ e ∧ e ≤ 20 := by omega
    have hf : 0 ≤ f ∧ f ≤ 20 := by omega
    refine ⟨_, rfl, _, rfl, [p, q], [e, f], rfl, rfl, ?_⟩
    refine ⟨_, rfl, _, rfl, [p, q], [e, f], rfl, rfl, Nat.le_of_ble_eq_true rfl, ?_⟩
    refine ⟨_, rfl, _, rfl, _, _, Pd.of rfl, Pd.of rfl, rfl, rfl, _, rfl, ?_⟩
    rw [eqv_two]
    refine ite2 (fun hne => ?_) (fun _ => ?_)
    rotate_left
    · refine iteB rfl ?_
      exact ⟨x5, c5, ws, _, _, _, _, rfl, hr5, hl5, k0, by omega, by omega, g3, g4⟩
    obtain ⟨w, e1, e2, hw⟩ := order_two hp hq he hf (fun ⟨a, b⟩ => by simp [a, b] at hne)
    rw [e1, e2]
    refine ⟨_, rfl, ws.map uw, hl5, ?_⟩
    refine ⟨by simp; omega, fun z hz => ?_⟩
    have nrz : r ≠ z := ne_fresh hr5 hz
    have nlz : l ≠ z := ne_fresh hl5 hz
    refine ⟨fun j ys M' => ∃ bs : List Bool, ys = bs.map D.bl ∧ bs.length = j ∧ (∀ (t : Nat) (v : Wl), bs[t]? = some true → ws[t]? = some v → Fair w v) ∧ M' = updM M5 z (.lst ys), ⟨[], rfl, rfl, fun t v h => by simp at h, rfl⟩, ?_, ?_, ?_⟩
    · rintro j ys M' _ ⟨bs, _, _, _, rfl⟩
      show (updM M5 z _) l = _
      rw [updM_ne nlz]; exact hl5
    · rintro j ys d M' hj hd ⟨bs, rfl, hlen, hf, rfl⟩
      have hd : (ws.map uw)[j]? = some d := hd
      rw [List.getElem?_map] at hd
      cases ev : ws[j]? with
      | none => rw [ev] at hd; cases hd
      | some v =>
        rw [ev] at hd
        cases hd
        refine ⟨_, rfl, ?_⟩
        dsimp only [SD.tTrueD]
        refine iteT ?_
        refine ⟨_, rfl, _, rfl, w, v, rfl, rfl, hw, g3 v (List.mem_of_getElem? ev), fun b hb => ?_⟩
        refine ⟨_, .refl, updM_same, bs ++ [b], by simp, by simp [hlen], fun t v' ht hv' => ?_, by rw [updM_updM]⟩
        rcases Nat.lt_trichotomy t bs.length with y | y | y
        · rw [List.getElem?_append_left y] at ht
          exact hf t v' ht hv'
        · subst y
          rw [List.getElem?_append_right (Nat.le_refl _)] at ht
          have hb' : b = true := by simpa using ht
          rw [hlen, ev] at hv'
          cases hv'
          exact hb hb'
        · rw [List.getElem?_eq_none (by simp; omega)] at ht; cases ht
    rintro ys M' ⟨bs, rfl, hlen, hf, rfl⟩
    have hlen' : bs.length = ws.length := by rw [hlen]; simp
    have hl6 : (updM M5 z (.lst (bs.map D.bl))) l = some (.lst (ws.map uw)) := by rw [updM_ne nlz]; exact hl5
    have hr6 : (updM M5 z (.lst (bs.map D.bl))) r = some (.lst [.int x5, .int c5]) := by rw [updM_ne nrz]; exact hr5
    refine ⟨bs, updM_same, _, rfl, ?_⟩
    refine ite2 (fun hall => ?_) (fun _ => ?_)
    · refine ⟨_, rfl, l, _, rfl, hl6, _, rfl, ws.map uw, _, rfl, hl6, by simp; omega, ?_⟩
      refine ⟨x5, c5, ws ++ [w], _, _, _, _, rfl, by rw [updM_ne nrl]; exact hr6, by rw [updM_same, List.map_append]; rfl, k0, by omega, by simp; omega, fun v hv => ?_, pf_append g4 fun t v hv => hf t v ?_ hv⟩
      · rcases List.mem_append.mp hv with y | y
        · exact g3 v y
        · rw [List.mem_singleton.mp y]; exact hw
      · have ht : t < bs.length := by
          rw [hlen']
          exact (List.getElem?_eq_some_iff.mp hv).1
        rw [List.getElem?_eq_getElem ht]
        have := List.all_eq_true.mp hall _ (List.getElem_mem ht)
        exact congrArg some this
    · exact ⟨x5, c5, ws, _, _, _, _, rfl, hr6, hl6, k0, by omega, by omega, g3, g4⟩
/-! ### _law_low, level 1 -/
theorem sc_law_low : FnScope ["_law_top", "_law_bottom", "_law_one", "_law_other"] ["_law_top", "_law_bottom"] (defScope s_law_low) := ⟨rfl, rfl, rfl, by decide +kernel, rfl, by decide +kernel, by decide +kernel⟩
def sp_law_low : SpD := fun ds M Q => match ds with
  | [x, y] => ∃ t b, x = .int t ∧ y = .int b ∧ b ≠ 0 ∧ Bd 8000 t ∧ Bd 8000 b ∧ Q (Ma.fr (Rat.divInt t b)) M
  | _ => False
theorem ln_law_low : ∀ ds M Q, sp_law_low ds M Q → ds.length = 2 := fun ds M Q h => by
  unfold sp_law_low at h
  split at h
  · rfl
  · exact h.elim
set_option maxHeartbeats 4000000 in
theorem c_law_low {P : Program} {w : World} {K : PySem.W.Frag} {mg : Str → Option Value} {base : Heap} (T : Tx K mg) : Cal P w K mg base 1 "_law_low" sp_law_low := by
  refine calD (k := 0) (N := ["_law_top", "_law_bottom", "_law_one", "_law_other"]) (ps := ["_law_top", "_law_bottom"]) T.f_law_low sc_law_low (fun _ _ _ _ _ _ us hl => match us, hl with | [_, _], _ => rfl) ln_law_low fun f cdv A outer s H E hr => ⟨_, (dss_cons (ds_set 2 sc_law_low.nd (de_callB cd_abs rfl T.b_abs bt_abs (da_cons (dv 0) da_nil)))
      (dss_cons (ds_set 3 sc_law_low.nd (de_callB cd_abs rfl T.b_abs bt_abs (da_cons (dv 1) da_nil)))
      (dss_cons (ds_while PassesOwn.never (dt_cmp (od_ne hr.units) (dv 3) de_int) (dss_one (ds_par 2 3 rfl sc_law_low.nd (da_cons (dv 3) (da_cons (de_op od_mod (dv 2) (dv 3)) da_nil)))))
      (dss_cons (ds_if (dt_cmp (od_ltX hr.units) (dv 1) de_int) (dss_one (ds_set 2 sc_law_low.nd (de_un un_negD (dv 2)))) dss_nil)
      (dss_one (ds_ret (de_tup (da_cons (de_op od_fd (dv 0) (dv 2)) (da_cons (de_op od_fd (dv 1) (dv 2)) da_nil))))))))), fun ds M Q h => ?r⟩
  case r =>
    -- slots: 0 _law_top, 1 _law_bottom, 2 _law_one, 3 _law_other
    unfold sp_law_low at h
    split at h
    case h_2 => exact h.elim
    obtain ⟨t, b, rfl, rfl, hb, ht, hbb, q⟩ := h
    refine ⟨_, rfl, _, rfl, ?_⟩
    have hg := Ma.g_pos (t := t) hb
    have hgd : Bd 8000 ((Nat.gcd t.natAbs b.natAbs : Nat) : Int) := hbb.of_le (by simpa using Nat.gcd_le_right t.natAbs (show 0 < b.natAbs by omega))
    refine ⟨fun m δ M' => M' = M ∧ ∃ x y : Nat, δ = [some (.int t), some (.int b), some (.int x), some (.int y)] ∧ Nat.gcd x y = Nat.gcd t.natAbs b.natAbs ∧ m = y, ⟨_, rfl, _, _, rfl, rfl, rfl⟩, ?_⟩
    rintro m δ M' ⟨rfl, x, y, rfl, hxy, hm⟩
    refine ⟨_, rfl, _, rfl, ?_⟩
    refine ite2 (fun h => ?_) (fun h => ?_)
    · have hy : (y : Int) ≠ 0 := by simpa using h
      refine ⟨_, rfl, _, rfl, _, rfl, hy, _, _, rfl, ?_⟩
      have hy' : 0 < y := by omega
      refine ⟨x % y, by rw [hm]; exact Nat.mod_lt _ hy', rfl, y, x % y, ?_, ?_, rfl⟩
      · rw [← Ma.mod_nat]
        rfl
      · rw [← hxy, Nat.gcd_comm x y, Nat.gcd_rec y x, Nat.gcd_comm]
    · have hy : y = 0 := by simpa using h
      subst hy
      rw [Nat.gcd_zero_right] at hxy
      subst hxy
      walk_at "rd"
      refine ite2 (fun h => ?_) (fun h => ?_)
      · have hneg : b < 0 := by simpa using h
        obtain ⟨e1, e2⟩ := Ma.low_neg (t := t) hneg
        refine ⟨_, rfl, _, rfl, _, rfl, ⟨by omega, hgd.neg⟩, _, rfl, _, rfl, ⟨by omega, hgd.neg⟩, Nat.le_of_ble_eq_true rfl, ?_⟩
        dsimp only
        rw [e1, e2]
        exact rtn q
      · have hpos : 0 < b := by
          have : ¬ b < 0 := by simpa using h
          omega
        obtain ⟨e1, e2⟩ := Ma.low_pos (t := t) hpos
        refine ⟨_, rfl, _, rfl, ⟨by omega, hgd⟩, _, rfl, _, rfl, ⟨by omega, hgd⟩, Nat.le_of_ble_eq_true rfl, ?_⟩
        dsimp only
        rw [e1, e2]
        exact rtn q
/-! ### _law_spot, level 2 -/
theorem sc_law_spot : FnScope ["_law_scale_here", "_law_unit", "_law_top", "_law_bottom", "_law_x", "_law_y"] ["_law_scale_here", "_law_unit"] (defScope s_law_spot) := ⟨rfl, rfl, rfl, by decide +kernel, rfl, by decide +kernel, by decide +kernel⟩
def sp_law_spot : SpD := fun ds M Q => match ds with
  | [s, v] => ∃ t b x y p q : Int, s = scl t b x y ∧ v = .tup [.int p, .int q] ∧ Scl t b x y ∧ (-(10 ^ 6) ≤ p ∧ p ≤ 10 ^ 6) ∧ (-(10 ^ 6) ≤ q ∧ q ≤ 10 ^ 6) ∧ Q (Ma.spt (Ma.ut t b x 1 p) (Ma.ut t b y 1 q)) M
  | _ => False
theorem ln_law_spot : ∀ ds M Q, sp_law_spot ds M Q → ds.length = 2 := fun ds M Q h => by
  unfold sp_law_spot at h
  split at h
  · rfl
  · exact h.elim
set_option maxHeartbeats 4000000 in
theorem c_law_spot {P : Program} {w : World} {K : PySem.W.Frag} {mg : Str → Option Value} {base : Heap} (T : Tx K mg) : Cal P w K mg base 2 "_law_spot" sp_law_spot := by
  refine calD (k := 1) (N := ["_law_scale_here", "_law_unit", "_law_top", "_law_bottom", "_law_x", "_law_y"]) (ps := ["_law_scale_here", "_law_unit"]) T.f_law_spot sc_law_spot (fun _ _ _ _ _ _ us hl => match us, hl with | [_, _], _ => rfl) ln_law_spot fun f cdv A outer s H E hr => ⟨_, (dss_cons (ds_asg (dv 0) (dg_tup rfl (dgs_cons (dg_name 2 sc_law_spot.nd) (dgs_cons (dg_name 3 sc_law_spot.nd) (dgs_cons (dg_name 4 sc_law_spot.nd) (dgs_cons (dg_name 5 sc_law_spot.nd) dgs_nil))))))
      (dss_one (ds_ret (de_tup (da_cons (de_call ((c_law_low T).mono (by decide)) hr (da_cons (de_op od_add (de_op od_mul (de_ix (dv 1) de_int) (dv 2)) (dv 4)) (da_cons (dv 3) da_nil))) (da_cons (de_call ((c_law_low T).mono (by decide)) hr (da_cons (de_op od_add (de_op od_mul (de_ix (dv 1) de_int) (dv 2)) (dv 5)) (da_cons (dv 3) da_nil))) da_nil)))))), fun ds M Q h => ?r⟩
  case r =>
    -- slots: 0 _law_scale_here, 1 _law_unit, 2 _law_top, 3 _law_bottom, 4 _law_x, 5 _law_y
    unfold sp_law_spot at h
    split at h
    case h_2 => exact h.elim
    obtain ⟨t, b, x, y, p, q, rfl, rfl, S, hp, hq, k⟩ := h
    have bt : Bd 64 t := by have := S.t0; have := S.t1; show t.natAbs < 2 ^ 64; omega
    have bp : ∀ {z : Int}, (-(10 ^ 6) ≤ z ∧ z ≤ 10 ^ 6) → Bd 64 z := fun {z} h => by show z.natAbs < 2 ^ 64; omega
    have bb : Bd 8000 b := by have := S.b0; have := S.b1; exact bd64 (by omega)
    have big : ∀ {z w : Int}, (-(10 ^ 6) ≤ z ∧ z ≤ 10 ^ 6) → (-(10 ^ 17) ≤ w ∧ w ≤ 10 ^ 17) → Bd 8000 (z * t + w) := fun {z w} h1 h2 => by
      have e1 : Bd 128 (z * t) := (bp h1).mul bt
      have e2 : Bd 128 w := bd64 (by omega)
      exact (e1.add e2).mono (by decide)
    have hb0 : b ≠ 0 := by have := S.b0; omega
    refine ⟨_, rfl, _, rfl, rfl, _, _, rfl, _, _, rfl, _, _, rfl, _, _, rfl, rfl, ?_⟩
    refine ⟨_, rfl, _, rfl, _, rfl, mulOk_r bt, _, rfl, _, rfl, p * t + x, b, rfl, rfl, hb0, big hp ⟨S.x0, S.x1⟩, bb, ?_⟩
    refine ⟨_, rfl, _, rfl, _, rfl, mulOk_r bt, _, rfl, _, rfl, q * t + y, b, rfl, rfl, hb0, big hq ⟨S.y0, S.y1⟩, bb, Nat.le_of_ble_eq_true rfl, ?_⟩
    rw [Ma.ut_one, Ma.ut_one]
    exact rtn k
/-! ### _law_made, level 3 -/
theorem sc_law_made : FnScope ["_law_scale_here", "_law_shuts"] ["_law_scale_here", "_law_shuts"] (defScope s_law_made) := ⟨rfl, rfl, rfl, by decide +kernel, rfl, by decide +kernel, by decide +kernel⟩
def sp_law_made : SpD := fun ds M Q => match ds with
  | [s, v] => ∃ (t b x y : Int) (l : Addr) (ws : List (Int × Int × Int × Int)), s = scl t b x y ∧ v = .ref l ∧ M l = some (.lst (ws.map uw)) ∧ Scl t b x y ∧ ws.length ≤ 1000 ∧ (∀ w ∈ ws, Uok (10 ^ 6) w) ∧ Q (.tup (ws.map (rwl t b x y))) M
  | _ => False
theorem ln_law_made : ∀ ds M Q, sp_law_made ds M Q → ds.length = 2 := fun ds M Q h => by
  unfold sp_law_made at h
  split at h
  · rfl
  · exact h.elim
set_option maxHeartbeats 4000000 in
theorem c_law_made {P : Program} {w : World} {K : PySem.W.Frag} {mg : Str → Option Value} {base : Heap} (T : Tx K mg) : Cal P w K mg base 3 "_law_made" sp_law_made := by
  refine calD (k := 2) (N := ["_law_scale_here", "_law_shuts"]) (ps := ["_law_scale_here", "_law_shuts"]) T.f_law_made sc_law_made (fun _ _ _ _ _ _ us hl => match us, hl with | [_, _], _ => rfl) ln_law_made fun f cdv A outer s H E hr => ⟨_, (dss_one (ds_ret (de_callTy cd_tuple rfl T.b_tuple bt_tuple (da_cons (de_comp2 (CScope.of (xs := ["_law_first", "_law_second"]) (js := [0]) rfl) rfl (di_seq (dv 1)) (fun _ _ _ _ => dts_nil) (fun _ _ _ _ => (de_tup (da_cons (de_call ((c_law_spot T).mono (by decide)) hr (da_cons (dv 2) (da_cons (dv 0) da_nil))) (da_cons (de_call ((c_law_spot T).mono (by decide)) hr (da_cons (dv 2) (da_cons (dv 1) da_nil))) da_nil))))) da_nil)))), fun ds M Q h => ?r⟩
  case r =>
    -- slots: 0 _law_scale_here, 1 _law_shuts
    unfold sp_law_made at h
    split at h
    case h_2 => exact h.elim
    obtain ⟨t, b, x, y, l, ws, rfl, rfl, hM, S, hl, hw, k⟩ := h
    refine ⟨_, rfl, ws.map uw, hM, comp_map (fun i => ((ws.map (rwl t b x y))[i]?).getD .non) (by simp; omega) (fun p ys hp => ?_) ?_ (fun p hp => ⟨_, updM_same, ?_⟩)⟩
    · show (updM M p _) l = _
      rw [updM_ne (ne_fresh hM hp)]; exact hM
    · intro i e M' hi he _
      have he : (ws.map uw)[i]? = some e := he
      rw [List.getElem?_map] at he
      cases ew : ws[i]? with
      | none => rw [ew] at he; cases he
      | some w =>
        rw [ew] at he
        cases he
        obtain ⟨u1, u2, u3, u4⟩ := hw w (List.mem_of_getElem? ew)
        refine ⟨_, ⟨_, rfl, rfl, rfl⟩, fun K hK => ?_⟩
        have hK' := hK M' .refl
        rw [getD_map ew] at hK'
        refine ⟨_, rfl, _, rfl, t, b, x, y, w.1, w.2.1, rfl, rfl, S, u1, u2, ?_⟩
        exact ⟨_, rfl, _, rfl, t, b, x, y, w.2.2.1, w.2.2.2, rfl, rfl, S, u3, u4, Nat.le_of_ble_eq_true rfl, hK'⟩
    · refine ⟨_, .new hp .refl, ?_⟩
      have e : (List.range (ws.map uw).length).map (fun i => ((ws.map (rwl t b x y))[i]?).getD .non) = ws.map (rwl t b x y) := by
        have := SD.range_getD (ws.map (rwl t b x y))
        rw [List.length_map] at this ⊢
        exact this
      dsimp only
      rw [e]
      exact k
/-! ### greatest_divisor, level 1 -/
theorem sc_greatest_divisor : FnScope ["one", "other"] ["one", "other"] (defScope s_greatest_divisor) := ⟨rfl, rfl, rfl, by decide +kernel, rfl, by decide +kernel, by decide +kernel⟩
def sp_greatest_divisor : SpD := fun ds M Q => match ds with
  | [x, y] => ∃ a b : Nat, x = .int (a : Int) ∧ y = .int (b : Int) ∧ Q (.int ((Nat.gcd a b : Nat) : Int)) M
  | _ => False
theorem ln_greatest_divisor : ∀ ds M Q, sp_greatest_divisor ds M Q → ds.length = 2 := fun ds M Q h => by
  unfold sp_greatest_divisor at h
  split at h
  · rfl
  · exact h.elim
set_option maxHeartbeats 4000000 in
theorem c_greatest_divisor {P : Program} {w : World} {K : PySem.W.Frag} {mg : Str → Option Value} {base : Heap} (T : Tx K mg) : Cal P w K mg base 1 "greatest_divisor" sp_greatest_divisor := by
  refine calD (k := 0) (N := ["one", "other"]) (ps := ["one", "other"]) T.f_greatest_divisor sc_greatest_divisor (fun _ _ _ _ _ _ us hl => match us, hl with | [_, _], _ => rfl) ln_greatest_divisor fun f cdv A outer s H E hr => ⟨_, (dss_cons (ds_while PassesOwn.never (dt_cmp (od_ne hr.units) (dv 1) de_int) (dss_one (ds_par 0 1 rfl sc_greatest_divisor.nd (da_cons (dv 1) (da_cons (de_op od_mod (dv 0) (dv 1)) da_nil)))))
      (dss_one (ds_ret (dv 0)))), fun ds M Q h => ?r⟩
  case r =>
    -- slots: 0 one, 1 other
    unfold sp_greatest_divisor at h
    split at h
    case h_2 => exact h.elim
    obtain ⟨a, b, rfl, rfl, q⟩ := h
    refine ⟨fun m δ M' => M' = M ∧ ∃ x y : Nat, δ = [some (.int x), some (.int y)] ∧ Nat.gcd x y = Nat.gcd a b ∧ m = y, ⟨_, rfl, _, _, rfl, rfl, rfl⟩, ?_⟩
    rintro m δ M' ⟨rfl, x, y, rfl, hxy, hm⟩
    refine ⟨_, rfl, _, rfl, ?_⟩
    refine ite2 (fun h => ?_) (fun h => ?_)
    · have hy : (y : Int) ≠ 0 := by simpa using h
      refine ⟨_, rfl, _, rfl, _, rfl, hy, _, _, rfl, ?_⟩
      have hy' : 0 < y := by omega
      refine ⟨x % y, by rw [hm]; exact Nat.mod_lt _ hy', rfl, y, x % y, ?_, ?_, rfl⟩
      · rw [← Ma.mod_nat]
        rfl
      · rw [← hxy, Nat.gcd_comm x y, Nat.gcd_rec y x, Nat.gcd_comm]
    · have hy : y = 0 := by simpa using h
      subst hy
      rw [Nat.gcd_zero_right] at hxy
      subst hxy
      exact ⟨_, rfl, rtn q⟩
/-! ### fraction, level 2 -/
theorem sc_fraction : FnScope ["top", "bottom", "divisor"] ["top", "bottom"] (defScope s_fraction) := ⟨rfl, rfl, rfl, by decide +kernel, rfl, by decide +kernel, by decide +kernel⟩
def sp_fraction : SpD := fun ds M Q => match ds with
  | [x, y] => ∃ t b, x = .int t ∧ y = .int b ∧ b ≠ 0 ∧ Bd 8000 t ∧ Bd 8000 b ∧ Q (Ma.fr (Rat.divInt t b)) M
  | _ => False
theorem ln_fraction : ∀ ds M Q, sp_fraction ds M Q → ds.length = 2 := fun ds M Q h => by
  unfold sp_fraction at h
  split at h
  · rfl
  · exact h.elim
set_option maxHeartbeats 4000000 in
theorem c_fraction {P : Program} {w : World} {K : PySem.W.Frag} {mg : Str → Option Value} {base : Heap} (T : Tx K mg) : Cal P w K mg base 2 "fraction" sp_fraction := by
  refine calD (k := 1) (N := ["top", "bottom", "divisor"]) (ps := ["top", "bottom"]) T.f_fraction sc_fraction (fun _ _ _ _ _ _ us hl => match us, hl with | [_, _], _ => rfl) ln_fraction fun f cdv A outer s H E hr => ⟨_, (dss_cons (ds_if (dt_cmp (od_eq hr.units) (dv 1) de_int) (dss_one ds_never) dss_nil)
      (dss_cons (ds_set 2 sc_fraction.nd (de_call ((c_greatest_divisor T).mono (by decide)) hr (da_cons (de_callB cd_abs rfl T.b_abs bt_abs (da_cons (dv 0) da_nil)) (da_cons (de_callB cd_abs rfl T.b_abs bt_abs (da_cons (dv 1) da_nil)) da_nil))))
      (dss_cons (ds_if (dt_cmp (od_ltX hr.units) (dv 1) de_int) (dss_one (ds_set 2 sc_fraction.nd (de_un un_negD (dv 2)))) dss_nil)
      (dss_one (ds_ret (de_tup (da_cons (de_op od_fd (dv 0) (dv 2)) (da_cons (de_op od_fd (dv 1) (dv 2)) da_nil)))))))), fun ds M Q h => ?r⟩
  case r =>
    -- slots: 0 top, 1 bottom, 2 divisor
    unfold sp_fraction at h
    split at h
    case h_2 => exact h.elim
    obtain ⟨t, b, rfl, rfl, hb, ht, hbb, q⟩ := h
    have hg := Ma.g_pos (t := t) hb
    have hgd : Bd 8000 ((Nat.gcd t.natAbs b.natAbs : Nat) : Int) := hbb.of_le (by simpa using Nat.gcd_le_right t.natAbs (show 0 < b.natAbs by omega))
    refine ⟨_, rfl, _, rfl, iteB (decide_eq_false hb) ?_⟩
    refine ⟨_, rfl, _, rfl, t.natAbs, b.natAbs, rfl, rfl, ?_⟩
    refine ⟨_, rfl, trivial, _, rfl, ?_⟩
    refine ite2 (fun h => ?_) (fun h => ?_)
    · have hneg : b < 0 := by simpa using h
      obtain ⟨e1, e2⟩ := Ma.low_neg (t := t) hneg
      refine ⟨_, rfl, _, rfl, _, rfl, ⟨by omega, hgd.neg⟩, _, rfl, _, rfl, ⟨by omega, hgd.neg⟩, Nat.le_of_ble_eq_true rfl, ?_⟩
      dsimp only
      rw [e1, e2]
      exact rtn q
    · have hpos : 0 < b := by
        have : ¬ b < 0 := by simpa using h
        omega
      obtain ⟨e1, e2⟩ := Ma.low_pos (t := t) hpos
      refine ⟨_, rfl, _, rfl, ⟨by omega, hgd⟩, _, rfl, _, rfl, ⟨by omega, hgd⟩, Nat.le_of_ble_eq_true rfl, ?_⟩
      dsimp only
      rw [e1, e2]
      exact rtn q
/-! ### own_spot, level 3 -/
theorem sc_own_spot : FnScope ["spot", "x", "y"] ["spot"] (defScope s_own_spot) := ⟨rfl, rfl, rfl, by decide +kernel, rfl, by decide +kernel, by decide +kernel⟩
def sp_own_spot : SpD := fun ds M Q => match ds with
  | [x] => ∃ a b : Rat, x = Ma.spt a b ∧ Ma.Bq 8000 a ∧ Ma.Bq 8000 b ∧ Q (Ma.spt a b) M
  | _ => False
theorem ln_own_spot : ∀ ds M Q, sp_own_spot ds M Q → ds.length = 1 := fun ds M Q h => by
  unfold sp_own_spot at h
  split at h
  · rfl
  · exact h.elim
set_option maxHeartbeats 4000000 in
theorem c_own_spot {P : Program} {w : World} {K : PySem.W.Frag} {mg : Str → Option Value} {base : Heap} (T : Tx K mg) : Cal P w K mg base 3 "own_spot" sp_own_spot := by
  refine calD (k := 2) (N := ["spot", "x", "y"]) (ps := ["spot"]) T.f_own_spot sc_own_spot (fun _ _ _ _ _ _ us hl => match us, hl with | [_], _ => rfl) ln_own_spot fun f cdv A outer s H E hr => ⟨_, (dss_cons (ds_asg (dv 0) (dg_tup rfl (dgs_cons (dg_name 1 sc_own_spot.nd) (dgs_cons (dg_name 2 sc_own_spot.nd) dgs_nil))))
      (dss_one (ds_ret (de_tup (da_cons (de_call ((c_fraction T).mono (by decide)) hr (da_cons (de_ix (dv 1) de_int) (da_cons (de_ix (dv 1) de_int) da_nil))) (da_cons (de_call ((c_fraction T).mono (by decide)) hr (da_cons (de_ix (dv 2) de_int) (da_cons (de_ix (dv 2) de_int) da_nil))) da_nil)))))), fun ds M Q h => ?r⟩
  case r =>
    -- slots: 0 spot, 1 x, 2 y
    unfold sp_own_spot at h
    split at h
    case h_2 => exact h.elim
    obtain ⟨a, b, rfl, h1, h2, k⟩ := h
    refine ⟨_, rfl, _, rfl, rfl, _, _, rfl, _, _, rfl, rfl, ?_⟩
    refine ⟨_, rfl, _, rfl, _, rfl, _, rfl, a.num, (a.den : Int), rfl, rfl, Ma.den_ne a, h1.1, h1.2, ?_⟩
    refine ⟨_, rfl, _, rfl, _, rfl, _, rfl, b.num, (b.den : Int), rfl, rfl, Ma.den_ne b, h2.1, h2.2, Nat.le_of_ble_eq_true rfl, ?_⟩
    rw [Rat.num_divInt_den, Rat.num_divInt_den]
    exact rtn k
/-! ### is_less, level 1 -/
theorem sc_is_less : FnScope ["one", "other"] ["one", "other"] (defScope s_is_less) := ⟨rfl, rfl, rfl, by decide +kernel, rfl, by decide +kernel, by decide +kernel⟩
def sp_is_less : SpD := fun ds M Q => match ds with
  | [x, y] => ∃ q r : Rat, x = Ma.fr q ∧ y = Ma.fr r ∧ Ma.Bq 100000 q ∧ Ma.Bq 100000 r ∧ Q (.bl (decide (q < r))) M
  | _ => False
theorem ln_is_less : ∀ ds M Q, sp_is_less ds M Q → ds.length = 2 := fun ds M Q h => by
  unfold sp_is_less at h
  split at h
  · rfl
  · exact h.elim
set_option maxHeartbeats 4000000 in
theorem c_is_less {P : Program} {w : World} {K : PySem.W.Frag} {mg : Str → Option Value} {base : Heap} (T : Tx K mg) : Cal P w K mg base 1 "is_less" sp_is_less := by
  refine calD (k := 0) (N := ["one", "other"]) (ps := ["one", "other"]) T.f_is_less sc_is_less (fun _ _ _ _ _ _ us hl => match us, hl with | [_, _], _ => rfl) ln_is_less fun f cdv A outer s H E hr => ⟨_, (dss_one (ds_ret (de_cmp (od_ltX hr.units) (de_op od_mul (de_ix (dv 0) de_int) (de_ix (dv 1) de_int)) (de_op od_mul (de_ix (dv 1) de_int) (de_ix (dv 0) de_int))))), fun ds M Q h => ?r⟩
  case r =>
    -- slots: 0 one, 1 other
    unfold sp_is_less at h
    split at h
    case h_2 => exact h.elim
    obtain ⟨q, r, rfl, rfl, h1, h2, k⟩ := h
    refine ⟨_, rfl, _, rfl, _, rfl, _, rfl, mulOk (h1.1.mono (by decide)) (h2.2.mono (by decide)), ?_⟩
    refine ⟨_, rfl, _, rfl, _, rfl, _, rfl, mulOk (h2.1.mono (by decide)) (h1.2.mono (by decide)), trivial, ?_⟩
    dsimp only
    rw [Ma.lt_fr]
    exact rtn k
/-! ### is_ahead, level 2 -/
theorem sc_is_ahead : FnScope ["one", "other"] ["one", "other"] (defScope s_is_ahead) := ⟨rfl, rfl, rfl, by decide +kernel, rfl, by decide +kernel, by decide +kernel⟩
def sp_is_ahead : SpD := fun ds M Q => match ds with
  | [x, y] => ∃ a b c d : Rat, x = Ma.spt a b ∧ y = Ma.spt c d ∧ Ma.Bq 100000 a ∧ Ma.Bq 100000 b ∧ Ma.Bq 100000 c ∧ Ma.Bq 100000 d ∧ Q (.bl (decide (a < c ∨ a = c ∧ b < d))) M
  | _ => False
theorem ln_is_ahead : ∀ ds M Q, sp_is_ahead ds M Q → ds.length = 2 := fun ds M Q h => by
  unfold sp_is_ahead at h
  split at h
  · rfl
  · exact h.elim
set_option maxHeartbeats 4000000 in
theorem c_is_ahead {P : Program} {w : World} {K : PySem.W.Frag} {mg : Str → Option Value} {base : Heap} (T : Tx K mg) : Cal P w K mg base 2 "is_ahead" sp_is_ahead := by
  refine calD (k := 1) (N := ["one", "other"]) (ps := ["one", "other"]) T.f_is_ahead sc_is_ahead (fun _ _ _ _ _ _ us hl => match us, hl with | [_, _], _ => rfl) ln_is_ahead fun f cdv A outer s H E hr => ⟨_, (dss_cons (ds_if (dt_cmp (od_eq hr.units) (de_ix (dv 0) de_int) (de_ix (dv 1) de_int)) (dss_one (ds_ret (de_call ((c_is_less T).mono (by decide)) hr (da_cons (de_ix (dv 0) de_int) (da_cons (de_ix (dv 1) de_int) da_nil))))) dss_nil)
      (dss_one (ds_ret (de_call ((c_is_less T).mono (by decide)) hr (da_cons (de_ix (dv 0) de_int) (da_cons (de_ix (dv 1) de_int) da_nil)))))), fun ds M Q h => ?r⟩
  case r =>
    -- slots: 0 one, 1 other
    unfold sp_is_ahead at h
    split at h
    case h_2 => exact h.elim
    obtain ⟨a, b, c, d, rfl, rfl, h1, h2, h3, h4, k⟩ := h
    refine ⟨_, rfl, _, rfl, _, rfl, _, rfl, _, _, Pd.of rfl, Pd.of rfl, rfl, rfl, ?_⟩
    rw [Ma.eqv_fr]
    refine ⟨_, rfl, ?_⟩
    refine ite2 (fun h => ?_) (fun h => ?_)
    · have e : a = c := by simpa using h
      subst e
      refine ⟨_, rfl, _, rfl, _, rfl, _, rfl, b, d, rfl, rfl, h2, h4, ?_⟩
      have z : (a < a ∨ a = a ∧ b < d) ↔ b < d := by
        have := Rat.lt_irrefl (a := a)
        simp [this]
      rw [decide_eq_decide.mpr z] at k
      exact rtn k
    · have e : ¬ a = c := by simpa using h
      refine ⟨_, rfl, _, rfl, _, rfl, _, rfl, a, c, rfl, rfl, h1, h3, ?_⟩
      have z : (a < c ∨ a = c ∧ b < d) ↔ a < c := by simp [e]
      rw [decide_eq_decide.mpr z] at k
      exact rtn k

/-! ### place_among, level 3 -/
theorem sc_place_among : FnScope ["row", "spot", "low", "high", "middle"] ["row", "spot"] (defScope s_place_among) := ⟨rfl, rfl, rfl, by decide +kernel, rfl, by decide +kernel, by decide +kernel⟩
def sp_place_among : SpD := fun ds M Q => match ds with
  | [x, y] => ∃ (l : Addr) (t b X Y : Int) (ps : List Vc) (u : Vc), x = .ref l ∧ y = gsp t b X Y u ∧ M l = some (.lst (ps.map (gsp t b X Y))) ∧ Scl t b X Y ∧ ps.length ≤ 200 ∧ (∀ p ∈ ps, B20 p) ∧ B20 u ∧ ps.Pairwise plt ∧
      ∀ j : Nat, j ≤ ps.length → (∀ i, i < j → plt (p0 ps i) u) → (∀ i, j ≤ i → i < ps.length → ¬ plt (p0 ps i) u) → Q (.int (j : Int)) M
  | _ => False
theorem ln_place_among : ∀ ds M Q, sp_place_among ds M Q → ds.length = 2 := fun ds M Q h => by
  unfold sp_place_among at h
  split at h
  · rfl
  · exact h.elim
set_option maxHeartbeats 4000000 in
theorem c_place_among {P : Program} {w : World} {K : PySem.W.Frag} {mg : Str → Option Value} {base : Heap} (T : Tx K mg) : Cal P w K mg base 3 "place_among" sp_place_among := by
  refine calD (k := 2) (N := ["row", "spot", "low", "high", "middle"]) (ps := ["row", "spot"]) T.f_place_among sc_place_among (fun _ _ _ _ _ _ us hl => match us, hl with | [_, _], _ => rfl) ln_place_among fun f cdv A outer s H E hr => ⟨_, (dss_cons (ds_par 2 3 rfl sc_place_among.nd (da_cons de_int (da_cons (de_callB cd_len rfl T.b_len bt_len (da_cons (dv 0) da_nil)) da_nil)))
      (dss_cons (ds_while PassesOwn.never (dt_cmp (od_ltX hr.units) (dv 2) (dv 3)) (dss_cons (ds_set 4 sc_place_among.nd (de_op od_fd (de_op od_add (dv 2) (dv 3)) de_int))
      (dss_one (ds_if (dt_val (de_call ((c_is_ahead T).mono (by decide)) hr (da_cons (de_ix (dv 0) (dv 4)) (da_cons (dv 1) da_nil)))) (dss_one (ds_set 2 sc_place_among.nd (de_op od_add (dv 4) de_int))) (dss_one (ds_set 3 sc_place_among.nd (dv 4)))))))
      (dss_one (ds_ret (dv 2))))), fun ds M Q h => ?r⟩
  case r =>
    -- slots: 0 row, 1 spot, 2 low, 3 high, 4 middle
    unfold sp_place_among at h
    split at h
    case h_2 => exact h.elim
    obtain ⟨l, t, b, X, Y, ps, u, rfl, rfl, hl, S, hn, hb, hu, up, k⟩ := h
    have hN : (ps.map (gsp t b X Y)).length = ps.length := by simp
    refine ⟨_, rfl, _, hl, _, _, rfl, ?_⟩
    refine ⟨fun m δ M' => M' = M ∧ ∃ (lo hi : Nat) (o4 : Option D), δ = [some (.ref l), some (gsp t b X Y u), some (.int (lo : Int)), some (.int (hi : Int)), o4] ∧ lo ≤ hi ∧ hi ≤ ps.length ∧ (∀ i, i < lo → plt (p0 ps i) u) ∧ (∀ i, hi ≤ i → i < ps.length → ¬ plt (p0 ps i) u) ∧ m = hi - lo, ⟨_, rfl, 0, ps.length, _, by rw [hN]; rfl, Nat.zero_le _, Nat.le_refl _, fun i hi => by omega, fun i h1 h2 => by omega, rfl⟩, ?_⟩
    rintro m δ M' ⟨rfl, lo, hi, o4, rfl, h1, h2, a, c, hm⟩
    refine ⟨_, rfl, _, rfl, trivial, _, rfl, ?_⟩
    refine ite2 (fun h => ?_) (fun h => ?_)
    · have hlt : lo < hi := by
        have : (lo : Int) < (hi : Int) := by simpa using h
        omega
      have hmid : Int.fdiv ((lo : Int) + (hi : Int)) 2 = (((lo + hi) / 2 : Nat) : Int) := by
        rw [Int.fdiv_eq_ediv_of_nonneg _ (by decide)]; omega
      have hk : (lo + hi) / 2 < ps.length := by omega
      refine ⟨_, rfl, _, rfl, ⟨by decide, bd64 (by decide)⟩, ?_⟩
      dsimp only
      rw [hmid]
      generalize hq : (lo + hi) / 2 = q at hk ⊢
      have em : ps[q]? = some (p0 ps q) := by unfold p0; simp [hk]
      have bq := hb _ (p0_mem hk)
      refine ⟨_, rfl, _, rfl, _, _, hl, atI_nat (by rw [List.getElem?_map, em]; rfl), _, rfl, _, _, _, _, rfl, rfl, (bq.bx S).mono (by decide), (bq.by' S).mono (by decide), (hu.bx S).mono (by decide), (hu.by' S).mono (by decide), _, rfl, ?_⟩
      have ah := gsp_ah (X := X) (Y := Y) S.t0 S.b0 bq hu
      refine ite2 (fun h => ?_) (fun h => ?_)
      · have z : plt (p0 ps q) u := ah.mp (by simpa [Ma.ah] using h)
        refine ⟨_, rfl, hi - (q + 1), by omega, rfl, q + 1, hi, _, rfl, by omega, h2, fun i hi' => ?_, c, rfl⟩
        by_cases e : i = q
        · subst e; exact z
        · have := List.pairwise_iff_getElem.mp up i q (by omega) hk (by omega)
          have e1 : p0 ps i = ps[i] := by unfold p0; simp [show i < ps.length by omega]
          have e2 : p0 ps q = ps[q] := by unfold p0; simp [hk]
          rw [e2] at z
          rw [e1]
          unfold plt at z this ⊢; omega
      · have z : ¬ plt (p0 ps q) u := fun w => by
          have := ah.mpr w
          simp [Ma.ah] at h this
          exact absurd this (by simpa using h)
        refine ⟨_, rfl, q - lo, by omega, rfl, lo, q, _, rfl, by omega, by omega, a, fun i h3 h4 => ?_, rfl⟩
        by_cases e : i = q
        · subst e; exact z
        · have := List.pairwise_iff_getElem.mp up q i hk (by omega) (by omega)
          have e1 : p0 ps i = ps[i] := by unfold p0; simp [show i < ps.length by omega]
          have e2 : p0 ps q = ps[q] := by unfold p0; simp [hk]
          rw [e2] at z
          rw [e1]
          unfold plt at z this ⊢; omega
    · have : lo = hi := by
        have : ¬ (lo : Int) < (hi : Int) := by simpa using h
        omega
      subst this
      walk_at "rd"
      exact rtn (k lo h2 a c)
/-! ### ahead_first, level 4 -/
theorem sc_ahead_first : FnScope ["spots", "row", "spot"] ["spots"] (defScope s_ahead_first) := ⟨rfl, rfl, rfl, by decide +kernel, rfl, by decide +kernel, by decide +kernel⟩
def sp_ahead_first : SpD := fun ds M Q => match ds with
  | [x] => ∃ (l : Addr) (t b X Y : Int) (us : List Vc), x = .ref l ∧ M l = some (.lst (us.map (gsp t b X Y))) ∧ Scl t b X Y ∧ us.length ≤ 200 ∧ (∀ p ∈ us, B20 p) ∧ us.Nodup ∧
      ∀ (M' : MH) (z : Addr) (ps : List Vc), SD.Sub M M' → M z = none → M' z = some (.lst (ps.map (gsp t b X Y))) → ps.Perm us → ps.Pairwise plt → Q (.ref z) M'
  | _ => False
theorem ln_ahead_first : ∀ ds M Q, sp_ahead_first ds M Q → ds.length = 1 := fun ds M Q h => by
  unfold sp_ahead_first at h
  split at h
  · rfl
  · exact h.elim
set_option maxHeartbeats 4000000 in
theorem c_ahead_first {P : Program} {w : World} {K : PySem.W.Frag} {mg : Str → Option Value} {base : Heap} (T : Tx K mg) : Cal P w K mg base 4 "ahead_first" sp_ahead_first := by
  refine calD (k := 3) (N := ["spots", "row", "spot"]) (ps := ["spots"]) T.f_ahead_first sc_ahead_first (fun _ _ _ _ _ _ us hl => match us, hl with | [_], _ => rfl) ln_ahead_first fun f cdv A outer s H E hr => ⟨_, (dss_cons (ds_set 1 sc_ahead_first.nd (de_lst da_nil))
      (dss_cons (ds_for PassesOwn.never rfl (di_seq (dv 0)) (dg_name 2 sc_ahead_first.nd) (dss_one (ds_expr (de_m_insert (dv 1) (da_cons (de_call ((c_place_among T).mono (by decide)) hr (da_cons (dv 1) (da_cons (dv 2) da_nil))) (da_cons (dv 2) da_nil))))))
      (dss_one (ds_ret (dv 1))))), fun ds M Q h => ?r⟩
  case r =>
    -- slots: 0 spots, 1 row, 2 spot
    unfold sp_ahead_first at h
    split at h
    case h_2 => exact h.elim
    obtain ⟨l, t, b, X, Y, us, rfl, hl, S, hn, hb, nd, k⟩ := h
    refine ⟨Nat.le_of_ble_eq_true rfl, fun z hz => ?_⟩
    have nlz : l ≠ z := ne_fresh hl hz
    refine ⟨_, rfl, us.map (gsp t b X Y), (by show (updM M z _) l = _; rw [updM_ne nlz]; exact hl), ?_⟩
    refine ⟨fun i δ M' => ∃ (ps : List Vc) (o2 : Option D), δ = [some (.ref l), some (.ref z), o2] ∧ SD.Sub M M' ∧ M' z = some (.lst (ps.map (gsp t b X Y))) ∧ ps.Perm (us.take i) ∧ ps.Pairwise plt, ⟨[], _, rfl, .new hz .refl, updM_same, by simp, List.Pairwise.nil⟩, fun i δ M' _ q => let ⟨_, _, _, sb, _⟩ := q; sb _ _ hl, ?_, ?_⟩
    · rintro i d δ M' hi hd ⟨ps, o2, rfl, sb, hz', pm, up⟩
      have hd : (us.map (gsp t b X Y))[i]? = some d := hd
      rw [List.getElem?_map] at hd
      cases eu : us[i]? with
      | none => rw [eu] at hd; cases hd
      | some u =>
        rw [eu] at hd
        cases hd
        have iu : i < us.length := (List.getElem?_eq_some_iff.mp eu).1
        have eu' : us[i] = u := (List.getElem?_eq_some_iff.mp eu).2
        have bu := hb u (List.mem_of_getElem? eu)
        have mps : ∀ p ∈ ps, p ∈ us := fun p hp => List.mem_of_mem_take (pm.mem_iff.mp hp)
        have bps : ∀ p ∈ ps, B20 p := fun p hp => hb p (mps p hp)
        have lps : ps.length = i := by rw [pm.length_eq, List.length_take]; omega
        have nu : u ∉ ps := fun hp => by
          have := pm.mem_iff.mp hp
          obtain ⟨j, hj, ej⟩ := List.getElem_of_mem this
          have hj' : j < i := by rw [List.length_take] at hj; omega
          rw [List.getElem_take] at ej
          have := List.pairwise_iff_getElem.mp nd j i (by omega) iu hj'
          exact this (ej.trans eu'.symm)
        refine ⟨_, rfl, z, _, rfl, hz', _, rfl, _, rfl, z, t, b, X, Y, ps, u, rfl, rfl, hz', S, by omega, bps, bu, up, fun j hj a c => ?_⟩
        obtain ⟨i1, i2⟩ := ins_up up hj a fun i h1 h2 => plt_tri (bps _ (p0_mem h2)) bu (fun e => nu (e ▸ p0_mem h2)) (c i h1 h2)
        refine ⟨_, rfl, _, _, j, rfl, hz', by rw [List.length_map]; exact hj, by rw [List.length_map]; omega, insD ps j u, _, rfl, fun a o h => ?_, by rw [updM_same, insD_map], ?_, i1⟩
        · rw [updM_ne (ne_fresh h hz)]; exact sb _ _ h
        · rw [List.take_succ, eu]
          exact i2.trans ((List.Perm.cons u pm).trans (List.perm_append_singleton u (us.take i)).symm)
    · rintro δ M' ⟨ps, o2, rfl, sb, hz', pm, up⟩
      have e : us.take (us.map (gsp t b X Y)).length = us := by rw [List.length_map, List.take_length]
      exact ⟨_, rfl, M', .refl, k M' z ps sb hz hz' (by rw [← e]; exact pm) up⟩
/-! ### corners_of, level 5 -/
theorem sc_corners_of : FnScope ["plot", "corners", "wall", "end"] ["plot"] (defScope s_corners_of) := ⟨rfl, rfl, rfl, by decide +kernel, rfl, by decide +kernel, by decide +kernel⟩
def sp_corners_of : SpD := fun ds M Q => match ds with
  | [x] => ∃ (t b X Y : Int) (ws : List Wl), x = .tup (ws.map (rwl t b X Y)) ∧ Scl t b X Y ∧ ws.length ≤ 40 ∧ (∀ w ∈ ws, Un5 w) ∧
      ∀ (M' : MH) (z : Addr) (ps : List Vc), SD.Sub M M' → M z = none → M' z = some (.lst (ps.map (gsp t b X Y))) → ps.Perm (cnr ws ws.length) → ps.Pairwise plt → Q (.ref z) M'
  | _ => False
theorem ln_corners_of : ∀ ds M Q, sp_corners_of ds M Q → ds.length = 1 := fun ds M Q h => by
  unfold sp_corners_of at h
  split at h
  · rfl
  · exact h.elim
set_option maxHeartbeats 4000000 in
theorem c_corners_of {P : Program} {w : World} {K : PySem.W.Frag} {mg : Str → Option Value} {base : Heap} (T : Tx K mg) : Cal P w K mg base 5 "corners_of" sp_corners_of := by
  refine calD (k := 4) (N := ["plot", "corners", "wall", "end"]) (ps := ["plot"]) T.f_corners_of sc_corners_of (fun _ _ _ _ _ _ us hl => match us, hl with | [_], _ => rfl) ln_corners_of fun f cdv A outer s H E hr => ⟨_, (dss_cons (ds_set 1 sc_corners_of.nd de_dsnew)
      (dss_cons (ds_for PassesOwn.never rfl (di_seq (dv 0)) (dg_name 2 sc_corners_of.nd) (dss_one (ds_for PassesOwn.never rfl (di_seq (dv 2)) (dg_name 3 sc_corners_of.nd) (dss_one (ds_dsput (ru66 hr) (dv 1) (de_call ((c_own_spot T).mono (by decide)) hr (da_cons (dv 3) da_nil)) de_bl)))))
      (dss_one (ds_ret (de_call ((c_ahead_first T).mono (by decide)) hr (da_cons (de_callTy (cd_listX rfl) rfl T.b_list bt_list (da_cons (dv 1) da_nil)) da_nil)))))), fun ds M Q h => ?r⟩
  case r =>
    -- slots: 0 plot, 1 corners, 2 wall, 3 end
    unfold sp_corners_of at h
    split at h
    case h_2 => exact h.elim
    obtain ⟨t, b, X, Y, ws, rfl, S, hn, hU, k⟩ := h
    intro c hc
    refine ⟨_, rfl, ws.map (rwl t b X Y), rfl, ?_⟩
    refine ⟨fun i δ M' => ∃ (o2 o3 : Option D), δ = [some (.tup (ws.map (rwl t b X Y))), some (.ref c), o2, o3] ∧ SD.Sub M M' ∧ M' c = some (dsM (cdT t b X Y (cnr ws i))), ⟨_, _, rfl, .new hc .refl, updM_same⟩, fun i δ M' _ q => rfl, ?_, ?_⟩
    · rintro i d δ M' hi hd ⟨o2, o3, rfl, sb, hc'⟩
      have hd : (ws.map (rwl t b X Y))[i]? = some d := hd
      rw [List.getElem?_map] at hd
      cases ew : ws[i]? with
      | none => rw [ew] at hd; cases hd
      | some w =>
        rw [ew] at hd
        cases hd
        have iw : i < ws.length := (List.getElem?_eq_some_iff.mp ew).1
        have hw := hU w (List.mem_of_getElem? ew)
        have lc := cnr_len ws i
        refine ⟨_, rfl, [gsp t b X Y (ea w), gsp t b X Y (eb w)], rfl, ?_⟩
        refine ⟨fun j δ M'' => ∃ (us : List Vc) (o3 : Option D), δ = [some (.tup (ws.map (rwl t b X Y))), some (.ref c), some (rwl t b X Y w), o3] ∧ SD.Sub M M'' ∧ M'' c = some (dsM (cdT t b X Y us)) ∧ us.length ≤ 2 * i + j ∧ (j = 0 → us = cnr ws i) ∧ (j = 1 → us = addU (cnr ws i) (ea w)) ∧ (j = 2 → us = addU (addU (cnr ws i) (ea w)) (eb w)), ⟨cnr ws i, _, rfl, sb, hc', by omega, fun _ => rfl, fun h => by omega, fun h => by omega⟩, fun i δ M' _ q => rfl, ?_, ?_⟩
        · rintro j d δ M'' hj hd ⟨us, o3, rfl, sb2, hc2, lu, u0, u1, u2⟩
          have hj : j < 2 := hj
          obtain ⟨u, rfl, bu, hu⟩ : ∃ u, d = gsp t b X Y u ∧ B20 u ∧ (j = 0 → u = ea w) ∧ (j = 1 → u = eb w) := by
            have hd : ([gsp t b X Y (ea w), gsp t b X Y (eb w)] : List D)[j]? = some d := hd
            rcases (show j = 0 ∨ j = 1 by omega) with rfl | rfl
            · cases hd; exact ⟨_, rfl, hw.ea, fun _ => rfl, fun h => by omega⟩
            · cases hd; exact ⟨_, rfl, hw.eb, fun h => by omega, fun _ => rfl⟩
          refine ⟨_, rfl, _, rfl, _, _, rfl, (bu.bx S).mono (by decide), (bu.by' S).mono (by decide), c, _, gk t b X Y u, rfl, gsp_gk t b X Y u, hc2, ?_, addU us u, _, rfl, ?_, by rw [updM_same, cdT_put S.t0 S.b0], by have := len_addU us u; omega, fun h => by omega, fun h => ?_, fun h => ?_⟩
          · show (cdT t b X Y us).length < _
            unfold cdT; rw [List.length_map]; omega
          · intro a o h; rw [updM_ne (ne_fresh h hc)]; exact sb2 _ _ h
          · have : j = 0 := by omega
            rw [u0 this, hu.1 this]
          · have : j = 1 := by omega
            rw [u1 this, hu.2 this]
        · rintro δ M'' ⟨us, o3, rfl, sb2, hc2, lu, u0, u1, u2⟩
          refine ⟨_, _, rfl, sb2, ?_⟩
          rw [hc2, u2 rfl]
          congr 3
          show _ = (match ws[i]? with | some w => addU (addU (cnr ws i) (ea w)) (eb w) | none => cnr ws i)
          rw [ew]
    · rintro δ M' ⟨o2, o3, rfl, sb, hc'⟩
      have hc' : M' c = some (dsM (cdT t b X Y (cnr ws ws.length))) := by
        have e : (ws.map (rwl t b X Y)).length = ws.length := by simp
        rw [← e]; exact hc'
      refine ⟨_, rfl, .inr ⟨c, _, rfl, hc', fun p hp => ?_⟩⟩
      have ek : (cdT t b X Y (cnr ws ws.length)).map (fun x => spD x.1) = (cnr ws ws.length).map (gsp t b X Y) := by
        unfold cdT; rw [List.map_map]; rfl
      rw [ek]
      have lc := cnr_len ws ws.length
      refine ⟨p, t, b, X, Y, cnr ws ws.length, rfl, updM_same, S, by omega, cnr_b hU, cnr_nd ws _, fun M2 z ps sb2 hz hz2 pm up => ?_⟩
      have zp : z ≠ p := fun e => by subst e; rw [updM_same] at hz; cases hz
      have zM' : M' z = none := by rw [updM_ne zp] at hz; exact hz
      have zM : M z = none := by
        cases e : M z with
        | none => rfl
        | some o => rw [sb _ _ e] at zM'; cases zM'
      exact ⟨M2, .refl, k M2 z ps (fun a o h => sb2 _ _ (by rw [updM_ne (ne_fresh (sb _ _ h) hp)]; exact sb _ _ h)) zM hz2 pm up⟩

/-! ### law, level 6 -/
theorem sc_law : FnScope ["_law_script", "_law_k", "_law_row", "_law_scale_here", "_law_shuts", "_law_units", "_law_shut", "_law_due", "_law_plot", "_law_found"] ["_law_script"] (defScope s_law) := ⟨rfl, rfl, rfl, by decide +kernel, rfl, by decide +kernel, by decide +kernel⟩
def sp_law : SpD := fun ds M Q => match ds with
  | [x] => ∃ ns, x = .rol (List.map D.int ns) ∧ ns.length ≤ 63 ∧ ∀ M', Q (.bl true) M'
  | _ => False
theorem ln_law : ∀ ds M Q, sp_law ds M Q → ds.length = 1 := fun ds M Q h => by
  unfold sp_law at h
  split at h
  · rfl
  · exact h.elim
set_option maxHeartbeats 4000000 in
theorem c_law {P : Program} {w : World} {K : PySem.W.Frag} {mg : Str → Option Value} {fa : Addr} (T : Tx K mg) (hfa : mg "law" = some (.ref fa)) : ∃ fd, (∀ (s : Shared) (u : Value), BindsTo s fd ⟨[u], []⟩ [("_law_script", u)]) ∧ ∀ base : Heap, FnOk P w K mg base CX0 6 fa fd ["_law_script"] (liftSp K sp_law) := by
  refine lawD (k := 5) (N := ["_law_script", "_law_k", "_law_row", "_law_scale_here", "_law_shuts", "_law_units", "_law_shut", "_law_due", "_law_plot", "_law_found"]) T.f_law hfa sc_law (fun _ _ _ _ _ _ us hl => match us, hl with | [_], _ => rfl) ln_law fun base f cdv A outer s H E hr => ⟨_, (dss_cons (ds_forR PassesOwn.never rfl rfl T.b_range (da_cons (de_callB (cd_maxX rfl hr.units) rfl T.b_max bt_max (da_cons de_int (da_cons (de_callB (cd_minX rfl hr.units) rfl T.b_min bt_min (da_cons de_int (da_cons (de_callB cd_len rfl T.b_len bt_len (da_cons (dv 0) da_nil)) da_nil))) da_nil))) da_nil) (dg_name 1 sc_law.nd) (dss_cons (ds_set 2 sc_law.nd (de_lst (da_cons (de_call ((c_law_cell_at T).mono (by decide)) hr (da_cons (dv 0) (da_cons (dv 1) da_nil))) (da_cons de_int da_nil))))
      (dss_cons (ds_set 3 sc_law.nd (de_call ((c_law_scale T).mono (by decide)) hr (da_cons (dv 2) da_nil)))
      (dss_cons (ds_set 4 sc_law.nd (de_call ((c_law_shuts_here T).mono (by decide)) hr (da_cons (dv 2) (da_cons de_int (da_cons de_int da_nil)))))
      (dss_cons (ds_set 5 sc_law.nd (de_lst da_nil))
      (dss_cons (ds_for PassesOwn.never rfl (di_seq (dv 4)) (dg_name 6 sc_law.nd) (dss_one (ds_set 5 sc_law.nd (de_op od_add (dv 5) (de_comp1 (CScope.of (xs := ["_law_spot_here"]) (js := [5]) rfl) rfl (di_seq (dv 6)) (fun _ _ _ _ => (dts_one (dt_cmp (od_notin (ru66 hr)) (dv 0) (dv 1) (by with_unfolding_all rfl)))) (fun _ _ _ _ => (dv 0)))))))
      (dss_cons (ds_comp1 7 sc_law.nd (CScope.of (xs := ["_law_unit"]) (js := [3]) rfl) rfl (di_seq (de_callB cd_sortP rfl T.b_sorted bt_sorted (da_cons (dv 5) da_nil))) (fun _ _ _ _ => dts_nil) (fun _ _ _ _ => (de_call ((c_law_spot T).mono (by decide)) hr (da_cons (dv 1) (da_cons (dv 0) da_nil)))))
      (dss_cons (ds_set 8 sc_law.nd (de_call ((c_law_made T).mono (by decide)) hr (da_cons (dv 3) (da_cons (dv 4) da_nil))))
      (dss_cons (ds_set 9 sc_law.nd (de_call ((c_corners_of T).mono (by decide)) hr (da_cons (dv 8) da_nil)))
      (dss_cons (ds_if (dt_w (dw_or (dt_not (dt_val (de_callB (cd_isinstL (K := K) rfl) rfl T.b_isinstance bt_isinstance (da_cons (dv 9) (da_cons (de_ty rfl T.b_list bt_list) da_nil))))) (dw_or1 (dt_cmp (od_ne hr.units) (dv 9) (dv 7))))) (dss_one (ds_ret de_bl)) dss_nil)
      (dss_cons (ds_expr (de_m_reverse0 (dv 9)))
      (dss_cons (ds_expr (de_m_append (dv 9) (da_cons de_non da_nil)))
      (dss_one (ds_if (dt_w (dw_or (dt_cmp (od_ne hr.units) (de_call ((c_corners_of T).mono (by decide)) hr (da_cons (dv 8) da_nil)) (dv 7)) (dw_or1 (dt_cmp (od_ne hr.units) (dv 8) (de_call ((c_law_made T).mono (by decide)) hr (da_cons (dv 3) (da_cons (dv 4) da_nil))))))) (dss_one (ds_ret de_bl)) dss_nil))))))))))))))
      (dss_one (ds_ret de_bl))), fun ds M Q h => ?r⟩
  case r =>
    -- slots: 0 _law_script, 1 _law_k, 2 _law_row, 3 _law_scale_here, 4 _law_shuts, 5 _law_units, 6 _law_shut, 7 _law_due, 8 _law_plot, 9 _law_found
    unfold sp_law at h
    split at h
    case h_2 => exact h.elim
    obtain ⟨ns, rfl, hl, k⟩ := h
    refine ⟨_, rfl, (max 1 (min 4 (((List.map D.int ns).length : Nat) : Int))).toNat, ?_, by omega, fun i δ M => ∃ o1 o2 o3 o4 o5 o6 o7 o8 o9, δ = [some (.rol (List.map D.int ns)), o1, o2, o3, o4, o5, o6, o7, o8, o9], ⟨_, _, _, _, _, _, _, _, _, rfl⟩, ?_, fun _ _ _ => rtn (k _)⟩
    · rw [Int.toNat_of_nonneg (by omega)]
    rintro i δ M hi ⟨o1, o2, o3, o4, o5, o6, o7, o8, o9, rfl⟩
    refine ⟨_, rfl, _, rfl, ns, i, rfl, rfl, by omega, fun z => ⟨Nat.le_of_ble_eq_true rfl, fun row hrow => ?_⟩⟩
    refine ⟨_, rfl, row, z, 0, rfl, updM_same, by decide, by decide, fun x1 c1 t b sx sy S h1 h2 => ?_⟩
    refine ⟨_, rfl, row, x1, c1, 12, rfl, rfl, by decide, rfl, updM_same, h1, by omega, fun M2 x2 c2 l ws nrl hr2 hl2 g0 g1 g2 g3 g4 => ?_⟩
    refine ⟨Nat.le_of_ble_eq_true rfl, fun lu hlu => ?_⟩
    refine ⟨_, rfl, ws.map uw, (by show (updM M2 lu _) l = _; rw [updM_ne (ne_fresh hl2 hlu)]; exact hl2), ?_⟩
    refine ⟨fun j δ M' => ∃ (lu : Addr) (o6 : Option D), δ = [some (.rol (List.map D.int ns)), some (.int (i : Int)), some (.ref row), some (scl t b sx sy), some (.ref l), some (.ref lu), o6, o7, o8, o9] ∧ M' l = some (.lst (ws.map uw)) ∧ M' lu = some (.lst ((cnr ws j).map prD)), ⟨lu, _, rfl, by rw [updM_ne (ne_fresh hl2 hlu)]; exact hl2, updM_same⟩, fun j δ M' _ q => let ⟨_, _, _, h, _⟩ := q; h, ?_, ?_⟩
    · rintro j d δ M' hj hd ⟨lu, o6, rfl, hl3, hu3⟩
      have hd : (ws.map uw)[j]? = some d := hd
      rw [List.getElem?_map] at hd
      cases ew : ws[j]? with
      | none => rw [ew] at hd; cases hd
      | some w =>
        rw [ew] at hd
        cases hd
        have jw : j < ws.length := (List.getElem?_eq_some_iff.mp ew).1
        have hw := g3 w (List.mem_of_getElem? ew)
        have lc := cnr_len ws j
        refine ⟨_, rfl, _, rfl, [prD (ea w), prD (eb w)], rfl, comp_fm (fun j' => if j' = 0 then (if ea w ∈ cnr ws j then none else some (prD (ea w))) else (if eb w ∈ cnr ws j then none else some (prD (eb w)))) (Nat.le_of_ble_eq_true rfl) (fun _ _ _ => rfl) ?_ (fun lc' hlc' => ?_)⟩
        · intro a d M6 ha hd sb
          have ha : a < 2 := ha
          obtain ⟨u, rfl, hu⟩ : ∃ u, d = prD u ∧ (if a = 0 then (if ea w ∈ cnr ws j then none else some (prD (ea w))) else (if eb w ∈ cnr ws j then none else some (prD (eb w)))) = (if u ∈ cnr ws j then none else some (prD u)) := by
            have hd : ([prD (ea w), prD (eb w)] : List D)[a]? = some d := hd
            rcases (show a = 0 ∨ a = 1 by omega) with rfl | rfl
            · cases hd; exact ⟨_, rfl, rfl⟩
            · cases hd; exact ⟨_, rfl, rfl⟩
          refine ⟨_, rfl, fun K hK => ?_, fun v hv K hK => ?_⟩
          · rw [hu] at hK
            refine ⟨_, rfl, _, rfl, in_prs u _ _ (sb _ _ hu3) ⟨_, rfl, ?_⟩⟩
            by_cases h : u ∈ cnr ws j
            · rw [if_pos h] at hK; rw [decide_eq_true h]; exact hK
            · rw [if_neg h] at hK; rw [decide_eq_false h]; exact hK
          · rw [hu] at hv
            by_cases h : u ∈ cnr ws j
            · rw [if_pos h] at hv; cases hv
            · rw [if_neg h] at hv; cases hv
              exact ⟨_, rfl, hK _ .refl⟩
        · have hl4 : ∀ {G}, (updM M' lc' G) l = some (.lst (ws.map uw)) := fun {G} => by rw [updM_ne (ne_fresh hl3 hlc')]; exact hl3
          have hu4 : ∀ {G}, (updM M' lc' G) lu = some (.lst ((cnr ws j).map prD)) := fun {G} => by rw [updM_ne (ne_fresh hu3 hlc')]; exact hu3
          have lf : ((List.range 2).filterMap (fun j' => if j' = 0 then (if ea w ∈ cnr ws j then none else some (prD (ea w))) else (if eb w ∈ cnr ws j then none else some (prD (eb w))))).length ≤ 2 := by
            have := List.length_filterMap_le (fun j' : Nat => if j' = 0 then (if ea w ∈ cnr ws j then none else some (prD (ea w))) else (if eb w ∈ cnr ws j then none else some (prD (eb w)))) (List.range 2)
            simpa using this
          refine ⟨_, _, hu4, updM_same, ?_, fun q hq => ⟨q, _, rfl, ?_, ?_⟩⟩
          · have sz : 1000000 ≤ sizeLine := Nat.le_of_ble_eq_true rfl
            rw [List.length_map]
            exact Nat.le_trans (Nat.add_le_add_left lf _) (by omega)
          · rw [updM_ne (ne_fresh hl4 hq)]; exact hl4
          · rw [updM_same]
            have e : cnr ws (j + 1) = addU (addU (cnr ws j) (ea w)) (eb w) := by
              show (match ws[j]? with | some w => addU (addU (cnr ws j) (ea w)) (eb w) | none => cnr ws j) = _
              rw [ew]
            rw [e]
            exact congrArg (fun z => some (MO.lst z)) (fm_ends (cnr ws j) (ea w) (eb w) hw.eab)
    · rintro δ M' ⟨lu, o6, rfl, hl3, hu3⟩
      have hu3 : M' lu = some (.lst ((cnr ws ws.length).map prD)) := by
        have e : (ws.map uw).length = ws.length := by simp
        rw [← e]; exact hu3
      have lc := cnr_len ws ws.length
      have pb : Pb (cnr ws ws.length) := ⟨by omega, cnr_nd ws _, fun u hu => by have := (cnr_b g3 u hu).2; omega⟩
      refine ⟨_, rfl, cnr ws ws.length, hu3, pb, fun ls us hls pm up => ?_⟩
      have lus : us.length ≤ 24 := by rw [pm.length_eq]; omega
      have bus : ∀ u ∈ us, B20 u := fun u hu => cnr_b g3 u (pm.mem_iff.mp hu)
      have hl5 : (updM M' ls (.lst (us.map prD))) l = some (.lst (ws.map uw)) := by rw [updM_ne (ne_fresh hl3 hls)]; exact hl3
      have hs5 : (updM M' ls (.lst (us.map prD))) ls = some (.lst (us.map prD)) := updM_same
      generalize updM M' ls (.lst (us.map prD)) = M5 at hl5 hs5 ⊢
      refine ⟨us.map prD, hs5, comp_map (fun i => ((us.map (gsp t b sx sy))[i]?).getD .non) (by show (us.map prD).length ≤ 1000000; rw [List.length_map]; omega) (fun p ys hp => by show (updM M5 p _) ls = _; rw [updM_ne (ne_fresh hs5 hp)]; exact hs5) ?_ (fun ld hld => ?_)⟩
      · intro a d M6 ha hd sb
        have hd : (us.map prD)[a]? = some d := hd
        rw [List.getElem?_map] at hd
        cases eu : us[a]? with
        | none => rw [eu] at hd; cases hd
        | some u =>
          rw [eu] at hd
          cases hd
          have bu := bus u (List.mem_of_getElem? eu)
          refine ⟨_, rfl, fun K hK => ?_⟩
          have hK' := hK M6 .refl
          rw [getD_map eu] at hK'
          have b1 := bu.1
          have b2 := bu.2
          exact ⟨_, rfl, _, rfl, t, b, sx, sy, u.1, u.2, rfl, rfl, S, by omega, by omega, hK'⟩
      · have e : (List.range (us.map prD).length).map (fun i => ((us.map (gsp t b sx sy))[i]?).getD .non) = us.map (gsp t b sx sy) := by
          have := SD.range_getD (us.map (gsp t b sx sy))
          rw [List.length_map] at this ⊢
          exact this
        dsimp only
        rw [e]
        have hl6 : (updM M5 ld (.lst (us.map (gsp t b sx sy)))) l = some (.lst (ws.map uw)) := by rw [updM_ne (ne_fresh hl5 hld)]; exact hl5
        have hd6 : (updM M5 ld (.lst (us.map (gsp t b sx sy)))) ld = some (.lst (us.map (gsp t b sx sy))) := updM_same
        generalize updM M5 ld (.lst (us.map (gsp t b sx sy))) = M6 at hl6 hd6 ⊢
        have hW : ∀ w ∈ ws, Uok (10 ^ 6) w := fun w hw => by
          have h := g3 w hw
          have U : ∀ z : Int, (0 ≤ z ∧ z ≤ 20) → (-(10 ^ 6) ≤ z ∧ z ≤ 10 ^ 6) := fun z h => by omega
          exact ⟨U _ h.a, U _ h.b, U _ h.c, U _ h.d⟩
        refine ⟨_, rfl, _, rfl, t, b, sx, sy, l, ws, rfl, rfl, hl6, S, by omega, hW, ?_⟩
        refine ⟨_, rfl, t, b, sx, sy, ws, rfl, S, by omega, g3, fun M7 lf ps sb7 nlf hf7 pm7 up7 => ?_⟩
        have eps : ps = us := plt_uniq (pm7.trans pm.symm) up7 up
        subst eps
        have hd7 := sb7 _ _ hd6
        have eqq : PyData.eqv (.list (ps.map (gP t b sx sy))) (.list (ps.map (gP t b sx sy))) = true := by rw [PyData.eqv]; exact eqvAll_gsp S.t0 S.b0 ps
        walk_at "un"
        refine orT false false (fun K hK => ⟨_, rfl, .inr ⟨lf, _, "list", true, rfl, hf7, rfl, _, rfl, hK⟩⟩) (fun _ K hK => ⟨_, rfl, _, rfl, _, _, .lst hf7 (pds_gsp t b sx sy ps), .lst hd7 (pds_gsp t b sx sy ps), shaped_gsp _ _ _ _ _, shaped_gsp _ _ _ _ _, _, rfl, ?_⟩) ?_
        · rw [eqq]; exact hK
        refine iteB rfl ?_
        refine ⟨_, rfl, lf, _, rfl, hf7, ?_⟩
        refine ⟨_, rfl, lf, _, rfl, updM_same, _, _, rfl, updM_same, (by rw [List.length_reverse, List.length_map]; omega), ?_⟩
        have nl : l ≠ lf := ne_fresh hl6 nlf
        have nd : ld ≠ lf := ne_fresh hd6 nlf
        have hl8 : ∀ {G G'}, (updM (updM M7 lf G) lf G') l = some (.lst (ws.map uw)) := fun {G G'} => by rw [updM_ne nl, updM_ne nl]; exact sb7 _ _ hl6
        have hd8 : ∀ {G G'}, (updM (updM M7 lf G) lf G') ld = some (.lst (ps.map (gsp t b sx sy))) := fun {G G'} => by rw [updM_ne nd, updM_ne nd]; exact hd7
        walk_at "un"
        refine ⟨_, rfl, t, b, sx, sy, ws, rfl, S, by omega, g3, fun M9 lf2 ps2 sb9 _ hf9 pm9 up9 => ?_⟩
        have eps : ps2 = ps := plt_uniq (pm9.trans pm7.symm) up9 up7
        subst eps
        refine ⟨_, rfl, _, _, .lst hf9 (pds_gsp t b sx sy ps2), .lst (sb9 _ _ hd8) (pds_gsp t b sx sy ps2), shaped_gsp _ _ _ _ _, shaped_gsp _ _ _ _ _, _, rfl, ?_⟩
        rw [eqq]
        refine iteB rfl ?_
        refine ⟨_, rfl, _, rfl, _, rfl, t, b, sx, sy, l, ws, rfl, rfl, sb9 _ _ hl8, S, by omega, hW, ?_⟩
        refine ⟨.tuple (ws.map (rwP t b sx sy)), .tuple (ws.map (rwP t b sx sy)), .tup (pds_rw t b sx sy ws), .tup (pds_rw t b sx sy ws), shaped_rw _ _ _ _ _, shaped_rw _ _ _ _ _, _, rfl, ?_⟩
        rw [eqv_rws]
        exact iteB rfl ⟨_, _, _, _, _, _, _, _, _, rfl⟩
theorem law_sp (ns : List Int) (M : MH) (h : ns.length ≤ 63) : sp_law [.rol (ns.map D.int)] M (fun d _ => d = .bl true) := ⟨ns, rfl, h, fun _ => rfl⟩

/-! ### the law, the head -/
end Q_k10_corners
open PySem PySem.W PyProof.Rows
set_option maxRecDepth 100000 in
set_option maxHeartbeats 0 in
theorem PySem.Challenge.cw_spotlook_k10_corners_holds : PySem.Challenge.rw_spotlook_k10_corners.Holds := by
  w_on; o_law; k_head; (case hw => w_witness2)
  k_fill
  refine SD.law_walk (k := 6) (x := "_law_script") (sp := Q_k10_corners.sp_law) (l := PySem.Challenge.rw_spotlook_k10_corners) rfl rfl ⟨rfl, by decide, by decide⟩ (fun w h Y => PySem.W.kIn_of Y) ?F Q_k10_corners.law_sp
  case F =>
    intro w mg fa h KX G hmg
    have t_law_cell_at : SD.Txt (L2.KOf KX) mg "_law_cell_at" Q_k10_corners.s_law_cell_at := by
      dsimp only [L2.KOf]
      refine' SD.Txt.mk KX G ?a ?l ?c ?k
      (case a => k_is); (case l => k_is); (case c => k_is); (case k => k_is)
    have t_law_take : SD.Txt (L2.KOf KX) mg "_law_take" Q_k10_corners.s_law_take := by
      dsimp only [L2.KOf]
      refine' SD.Txt.mk KX G ?a ?l ?c ?k
      (case a => k_is); (case l => k_is); (case c => k_is); (case k => k_is)
    have t_law_scale : SD.Txt (L2.KOf KX) mg "_law_scale" Q_k10_corners.s_law_scale := by
      dsimp only [L2.KOf]
      refine' SD.Txt.mk KX G ?a ?l ?c ?k
      (case a => k_is); (case l => k_is); (case c => k_is); (case k => k_is)
    have t_law_turn : SD.Txt (L2.KOf KX) mg "_law_turn" Q_k10_corners.s_law_turn := by
      dsimp only [L2.KOf]
      refine' SD.Txt.mk KX G ?a ?l ?c ?k
      (case a => k_is); (case l => k_is); (case c => k_is); (case k => k_is)
    have t_law_on : SD.Txt (L2.KOf KX) mg "_law_on" Q_k10_corners.s_law_on := by
      dsimp only [L2.KOf]
      refine' SD.Txt.mk KX G ?a ?l ?c ?k
      (case a => k_is); (case l => k_is); (case c => k_is); (case k => k_is)
    have t_law_fair : SD.Txt (L2.KOf KX) mg "_law_fair" Q_k10_corners.s_law_fair := by
      dsimp only [L2.KOf]
      refine' SD.Txt.mk KX G ?a ?l ?c ?k
      (case a => k_is); (case l => k_is); (case c => k_is); (case k => k_is)
    have t_law_shuts_here : SD.Txt (L2.KOf KX) mg "_law_shuts_here" Q_k10_corners.s_law_shuts_here := by
      dsimp only [L2.KOf]
      refine' SD.Txt.mk KX G ?a ?l ?c ?k
      (case a => k_is); (case l => k_is); (case c => k_is); (case k => k_is)
    have t_law_low : SD.Txt (L2.KOf KX) mg "_law_low" Q_k10_corners.s_law_low := by
      dsimp only [L2.KOf]
      refine' SD.Txt.mk KX G ?a ?l ?c ?k
      (case a => k_is); (case l => k_is); (case c => k_is); (case k => k_is)
    have t_law_spot : SD.Txt (L2.KOf KX) mg "_law_spot" Q_k10_corners.s_law_spot := by
      dsimp only [L2.KOf]
      refine' SD.Txt.mk KX G ?a ?l ?c ?k
      (case a => k_is); (case l => k_is); (case c => k_is); (case k => k_is)
    have t_law_made : SD.Txt (L2.KOf KX) mg "_law_made" Q_k10_corners.s_law_made := by
      dsimp only [L2.KOf]
      refine' SD.Txt.mk KX G ?a ?l ?c ?k
      (case a => k_is); (case l => k_is); (case c => k_is); (case k => k_is)
    have t_greatest_divisor : SD.Txt (L2.KOf KX) mg "greatest_divisor" Q_k10_corners.s_greatest_divisor := by
      dsimp only [L2.KOf]
      refine' SD.Txt.mk KX G ?a ?l ?c ?k
      (case a => k_is); (case l => k_is); (case c => k_is); (case k => k_is)
    have t_fraction : SD.Txt (L2.KOf KX) mg "fraction" Q_k10_corners.s_fraction := by
      dsimp only [L2.KOf]
      refine' SD.Txt.mk KX G ?a ?l ?c ?k
      (case a => k_is); (case l => k_is); (case c => k_is); (case k => k_is)
    have t_own_spot : SD.Txt (L2.KOf KX) mg "own_spot" Q_k10_corners.s_own_spot := by
      dsimp only [L2.KOf]
      refine' SD.Txt.mk KX G ?a ?l ?c ?k
      (case a => k_is); (case l => k_is); (case c => k_is); (case k => k_is)
    have t_is_less : SD.Txt (L2.KOf KX) mg "is_less" Q_k10_corners.s_is_less := by
      dsimp only [L2.KOf]
      refine' SD.Txt.mk KX G ?a ?l ?c ?k
      (case a => k_is); (case l => k_is); (case c => k_is); (case k => k_is)
    have t_is_ahead : SD.Txt (L2.KOf KX) mg "is_ahead" Q_k10_corners.s_is_ahead := by
      dsimp only [L2.KOf]
      refine' SD.Txt.mk KX G ?a ?l ?c ?k
      (case a => k_is); (case l => k_is); (case c => k_is); (case k => k_is)
    have t_place_among : SD.Txt (L2.KOf KX) mg "place_among" Q_k10_corners.s_place_among := by
      dsimp only [L2.KOf]
      refine' SD.Txt.mk KX G ?a ?l ?c ?k
      (case a => k_is); (case l => k_is); (case c => k_is); (case k => k_is)
    have t_ahead_first : SD.Txt (L2.KOf KX) mg "ahead_first" Q_k10_corners.s_ahead_first := by
      dsimp only [L2.KOf]
      refine' SD.Txt.mk KX G ?a ?l ?c ?k
      (case a => k_is); (case l => k_is); (case c => k_is); (case k => k_is)
    have t_corners_of : SD.Txt (L2.KOf KX) mg "corners_of" Q_k10_corners.s_corners_of := by
      dsimp only [L2.KOf]
      refine' SD.Txt.mk KX G ?a ?l ?c ?k
      (case a => k_is); (case l => k_is); (case c => k_is); (case k => k_is)
    have t_law : SD.Txt (L2.KOf KX) mg "law" Q_k10_corners.s_law := by
      dsimp only [L2.KOf]
      refine' SD.Txt.mk KX G ?a ?l ?c ?k
      (case a => k_is); (case l => k_is); (case c => k_is); (case k => k_is)
    have b_abs : mg "abs" = none := by
      refine' PySem.W.mg_none_of KX G ?a
      (case a => k_is)
    have b_all : mg "all" = none := by
      refine' PySem.W.mg_none_of KX G ?a
      (case a => k_is)
    have b_int : mg "int" = none := by
      refine' PySem.W.mg_none_of KX G ?a
      (case a => k_is)
    have b_isinstance : mg "isinstance" = none := by
      refine' PySem.W.mg_none_of KX G ?a
      (case a => k_is)
    have b_len : mg "len" = none := by
      refine' PySem.W.mg_none_of KX G ?a
      (case a => k_is)
    have b_list : mg "list" = none := by
      refine' PySem.W.mg_none_of KX G ?a
      (case a => k_is)
    have b_max : mg "max" = none := by
      refine' PySem.W.mg_none_of KX G ?a
      (case a => k_is)
    have b_min : mg "min" = none := by
      refine' PySem.W.mg_none_of KX G ?a
      (case a => k_is)
    have b_range : mg "range" = none := by
      refine' PySem.W.mg_none_of KX G ?a
      (case a => k_is)
    have b_sorted : mg "sorted" = none := by
      refine' PySem.W.mg_none_of KX G ?a
      (case a => k_is)
    have b_tuple : mg "tuple" = none := by
      refine' PySem.W.mg_none_of KX G ?a
      (case a => k_is)
    exact Q_k10_corners.c_law ⟨t_law_cell_at, t_law_take, t_law_scale, t_law_turn, t_law_on, t_law_fair, t_law_shuts_here, t_law_low, t_law_spot, t_law_made, t_greatest_divisor, t_fraction, t_own_spot, t_is_less, t_is_ahead, t_place_among, t_ahead_first, t_corners_of, t_law, b_abs, b_all, b_int, b_isinstance, b_len, b_list, b_max, b_min, b_range, b_sorted, b_tuple⟩ hmg

